import PyProof.Rows.All
import Wide.All
import OpenK.AllK
import Wide.FinOn
import Open.SpecLaws
import KE.OsGo
import HandS.ForSpec
import HandS.TryMany
import HandS.Wide
import HandS.Comp
import HandS.Iter
import HandS.Zip
import HandS.Walk
import Kp408Spec
import PyKp408
import PySem.Challenge.RW_sievemill_s01_answers
set_option Elab.async false
set_option linter.all false
set_option maxRecDepth 100000
set_option maxHeartbeats 4000000
namespace Mill
open Kp408

/-! ### sums -/
theorem sum_nil : ([] : List Rat).sum = 0 := rfl
theorem sum_cons (a : Rat) (l : List Rat) : (a :: l).sum = a + l.sum := rfl
theorem sum_app : ∀ (l m : List Rat), (l ++ m).sum = l.sum + m.sum
  | [], m => by rw [List.nil_append, sum_nil, Rat.zero_add]
  | a :: l, m => by rw [List.cons_append, sum_cons, sum_cons, sum_app l m, Rat.add_assoc]
theorem sum_one (a : Rat) : [a].sum = a := by rw [sum_cons, sum_nil, Rat.add_zero]
theorem foldl_sum : ∀ (l : List Rat) (a : Rat), l.foldl (· + ·) a = a + l.sum
  | [], a => by rw [sum_nil, Rat.add_zero]; rfl
  | x :: l, a => by rw [List.foldl_cons, foldl_sum l, sum_cons, Rat.add_assoc]
theorem sum_rep0 : ∀ n : Nat, (List.replicate n (0 : Rat)).sum = 0
  | 0 => rfl
  | n + 1 => by rw [List.replicate_succ, sum_cons, sum_rep0 n, Rat.add_zero]
theorem nat_sum_cast : ∀ l : List Nat, (l.map fun (x : Nat) => (x : Rat)).sum = ((l.sum : Nat) : Rat)
  | [] => rfl
  | a :: l => by rw [List.map_cons, sum_cons, nat_sum_cast l, List.sum_cons, Rat.natCast_add]

/-! ### lowest terms -/
theorem low_num {n d : Nat} (hd : 0 < d) : (mkRat (n : Int) d).num = (n : Int) / ((Nat.gcd n d : Nat) : Int) := by
  rw [Rat.num_mkRat, if_neg (by omega), Int.natAbs_natCast, Nat.gcd_comm]
theorem low_den {n d : Nat} (hd : 0 < d) : (((mkRat (n : Int) d).den : Nat) : Int) = (d : Int) / ((Nat.gcd n d : Nat) : Int) := by
  rw [Rat.den_mkRat, if_neg (by omega), Int.natAbs_natCast, Nat.gcd_comm, Int.natCast_ediv]

/-! ### bounds: m / D with few bits -/
def Sm (b : Nat) (q : Rat) : Prop := ∃ n d : Nat, q.num = (n : Int) ∧ q.den = d ∧ n < 2 ^ b ∧ 0 < d ∧ d < 2 ^ b
def OkD (D b : Nat) (q : Rat) : Prop := ∃ m : Nat, m < 2 ^ b ∧ q * (D : Rat) = (m : Rat)
def Bd (b : Nat) (qs : List Rat) : Prop := ∃ D : Nat, 0 < D ∧ D < 2 ^ b ∧ ∀ q ∈ qs, OkD D b q

theorem nat_ne {D : Nat} (h : 0 < D) : (D : Rat) ≠ 0 := fun e => by
  have := Rat.natCast_eq_zero_iff.mp e
  omega
theorem pow_le {a b : Nat} (h : a ≤ b) : 2 ^ a ≤ 2 ^ b := Nat.pow_le_pow_right (by decide) h
theorem OkD.sm {D b : Nat} {q : Rat} (hD : 0 < D) (hb : D < 2 ^ b) (h : OkD D b q) : Sm b q := by
  obtain ⟨m, hm, e⟩ := h
  have e2 : q = mkRat (m : Int) D := by
    rw [Rat.mkRat_eq_div]
    show q = ((m : Int) : Rat) / ((D : Nat) : Rat)
    rw [Rat.intCast_natCast, ← e, Rat.mul_div_cancel (nat_ne hD)]
  refine ⟨m / Nat.gcd m D, D / Nat.gcd m D, ?_, ?_, Nat.lt_of_le_of_lt (Nat.div_le_self _ _) hm, ?_, Nat.lt_of_le_of_lt (Nat.div_le_self _ _) hb⟩
  · rw [e2, low_num hD, Int.natCast_ediv]
  · rw [e2, Rat.den_mkRat, if_neg (by omega), Int.natAbs_natCast, Nat.gcd_comm]
  · exact Nat.div_pos (Nat.le_of_dvd hD (Nat.gcd_dvd_right m D)) (Nat.gcd_pos_of_pos_right m hD)
theorem Bd.sm {b : Nat} {qs : List Rat} (h : Bd b qs) {q : Rat} (hq : q ∈ qs) : Sm b q := by
  obtain ⟨D, h0, h1, h2⟩ := h
  exact (h2 q hq).sm h0 h1
theorem Sm.mono {b c : Nat} {q : Rat} (h : Sm b q) (hc : b ≤ c) : Sm c q := by
  obtain ⟨n, d, h1, h2, h3, h4, h5⟩ := h
  exact ⟨n, d, h1, h2, Nat.lt_of_lt_of_le h3 (pow_le hc), h4, Nat.lt_of_lt_of_le h5 (pow_le hc)⟩
theorem OkD.mono {D b c : Nat} {q : Rat} (h : OkD D b q) (hc : b ≤ c) : OkD D c q := by
  obtain ⟨m, hm, e⟩ := h
  exact ⟨m, Nat.lt_of_lt_of_le hm (pow_le hc), e⟩
theorem Bd.mono {b c : Nat} {qs : List Rat} (h : Bd b qs) (hc : b ≤ c) : Bd c qs := by
  obtain ⟨D, h0, h1, h2⟩ := h
  exact ⟨D, h0, Nat.lt_of_lt_of_le h1 (pow_le hc), fun q hq => (h2 q hq).mono hc⟩
theorem Bd.sub {b : Nat} {qs ps : List Rat} (h : Bd b qs) (hs : ∀ p ∈ ps, p ∈ qs) : Bd b ps := by
  obtain ⟨D, h0, h1, h2⟩ := h
  exact ⟨D, h0, h1, fun p hp => h2 p (hs p hp)⟩
theorem OkD.zero {D b : Nat} : OkD D b 0 := ⟨0, Nat.pow_pos (by decide), by rw [Rat.zero_mul]; rfl⟩
theorem OkD.add {D b : Nat} {p q : Rat} (hp : OkD D b p) (hq : OkD D b q) : OkD D (b + 1) (p + q) := by
  obtain ⟨m, hm, e⟩ := hp
  obtain ⟨n, hn, f⟩ := hq
  exact ⟨m + n, by rw [Nat.pow_succ]; omega, by rw [Rat.add_mul, e, f, Rat.natCast_add]⟩
theorem OkD.sum {D b : Nat} : ∀ {l : List Rat}, (∀ q ∈ l, OkD D b q) → OkD D (b + l.length) l.sum
  | [], _ => OkD.zero
  | q :: l, h => by
    rw [sum_cons]
    exact ((h q List.mem_cons_self).mono (Nat.le_add_right _ _)).add (OkD.sum fun p hp => h p (List.mem_cons_of_mem _ hp))
theorem OkD.nat {D b c n : Nat} (hD : D < 2 ^ b) (hn : n < 2 ^ c) : OkD D (b + c) (n : Rat) :=
  ⟨n * D, by rw [Nat.pow_add, Nat.mul_comm]; exact Nat.mul_lt_mul'' hD hn, by rw [Rat.natCast_mul]⟩
theorem OkD.lift {D b c e : Nat} {q : Rat} (h : OkD D b q) (he : e < 2 ^ c) : OkD (D * e) (b + c) q := by
  obtain ⟨m, hm, f⟩ := h
  exact ⟨m * e, by rw [Nat.pow_add]; exact Nat.mul_lt_mul'' hm he, by rw [Rat.natCast_mul, ← Rat.mul_assoc, f, Rat.natCast_mul]⟩
/-- times n / e -/
theorem OkD.scale {D b c n e : Nat} {q : Rat} (h : OkD D b q) (hn : n < 2 ^ c) (he : 0 < e) : OkD (D * e) (b + c) (q * (n : Rat) / (e : Rat)) := by
  obtain ⟨m, hm, f⟩ := h
  refine ⟨m * n, by rw [Nat.pow_add]; exact Nat.mul_lt_mul'' hm hn, ?_⟩
  have h1 := nat_ne he
  rw [Rat.natCast_mul, Rat.natCast_mul, ← f]
  grind
theorem mul_lt_pow {D e b c : Nat} (h : D < 2 ^ b) (h2 : e < 2 ^ c) : D * e < 2 ^ (b + c) := by
  rw [Nat.pow_add]
  exact Nat.mul_lt_mul'' h h2
theorem Bd.scale {b c n e : Nat} {q : Rat} (h : Bd b [q]) (hn : n < 2 ^ c) (he : 0 < e) (he2 : e < 2 ^ c) : Bd (b + c) [q * (n : Rat) / (e : Rat)] := by
  obtain ⟨D, h0, h1, h2⟩ := h
  refine ⟨D * e, Nat.mul_pos h0 he, mul_lt_pow h1 he2, fun p hp => ?_⟩
  rw [List.mem_singleton.mp hp]
  exact (h2 q List.mem_cons_self).scale hn he
theorem Bd.sum {b : Nat} {qs : List Rat} (h : Bd b qs) : Bd (b + qs.length) [qs.sum] := by
  obtain ⟨D, h0, h1, h2⟩ := h
  refine ⟨D, h0, Nat.lt_of_lt_of_le h1 (pow_le (Nat.le_add_right _ _)), fun p hp => ?_⟩
  rw [List.mem_singleton.mp hp]
  exact OkD.sum h2
theorem Bd.nats {b : Nat} {qs : List Rat} (h0 : 0 < b) (h : ∀ q ∈ qs, ∃ n : Nat, n < 2 ^ b ∧ q = (n : Rat)) : Bd b qs :=
  ⟨1, by decide, Nat.one_lt_two_pow (by omega), fun q hq => by
    obtain ⟨n, hn, e⟩ := h q hq
    refine ⟨n, hn, ?_⟩
    rw [e]
    exact Rat.mul_one _⟩
theorem nat_sm {n b : Nat} (h : n < 2 ^ b) (hb : 0 < b) : Sm b (n : Rat) := ⟨n, 1, rfl, rfl, h, by decide, Nat.one_lt_two_pow (by omega)⟩

/-! ### the fractions' operations, by numerator and denominator -/
theorem nn_of {b : Nat} {q : Rat} (h : Sm b q) : ∃ n d : Nat, q.num = (n : Int) ∧ ((q.den : Nat) : Int) = (d : Int) ∧ n < 2 ^ b ∧ 0 < d ∧ d < 2 ^ b ∧ q = mkRat (n : Int) d := by
  obtain ⟨n, d, h1, h2, h3, h4, h5⟩ := h
  exact ⟨n, d, h1, by rw [h2], h3, h4, h5, by rw [← h1, ← h2, Rat.mkRat_self]⟩
theorem add_low {p q : Rat} {a b c d : Nat} (hp : p = mkRat (a : Int) b) (hq : q = mkRat (c : Int) d) (hb : 0 < b) (hd : 0 < d) : p + q = mkRat (((a * d + c * b : Nat)) : Int) (b * d) := by
  rw [hp, hq, Rat.mkRat_add_mkRat _ _ (by omega) (by omega)]
  rfl
theorem scale_low {p : Rat} {a b n e : Nat} (hp : p = mkRat (a : Int) b) : p * (n : Rat) / (e : Rat) = mkRat ((a * n : Nat) : Int) (b * e) := by
  rw [hp, Rat.mkRat_eq_div, Rat.mkRat_eq_div, Int.natCast_mul, Rat.intCast_mul, Rat.natCast_mul, Rat.intCast_natCast, Rat.intCast_natCast, Rat.div_def, Rat.div_def, Rat.div_def, Rat.inv_mul_rev]
  grind
theorem le_low {p q : Rat} : (q ≤ p) ↔ q.num * (p.den : Int) ≤ p.num * (q.den : Int) := Rat.le_iff q p
theorem frac_eq {n d : Nat} : mkRat (n : Int) d = (n : Rat) / (d : Rat) := by
  rw [Rat.mkRat_eq_div, Rat.intCast_natCast]

/-! ### splitting a sum over the classes -/
theorem sum_tail {g : Nat → Rat} {m : Nat} (h : ∀ i, i < m → g i = 0) : ∀ n, m ≤ n → ((List.range n).map g).sum = ((List.range' m (n - m)).map g).sum := by
  intro n hn
  obtain ⟨k, rfl⟩ := Nat.exists_eq_add_of_le hn
  rw [Nat.add_sub_cancel_left]
  induction k with
  | zero =>
    have : ∀ j, j ≤ m → ((List.range j).map g).sum = 0 := fun j => by
      induction j with
      | zero => intro _; rfl
      | succ j ih =>
        intro hj
        rw [List.range_succ, List.map_append, sum_app, ih (by omega), List.map_singleton, sum_one, h j (by omega), Rat.add_zero]
    rw [Nat.add_zero, this m (Nat.le_refl _)]
    rfl
  | succ k ih =>
    rw [← Nat.add_assoc, List.range_succ, List.range'_concat, List.map_append, List.map_append, sum_app, sum_app, ih (by omega)]
    simp [Nat.one_mul]
theorem range'_map_eq {g f : Nat → Rat} {m k : Nat} (h : ∀ i, m ≤ i → i < m + k → g i = f i) : (List.range' m k).map g = (List.range' m k).map f := by
  refine List.map_congr_left fun i hi => ?_
  obtain ⟨j, hj, e⟩ := List.mem_range'.mp hi
  exact h i (by omega) (by omega)

/-! ### one pass -/
def bAt (B : List (List Nat)) (i j : Nat) : Nat := (B.getD i []).getD j 0
/-- row i has i + 1 numbers of 0 to 100 -/
def Shape (B : List (List Nat)) : Prop := ∀ i row, B[i]? = some row → row.length = i + 1 ∧ ∀ x ∈ row, x ≤ 100
theorem bAt_le {B : List (List Nat)} (h : Shape B) (i j : Nat) : bAt B i j ≤ 100 := by
  unfold bAt
  rw [List.getD_eq_getElem?_getD, List.getD_eq_getElem?_getD]
  cases e : B[i]? with
  | none => simp
  | some row =>
    show (row[j]?).getD 0 ≤ 100
    cases e2 : row[j]? with
    | none => simp
    | some x => exact (h i row e).2 x (List.mem_of_getElem? e2)
theorem bAt_zero {B : List (List Nat)} (h : Shape B) {i j : Nat} (hij : i < j) : bAt B i j = 0 := by
  unfold bAt
  rw [List.getD_eq_getElem?_getD, List.getD_eq_getElem?_getD]
  cases e : B[i]? with
  | none => simp
  | some row =>
    show (row[j]?).getD 0 = 0
    rw [List.getElem?_eq_none (by rw [(h i row e).1]; omega)]
    rfl
theorem bAt_get {B : List (List Nat)} {i j v : Nat} {row : List Nat} (e : B[i]? = some row) (e2 : row[j]? = some v) : bAt B i j = v := by
  unfold bAt
  rw [List.getD_eq_getElem?_getD, List.getD_eq_getElem?_getD, e]
  show (row[j]?).getD 0 = v
  rw [e2]
  rfl
/-- a summand: what class i gives to class j -/
def part (B : List (List Nat)) (x : List Rat) (j i : Nat) : Rat := x.getD i 0 * ((bAt B i j : Nat) : Rat) / ((100 : Nat) : Rat)
def arr (B : List (List Nat)) (x : List Rat) (j first : Nat) : Rat := ((List.range' first (x.length - first)).map (part B x j)).sum
def pass (B : List (List Nat)) (x : List Rat) : List Rat := (List.range x.length).map fun j => arr B x j j
theorem part_spec (s : Circuit) (x : List Rat) (i j : Nat) : amountAt x i * breakageAt s i j = part s.breakage x j i := by
  show x.getD i 0 * (((bAt s.breakage i j : Nat) : Rat) / 100) = x.getD i 0 * ((bAt s.breakage i j : Nat) : Rat) / ((100 : Nat) : Rat)
  rw [Rat.div_def, Rat.div_def, Rat.mul_assoc]
  rfl
theorem part_zero {B : List (List Nat)} {x : List Rat} {i j : Nat} (h : bAt B i j = 0) : part B x j i = 0 := by
  unfold part
  rw [h]
  grind
theorem ground_pass {s : Circuit} {x : List Rat} (h : Shape s.breakage) (hl : x.length = s.breakage.length) : ground s x = pass s.breakage x := by
  unfold ground pass classCount
  rw [hl]
  refine List.map_congr_left fun j hj => ?_
  have hj := List.mem_range.mp hj
  unfold arr
  rw [hl]
  have e : ((List.range s.breakage.length).map fun i => amountAt x i * breakageAt s i j) = (List.range s.breakage.length).map (part s.breakage x j) := List.map_congr_left fun i _ => part_spec s x i j
  rw [e, sum_tail (m := j) (fun i hi => part_zero (bAt_zero h hi)) _ (Nat.le_of_lt hj)]
theorem pass_len (B : List (List Nat)) (x : List Rat) : (pass B x).length = x.length := by
  unfold pass
  rw [List.length_map, List.length_range]
theorem getD_okD {D b : Nat} {x : List Rat} (h : ∀ q ∈ x, OkD D b q) (i : Nat) : OkD D b (x.getD i 0) := by
  rw [List.getD_eq_getElem?_getD]
  cases e : x[i]? with
  | none => exact OkD.zero
  | some q => exact h q (List.mem_of_getElem? e)
theorem part_okD {B : List (List Nat)} (hB : Shape B) {D b : Nat} {x : List Rat} (h : ∀ q ∈ x, OkD D b q) (i j : Nat) : OkD (D * 100) (b + 7) (part B x j i) :=
  (getD_okD h i).scale (Nat.lt_of_le_of_lt (bAt_le hB i j) (by decide)) (by decide)
theorem arr_okD {B : List (List Nat)} (hB : Shape B) {D b : Nat} {x : List Rat} (h : ∀ q ∈ x, OkD D b q) (j f : Nat) : OkD (D * 100) (b + 7 + x.length) (arr B x j f) := by
  unfold arr
  have e : ((List.range' f (x.length - f)).map (part B x j)).length ≤ x.length := by
    rw [List.length_map, List.length_range']
    omega
  refine (OkD.sum fun q hq => ?_).mono (Nat.add_le_add_left e _)
  obtain ⟨i, _, rfl⟩ := List.mem_map.mp hq
  exact part_okD hB h i j
theorem pass_okD {B : List (List Nat)} (hB : Shape B) {D b : Nat} {x : List Rat} (h : ∀ q ∈ x, OkD D b q) : ∀ q ∈ pass B x, OkD (D * 100) (b + 7 + x.length) q := fun q hq => by
  unfold pass at hq
  obtain ⟨j, _, rfl⟩ := List.mem_map.mp hq
  exact arr_okD hB h j j
theorem pass_bd {B : List (List Nat)} (hB : Shape B) {b : Nat} {x : List Rat} (h : Bd b x) (hl : x.length ≤ 5) : Bd (b + 12) (pass B x) := by
  obtain ⟨D, h0, h1, h2⟩ := h
  refine ⟨D * 100, by omega, Nat.lt_of_lt_of_le (mul_lt_pow h1 (by decide : 100 < 2 ^ 7)) (pow_le (by omega)), fun q hq => (pass_okD hB h2 q hq).mono (by omega)⟩
end Mill
namespace Mill
open Kp408

/-! ### several passes -/
def passes (B : List (List Nat)) : Nat → List Rat → List Rat
  | 0, x => x
  | n + 1, x => pass B (passes B n x)
theorem passes_len (B : List (List Nat)) (x : List Rat) : ∀ n, (passes B n x).length = x.length
  | 0 => rfl
  | n + 1 => by
    show (pass B (passes B n x)).length = x.length
    rw [pass_len, passes_len B x n]
theorem passes_in (B : List (List Nat)) : ∀ (n : Nat) (x : List Rat), passes B n (pass B x) = pass B (passes B n x)
  | 0, _ => rfl
  | n + 1, x => by
    show pass B (passes B n (pass B x)) = pass B (pass B (passes B n x))
    rw [passes_in B n x]
theorem groundTimes_passes {s : Circuit} (h : Shape s.breakage) : ∀ (n : Nat) (x : List Rat), x.length = s.breakage.length → groundTimes s n x = passes s.breakage n x
  | 0, _, _ => rfl
  | n + 1, x, hl => by
    show groundTimes s n (ground s x) = pass s.breakage (passes s.breakage n x)
    rw [ground_pass h hl, groundTimes_passes h n _ (by rw [pass_len]; exact hl), passes_in]
theorem passes_bd {B : List (List Nat)} (hB : Shape B) {b : Nat} {x : List Rat} (h : Bd b x) (hl : x.length ≤ 5) : ∀ n, Bd (b + 12 * n) (passes B n x)
  | 0 => h
  | n + 1 => by
    have := pass_bd hB (passes_bd hB h hl n) (by rw [passes_len]; exact hl)
    exact this.mono (by omega)

/-! ### the sieve -/
def under (cut : Nat) (x : List Rat) : List Rat := x.take cut ++ List.replicate (x.length - cut) 0
def over (cut : Nat) (x : List Rat) : List Rat := List.replicate cut 0 ++ x.drop cut
theorem under_spec (cut : Nat) (x : List Rat) : undersize cut x = under cut x := by
  refine List.ext_getElem? fun i => ?_
  unfold undersize under
  rw [List.getElem?_map, List.getElem?_zipIdx, List.getElem?_append, List.length_take]
  by_cases h : i < cut
  · by_cases h2 : i < x.length
    · rw [if_pos (by omega), List.getElem?_take_of_lt h, List.getElem?_eq_getElem h2]
      simp [h]
    · rw [List.getElem?_eq_none (by omega : x.length ≤ i), if_neg (by omega), List.getElem?_replicate, if_neg (by omega)]
      rfl
  · by_cases h2 : i < x.length
    · rw [if_neg (by omega), List.getElem?_replicate, if_pos (by omega), List.getElem?_eq_getElem h2]
      simp [h]
    · rw [List.getElem?_eq_none (by omega : x.length ≤ i), if_neg (by omega), List.getElem?_replicate, if_neg (by omega)]
      rfl
theorem over_spec {cut : Nat} {x : List Rat} (hc : cut ≤ x.length) : oversize cut x = over cut x := by
  refine List.ext_getElem? fun i => ?_
  unfold oversize over
  rw [List.getElem?_map, List.getElem?_zipIdx, List.getElem?_append, List.length_replicate]
  by_cases h : i < cut
  · rw [if_pos h, List.getElem?_replicate, if_pos h, List.getElem?_eq_getElem (by omega : i < x.length)]
    have h3 : ¬ cut ≤ i := by omega
    simp [h3]
  · rw [if_neg h, List.getElem?_drop, show cut + (i - cut) = i by omega]
    cases e : x[i]? with
    | none => rfl
    | some v =>
      have h3 : cut ≤ i := by omega
      simp [h3]
theorem under_len {cut : Nat} {x : List Rat} (hc : cut ≤ x.length) : (under cut x).length = x.length := by
  unfold under
  rw [List.length_append, List.length_take, List.length_replicate]
  omega
theorem over_len {cut : Nat} {x : List Rat} (hc : cut ≤ x.length) : (over cut x).length = x.length := by
  unfold over
  rw [List.length_append, List.length_drop, List.length_replicate]
  omega
theorem under_mem {cut : Nat} {x : List Rat} : ∀ q ∈ under cut x, q ∈ x ∨ q = 0 := fun q hq => by
  rcases List.mem_append.mp hq with h | h
  · exact .inl (List.mem_of_mem_take h)
  · exact .inr (List.mem_replicate.mp h).2
theorem over_mem {cut : Nat} {x : List Rat} : ∀ q ∈ over cut x, q ∈ x ∨ q = 0 := fun q hq => by
  rcases List.mem_append.mp hq with h | h
  · exact .inr (List.mem_replicate.mp h).2
  · exact .inl (List.mem_of_mem_drop h)
theorem okD_or {D b : Nat} {x : List Rat} (h : ∀ q ∈ x, OkD D b q) {q : Rat} (hq : q ∈ x ∨ q = 0) : OkD D b q := by
  rcases hq with hq | hq
  · exact h q hq
  · rw [hq]
    exact OkD.zero
theorem Bd.under {b cut : Nat} {x : List Rat} (h : Bd b x) : Bd b (under cut x) := by
  obtain ⟨D, h0, h1, h2⟩ := h
  exact ⟨D, h0, h1, fun q hq => okD_or h2 (under_mem q hq)⟩
theorem Bd.over {b cut : Nat} {x : List Rat} (h : Bd b x) : Bd b (over cut x) := by
  obtain ⟨D, h0, h1, h2⟩ := h
  exact ⟨D, h0, h1, fun q hq => okD_or h2 (over_mem q hq)⟩

/-! ### the feed added -/
def fed (x : List Rat) (feed : List Nat) : List Rat := List.zipWith (fun (q : Rat) (n : Nat) => q + (n : Rat)) x feed
theorem fed_spec (x : List Rat) (s : Circuit) : addAmounts x (feedAmounts s) = fed x s.feed := by
  unfold addAmounts feedAmounts fed
  rw [List.zipWith_map_right]
theorem fed_spec' (x : List Rat) (s : Circuit) : addAmounts (feedAmounts s) x = fed x s.feed := by
  rw [← fed_spec]
  unfold addAmounts
  rw [List.zipWith_comm]
  exact congrArg (fun f => List.zipWith f x (feedAmounts s)) (funext fun a => funext fun b => Rat.add_comm b a)
theorem fed_len {x : List Rat} {feed : List Nat} (h : feed.length = x.length) : (fed x feed).length = x.length := by
  unfold fed
  rw [List.length_zipWith, h, Nat.min_self]
theorem fed_okD {D b : Nat} (hD : D < 2 ^ b) : ∀ {x : List Rat} {feed : List Nat}, (∀ q ∈ x, OkD D b q) → (∀ n ∈ feed, n ≤ 100) → ∀ q ∈ fed x feed, OkD D (b + 8) q
  | [], _, _, _, q, hq => by
    unfold fed at hq
    simp at hq
  | _ :: _, [], _, _, q, hq => by
    unfold fed at hq
    simp at hq
  | p :: x, n :: feed, h, hf, q, hq => by
    have hq' : q ∈ (p + (n : Rat)) :: fed x feed := hq
    rcases List.mem_cons.mp hq' with e | e
    · rw [e]
      exact ((h p List.mem_cons_self).mono (Nat.le_add_right b 7)).add (OkD.nat hD (Nat.lt_of_le_of_lt (hf n List.mem_cons_self) (by decide)))
    · exact fed_okD hD (fun p hp => h p (List.mem_cons_of_mem _ hp)) (fun n hn => hf n (List.mem_cons_of_mem _ hn)) q e
theorem fed_bd {b : Nat} {x : List Rat} {feed : List Nat} (h : Bd b x) (hf : ∀ n ∈ feed, n ≤ 100) : Bd (b + 8) (fed x feed) := by
  obtain ⟨D, h0, h1, h2⟩ := h
  exact ⟨D, h0, Nat.lt_of_lt_of_le h1 (pow_le (by omega)), fed_okD h1 h2 hf⟩

/-! ### the rounds -/
def rounds (B : List (List Nat)) (feed : List Nat) (cut : Nat) : Nat → List Rat × Rat
  | 0 => (List.replicate feed.length 0, 0)
  | n + 1 =>
    let r := rounds B feed cut n
    let g := pass B (fed r.1 feed)
    (over cut g, r.2 + (under cut g).sum)
def roundOf (B : List (List Nat)) (feed : List Nat) (cut : Nat) (r : List Rat × Rat) : List Rat × Rat :=
  (over cut (pass B (fed r.1 feed)), r.2 + (under cut (pass B (fed r.1 feed))).sum)
def roundsFrom (B : List (List Nat)) (feed : List Nat) (cut : Nat) : Nat → List Rat × Rat → List Rat × Rat
  | 0, r => r
  | n + 1, r => roundOf B feed cut (roundsFrom B feed cut n r)
theorem roundsFrom_in (B : List (List Nat)) (feed : List Nat) (cut : Nat) : ∀ (n : Nat) (r : List Rat × Rat), roundsFrom B feed cut n (roundOf B feed cut r) = roundOf B feed cut (roundsFrom B feed cut n r)
  | 0, _ => rfl
  | n + 1, r => by
    show roundOf B feed cut (roundsFrom B feed cut n (roundOf B feed cut r)) = _
    rw [roundsFrom_in B feed cut n r]
    rfl
theorem rounds_from (B : List (List Nat)) (feed : List Nat) (cut : Nat) : ∀ n, rounds B feed cut n = roundsFrom B feed cut n (List.replicate feed.length 0, 0)
  | 0 => rfl
  | n + 1 => by
    show roundOf B feed cut (rounds B feed cut n) = roundOf B feed cut _
    rw [rounds_from B feed cut n]
theorem runRounds_from {s : Circuit} (h : Shape s.breakage) (hf : s.feed.length = s.breakage.length) {cut : Nat} (hc : cut ≤ s.breakage.length) : ∀ (n : Nat) (x : List Rat) (p : Rat), x.length = s.breakage.length → runRounds s cut n x p = roundsFrom s.breakage s.feed cut n (x, p)
  | 0, _, _, _ => rfl
  | n + 1, x, p, hx => by
    have hl : (fed x s.feed).length = s.breakage.length := by rw [fed_len (by omega), hx]
    have hg : (pass s.breakage (fed x s.feed)).length = s.breakage.length := by rw [pass_len, hl]
    show runRounds s cut n (oversize cut (ground s (addAmounts (feedAmounts s) x))) (p + (undersize cut (ground s (addAmounts (feedAmounts s) x))).sum) = _
    rw [fed_spec', ground_pass h hl, over_spec (by omega), under_spec, runRounds_from h hf hc n _ _ (by rw [over_len (by omega)]; exact hg)]
    exact roundsFrom_in _ _ _ n (x, p)
theorem runRounds_is {s : Circuit} (h : Shape s.breakage) (hf : s.feed.length = s.breakage.length) {cut : Nat} (hc : cut ≤ s.breakage.length) (n : Nat) : runRounds s cut n (noMaterial s) 0 = rounds s.breakage s.feed cut n := by
  have e : noMaterial s = List.replicate s.feed.length 0 := by
    unfold noMaterial classCount
    rw [hf]
  rw [runRounds_from h hf hc n _ _ (by rw [e, List.length_replicate]; exact hf), rounds_from, e]
theorem rounds_len {B : List (List Nat)} {feed : List Nat} {cut : Nat} (hc : cut ≤ feed.length) : ∀ n, (rounds B feed cut n).1.length = feed.length
  | 0 => List.length_replicate
  | n + 1 => by
    have ih := rounds_len (B := B) hc n
    have hl : (fed (rounds B feed cut n).1 feed).length = feed.length := by rw [fed_len ih.symm, ih]
    show (over cut (pass B (fed (rounds B feed cut n).1 feed))).length = feed.length
    rw [over_len (by rw [pass_len, hl]; exact hc), pass_len, hl]
/-- returned and product over one denominator -/
theorem rounds_okD {B : List (List Nat)} (hB : Shape B) {feed : List Nat} (hf : ∀ n ∈ feed, n ≤ 100) (h5 : feed.length ≤ 5) {cut : Nat} (hc : cut ≤ feed.length) : ∀ n, ∃ D, 0 < D ∧ D < 2 ^ (32 * n + 32) ∧ (∀ q ∈ (rounds B feed cut n).1, OkD D (32 * n + 32) q) ∧ OkD D (32 * n + 32) (rounds B feed cut n).2
  | 0 => ⟨1, by decide, by decide, fun q hq => by rw [(List.mem_replicate.mp hq).2]; exact OkD.zero, OkD.zero⟩
  | n + 1 => by
    obtain ⟨D, h0, h1, h2, h3⟩ := rounds_okD hB hf h5 hc n
    have ih := rounds_len (B := B) hc n
    have hl : (fed (rounds B feed cut n).1 feed).length = feed.length := by rw [fed_len ih.symm, ih]
    have hg : (pass B (fed (rounds B feed cut n).1 feed)).length = feed.length := by rw [pass_len, hl]
    have g := pass_okD hB (fed_okD h1 h2 hf)
    refine ⟨D * 100, by omega, Nat.lt_of_lt_of_le (mul_lt_pow h1 (by decide : 100 < 2 ^ 7)) (pow_le (by omega)), fun q hq => ?_, ?_⟩
    · exact (okD_or g (over_mem q hq)).mono (by omega)
    · show OkD (D * 100) _ ((rounds B feed cut n).2 + (under cut (pass B (fed (rounds B feed cut n).1 feed))).sum)
      have u : OkD (D * 100) (32 * n + 32 + 8 + 7 + feed.length + feed.length) (under cut (pass B (fed (rounds B feed cut n).1 feed))).sum := by
        have := OkD.sum (D := D * 100) (b := 32 * n + 32 + 8 + 7 + feed.length) (l := under cut (pass B (fed (rounds B feed cut n).1 feed))) fun q hq => by
          have := okD_or g (under_mem q hq)
          rw [hl] at this
          exact this
        rw [under_len (by omega), hg] at this
        exact this
      exact (((h3.lift (by decide : 100 < 2 ^ 7)).mono (by omega : _ ≤ 32 * n + 32 + 30)).add (u.mono (by omega : _ ≤ 32 * n + 32 + 30))).mono (by omega)
end Mill
namespace Mill
open Kp408

/-! ### the steady state -/
def stepS (B : List (List Nat)) (y : List Rat) (j : Nat) : List Rat := y.set j ((y.getD j 0 + arr B y j (j + 1)) * ((100 : Nat) : Rat) / ((100 - bAt B j j : Nat) : Rat))
def stIter (B : List (List Nat)) (y : List Rat) (n : Nat) : Nat → List Rat
  | 0 => y
  | i + 1 => stepS B (stIter B y n i) (n - 1 - i)
def natsR (feed : List Nat) : List Rat := feed.map fun (x : Nat) => (x : Rat)
def steady (B : List (List Nat)) (feed : List Nat) (cut : Nat) : List Rat := stIter B (natsR feed) feed.length (feed.length - cut)
/-- the specification's turn -/
def turnF (s : Circuit) (cut : Nat) (x : List Rat) (j : Nat) : List Rat :=
  let returned := if cut ≤ j then ((List.range (classCount s)).map fun i => if j < i then amountAt x i * breakageAt s i j else 0).sum else 0
  let leaving := if cut ≤ j then 1 - breakageAt s j j else 1
  x.set j ((amountAt (feedAmounts s) j + returned) / leaving)
def specI (s : Circuit) (cut : Nat) : Nat → List Rat
  | 0 => List.replicate (classCount s) 0
  | i + 1 => turnF s cut (specI s cut i) (classCount s - 1 - i)
theorem specI_fold (s : Circuit) (cut : Nat) : ∀ k, k ≤ classCount s → ((List.range k).reverse).foldl (turnF s cut) (specI s cut (classCount s - k)) = specI s cut (classCount s)
  | 0, _ => rfl
  | k + 1, hk => by
    rw [List.range_succ, List.reverse_append]
    show ((List.range k).reverse).foldl (turnF s cut) (turnF s cut (specI s cut (classCount s - (k + 1))) k) = _
    have e : turnF s cut (specI s cut (classCount s - (k + 1))) k = specI s cut (classCount s - k) := by
      have e1 : classCount s - k = (classCount s - (k + 1)) + 1 := by omega
      rw [e1]
      show _ = turnF s cut _ (classCount s - 1 - (classCount s - (k + 1)))
      rw [show classCount s - 1 - (classCount s - (k + 1)) = k by omega]
    rw [e]
    exact specI_fold s cut k (by omega)
theorem steadyInput_is (s : Circuit) (cut : Nat) : steadyInput s cut = specI s cut (classCount s) := by
  have h := specI_fold s cut (classCount s) (Nat.le_refl _)
  rw [Nat.sub_self] at h
  exact h
theorem getD_set {l : List Rat} {i j : Nat} {v : Rat} : (l.set i v).getD j 0 = if i = j ∧ j < l.length then v else l.getD j 0 := by
  rw [List.getD_eq_getElem?_getD, List.getD_eq_getElem?_getD, List.getElem?_set]
  by_cases h : i = j
  · subst h
    by_cases h2 : i < l.length
    · simp [h2]
    · simp [h2]
  · simp [h]
theorem set_at {l : List Rat} {j : Nat} {v : Rat} (h : j < l.length) : (l.set j v).getD j 0 = v := by
  rw [getD_set, if_pos ⟨rfl, h⟩]
theorem set_off {l : List Rat} {i j : Nat} {v : Rat} (h : ¬ i = j) : (l.set i v).getD j 0 = l.getD j 0 := by
  rw [getD_set, if_neg (fun z => h z.1)]
theorem turnF_len (s : Circuit) (cut : Nat) (x : List Rat) (j : Nat) : (turnF s cut x j).length = x.length := List.length_set
theorem stepS_len (B : List (List Nat)) (x : List Rat) (j : Nat) : (stepS B x j).length = x.length := List.length_set
theorem specI_len (s : Circuit) (cut : Nat) : ∀ i, (specI s cut i).length = classCount s
  | 0 => List.length_replicate
  | i + 1 => by
    show (turnF s cut (specI s cut i) _).length = _
    rw [turnF_len, specI_len s cut i]
theorem stIter_len (B : List (List Nat)) (y : List Rat) (n : Nat) : ∀ i, (stIter B y n i).length = y.length
  | 0 => rfl
  | i + 1 => by
    show (stepS B (stIter B y n i) _).length = _
    rw [stepS_len, stIter_len B y n i]
theorem natsR_get (feed : List Nat) (j : Nat) : (natsR feed).getD j 0 = ((feed.getD j 0 : Nat) : Rat) := by
  unfold natsR
  rw [List.getD_eq_getElem?_getD, List.getElem?_map, List.getD_eq_getElem?_getD]
  cases feed[j]? <;> rfl
theorem sum_over {g : Nat → Rat} {m n : Nat} (h : m ≤ n) : ((List.range n).map fun i => if m ≤ i then g i else 0).sum = ((List.range' m (n - m)).map g).sum := by
  rw [sum_tail (m := m) (fun i hi => if_neg (by omega)) n h]
  exact congrArg List.sum (range'_map_eq fun i h1 _ => if_pos h1)
section
variable {s : Circuit} {cut : Nat} (hB : Shape s.breakage) (hf : s.feed.length = s.breakage.length) (hs : ∀ j, cut ≤ j → j < s.breakage.length → bAt s.breakage j j < 100)
include hf hs
/-- one turn alike -/
theorem turn_alike {x y : List Rat} {k : Nat} (hk : k < s.breakage.length) (hc : cut ≤ k) (hx : x.length = s.breakage.length) (hy : y.length = s.breakage.length) (he : ∀ j, k < j → x.getD j 0 = y.getD j 0) (hfk : y.getD k 0 = ((s.feed.getD k 0 : Nat) : Rat)) :
    (turnF s cut x k).getD k 0 = (stepS s.breakage y k).getD k 0 := by
  unfold turnF stepS
  rw [set_at (by omega), set_at (by omega), if_pos hc, if_pos hc]
  have e1 : ((List.range (classCount s)).map fun i => if k < i then amountAt x i * breakageAt s i k else 0).sum = arr s.breakage y k (k + 1) := by
    unfold arr
    rw [hy, ← sum_over (Nat.succ_le_of_lt hk)]
    refine congrArg List.sum (List.map_congr_left fun i _ => ?_)
    by_cases h : k < i
    · rw [if_pos h, if_pos (show k + 1 ≤ i from h), part_spec]
      unfold part
      rw [he i h]
    · rw [if_neg h, if_neg (show ¬ k + 1 ≤ i from h)]
  have e2 : amountAt (feedAmounts s) k = y.getD k 0 := by
    rw [hfk]
    exact natsR_get s.feed k
  have hlt := hs k hc hk
  have e3 : breakageAt s k k = ((bAt s.breakage k k : Nat) : Rat) / 100 := rfl
  have e4 : ((100 - bAt s.breakage k k : Nat) : Rat) = 100 - ((bAt s.breakage k k : Nat) : Rat) := by
    have : (100 - bAt s.breakage k k) + bAt s.breakage k k = 100 := by omega
    have := congrArg (fun n : Nat => (n : Rat)) this
    simp only [Rat.natCast_add] at this
    have h100 : ((100 : Nat) : Rat) = 100 := rfl
    grind
  have hne : ((100 - bAt s.breakage k k : Nat) : Rat) ≠ 0 := nat_ne (by omega)
  rw [e1, e2, e3]
  have h100 : ((100 : Nat) : Rat) = 100 := rfl
  rw [h100]
  rw [e4] at hne ⊢
  generalize ((bAt s.breakage k k : Nat) : Rat) = b at hne ⊢
  generalize y.getD k 0 + arr s.breakage y k (k + 1) = v
  have hne2 : (1 : Rat) - b / 100 ≠ 0 := by grind
  grind
omit hs in
theorem phase2_turn {x y : List Rat} {k : Nat} (hk : k < cut) (hkn : k < s.breakage.length) (hx : x.length = s.breakage.length) (hfk : y.getD k 0 = ((s.feed.getD k 0 : Nat) : Rat)) : (turnF s cut x k).getD k 0 = y.getD k 0 := by
  unfold turnF
  rw [set_at (by omega), if_neg (by omega), if_neg (by omega), hfk]
  show (amountAt (feedAmounts s) k + 0) / 1 = _
  have e2 : amountAt (feedAmounts s) k = ((s.feed.getD k 0 : Nat) : Rat) := natsR_get s.feed k
  rw [e2]
  grind
theorem phase1 : ∀ i, i ≤ s.breakage.length - cut → (∀ j, s.breakage.length - i ≤ j → (specI s cut i).getD j 0 = (stIter s.breakage (natsR s.feed) s.feed.length i).getD j 0) ∧
    ∀ j, j < s.breakage.length - i → (stIter s.breakage (natsR s.feed) s.feed.length i).getD j 0 = ((s.feed.getD j 0 : Nat) : Rat)
  | 0, _ => by
    refine ⟨fun j hj => ?_, fun j _ => natsR_get s.feed j⟩
    have h1 : (specI s cut 0).length = s.breakage.length := specI_len s cut 0
    rw [List.getD_eq_getElem?_getD, List.getElem?_eq_none (by omega), List.getD_eq_getElem?_getD, List.getElem?_eq_none]
    show (natsR s.feed).length ≤ j
    unfold natsR
    rw [List.length_map]
    omega
  | i + 1, hi => by
    obtain ⟨ih1, ih2⟩ := phase1 i (by omega)
    have hk : s.breakage.length - 1 - i < s.breakage.length := by omega
    have hx : (specI s cut i).length = s.breakage.length := specI_len s cut i
    have hy : (stIter s.breakage (natsR s.feed) s.feed.length i).length = s.breakage.length := by
      rw [stIter_len]
      unfold natsR
      rw [List.length_map, hf]
    have eS : stIter s.breakage (natsR s.feed) s.feed.length (i + 1) = stepS s.breakage (stIter s.breakage (natsR s.feed) s.feed.length i) (s.breakage.length - 1 - i) := by
      show stepS _ _ (s.feed.length - 1 - i) = _
      rw [hf]
    have eX : specI s cut (i + 1) = turnF s cut (specI s cut i) (s.breakage.length - 1 - i) := rfl
    rw [eS, eX]
    refine ⟨fun j hj => ?_, fun j hj => ?_⟩
    · by_cases e : j = s.breakage.length - 1 - i
      · subst e
        exact turn_alike hf hs hk (by omega) hx hy (fun j hj => ih1 j (by omega)) (ih2 _ (by omega))
      · unfold turnF stepS
        rw [set_off (fun z => e z.symm), set_off (fun z => e z.symm)]
        exact ih1 j (by omega)
    · unfold stepS
      rw [set_off (fun z => by omega)]
      exact ih2 j (by omega)
theorem phase2 (hc : cut ≤ s.breakage.length) : ∀ t, t ≤ cut → ∀ j, cut - t ≤ j → (specI s cut (s.breakage.length - cut + t)).getD j 0 = (steady s.breakage s.feed cut).getD j 0
  | 0, _ => fun j hj => by
    have := (phase1 hf hs (s.breakage.length - cut) (Nat.le_refl _)).1 j (by omega)
    rw [Nat.add_zero, this]
    unfold steady
    rw [hf]
  | t + 1, ht => fun j hj => by
    have ih := phase2 hc t (by omega)
    have hx : (specI s cut (s.breakage.length - cut + t)).length = s.breakage.length := specI_len s cut _
    have eX : specI s cut (s.breakage.length - cut + (t + 1)) = turnF s cut (specI s cut (s.breakage.length - cut + t)) (cut - 1 - t) := by
      show turnF s cut (specI s cut (s.breakage.length - cut + t)) (s.breakage.length - 1 - (s.breakage.length - cut + t)) = _
      rw [show s.breakage.length - 1 - (s.breakage.length - cut + t) = cut - 1 - t by omega]
    rw [eX]
    by_cases e : j = cut - 1 - t
    · subst e
      refine phase2_turn hf (by omega) (by omega) hx ?_
      have := (phase1 hf hs (s.breakage.length - cut) (Nat.le_refl _)).2 (cut - 1 - t) (by omega)
      unfold steady
      rw [hf] at this ⊢
      exact this
    · unfold turnF
      rw [set_off (fun z => e z.symm)]
      exact ih j (by omega)
theorem steady_is (hc : cut ≤ s.breakage.length) : steadyInput s cut = steady s.breakage s.feed cut := by
  rw [steadyInput_is]
  have h1 : (specI s cut (classCount s)).length = s.breakage.length := specI_len s cut _
  have h2 : (steady s.breakage s.feed cut).length = s.breakage.length := by
    unfold steady
    rw [stIter_len]
    unfold natsR
    rw [List.length_map, hf]
  have h3 := phase2 hf hs hc cut (Nat.le_refl _)
  have e : s.breakage.length - cut + cut = classCount s := by
    show _ = s.breakage.length
    omega
  rw [e] at h3
  refine List.ext_getElem (h1.trans h2.symm) fun i hi hj => ?_
  have := h3 i (by omega)
  rw [List.getD_eq_getElem?_getD, List.getD_eq_getElem?_getD, List.getElem?_eq_getElem hi, List.getElem?_eq_getElem hj] at this
  exact this
end
theorem steady_len (B : List (List Nat)) (feed : List Nat) (cut : Nat) : (steady B feed cut).length = feed.length := by
  unfold steady
  rw [stIter_len]
  unfold natsR
  rw [List.length_map]
theorem mem_set_or {l : List Rat} {j : Nat} {v q : Rat} (h : q ∈ l.set j v) : q ∈ l ∨ q = v := List.mem_or_eq_of_mem_set h
theorem stepS_bd {B : List (List Nat)} (hB : Shape B) {b : Nat} {y : List Rat} (h : Bd b y) (hl : y.length ≤ 5) {j : Nat} (hj : bAt B j j < 100) : Bd (b + 32) (stepS B y j) := by
  obtain ⟨D, h0, h1, h2⟩ := h
  have ha : OkD (D * 100) (b + 13) (y.getD j 0 + arr B y j (j + 1)) :=
    ((((getD_okD h2 j).lift (by decide : 100 < 2 ^ 7)).mono (by omega : _ ≤ b + 12)).add ((arr_okD hB h2 j (j + 1)).mono (by omega : _ ≤ b + 12)))
  have hd : 100 - bAt B j j < 2 ^ 7 := Nat.lt_of_le_of_lt (Nat.sub_le _ _) (by decide)
  refine ⟨D * 100 * (100 - bAt B j j), Nat.mul_pos (by omega) (by omega), Nat.lt_of_lt_of_le (mul_lt_pow (mul_lt_pow h1 (by decide : 100 < 2 ^ 7)) hd) (pow_le (by omega)), fun q hq => ?_⟩
  rcases mem_set_or hq with e | e
  · exact (((h2 q e).lift (by decide : 100 < 2 ^ 7)).lift hd).mono (by omega)
  · rw [e]
    exact (ha.scale (by decide : 100 < 2 ^ 7) (by omega)).mono (by omega)
theorem natsR_bd {feed : List Nat} (hf : ∀ n ∈ feed, n ≤ 100) : Bd 7 (natsR feed) := Bd.nats (by decide) fun q hq => by
  obtain ⟨n, hn, rfl⟩ := List.mem_map.mp hq
  exact ⟨n, Nat.lt_of_le_of_lt (hf n hn) (by decide), rfl⟩
theorem stIter_bd {B : List (List Nat)} (hB : Shape B) {feed : List Nat} (hf : ∀ n ∈ feed, n ≤ 100) (h5 : feed.length ≤ 5) {cut : Nat} (hs : ∀ j, cut ≤ j → j < feed.length → bAt B j j < 100) : ∀ i, i ≤ feed.length - cut → Bd (32 * i + 7) (stIter B (natsR feed) feed.length i)
  | 0, _ => natsR_bd hf
  | i + 1, hi => by
    have ih := stIter_bd hB hf h5 hs i (by omega)
    have hl : (stIter B (natsR feed) feed.length i).length ≤ 5 := by
      rw [stIter_len]
      unfold natsR
      rw [List.length_map]
      exact h5
    exact (stepS_bd hB ih hl (hs _ (by omega) (by omega))).mono (by omega)
theorem steady_bd {B : List (List Nat)} (hB : Shape B) {feed : List Nat} (hf : ∀ n ∈ feed, n ≤ 100) (h5 : feed.length ≤ 5) {cut : Nat} (hs : ∀ j, cut ≤ j → j < feed.length → bAt B j j < 100) : Bd 200 (steady B feed cut) :=
  (stIter_bd hB hf h5 hs _ (Nat.le_refl _)).mono (by omega)
/-- whether there is one -/
def isSteady (B : List (List Nat)) (cut : Nat) : Bool := (List.range' cut (B.length - cut)).all fun j => decide (bAt B j j < 100)
theorem isSteady_spec (s : Circuit) {cut : Nat} : hasSteadyState s cut = isSteady s.breakage cut := by
  unfold hasSteadyState isSteady
  rw [Bool.eq_iff_iff, List.all_eq_true, List.all_eq_true]
  constructor
  · intro h j hj
    obtain ⟨i, hi, e⟩ := List.mem_range'.mp hj
    have := h j (List.mem_range.mpr (by show j < s.breakage.length; omega))
    rw [Bool.or_eq_true] at this
    rcases this with z | z
    · have := of_decide_eq_true z
      omega
    · exact z
  · intro h j hj
    have hj : j < s.breakage.length := List.mem_range.mp hj
    by_cases c : j < cut
    · rw [decide_eq_true c, Bool.true_or]
    · have := h j (List.mem_range'.mpr ⟨j - cut, by omega, by omega⟩)
      rw [Bool.or_eq_true]
      exact .inr this
theorem isSteady_all {B : List (List Nat)} {cut : Nat} (h : isSteady B cut = true) : ∀ j, cut ≤ j → j < B.length → bAt B j j < 100 := fun j h1 h2 =>
  of_decide_eq_true (List.all_eq_true.mp h j (List.mem_range'.mpr ⟨j - cut, by omega, by omega⟩))
end Mill
namespace Mill
open Kp408

/-! ### what every state keeps: k calls behind it -/
structure Good (k : Nat) (s : Circuit) : Prop where
  two : 2 ≤ s.breakage.length
  five : s.breakage.length ≤ 5
  shape : Shape s.breakage
  fl : s.feed.length = s.breakage.length
  fh : ∀ n ∈ s.feed, n ≤ 100
  al : s.amounts.length = s.breakage.length
  bd : Bd (16 * k + 16) (s.loaded :: s.removed :: s.amounts)
theorem Good.mono {k j : Nat} {s : Circuit} (g : Good k s) (h : k ≤ j) : Good j s := ⟨g.two, g.five, g.shape, g.fl, g.fh, g.al, g.bd.mono (by omega)⟩
theorem Good.am {k : Nat} {s : Circuit} (g : Good k s) : Bd (16 * k + 16) s.amounts := g.bd.sub fun p hp => List.mem_cons_of_mem _ (List.mem_cons_of_mem _ hp)
theorem sum_le {c : Nat} : ∀ {l : List Nat}, (∀ n ∈ l, n ≤ c) → l.sum ≤ c * l.length
  | [], _ => by simp
  | a :: l, h => by
    have h1 := h a List.mem_cons_self
    have h2 := sum_le fun n hn => h n (List.mem_cons_of_mem a hn)
    rw [List.sum_cons, List.length_cons, Nat.mul_succ]
    omega
theorem Good.feedSum {k : Nat} {s : Circuit} (g : Good k s) : s.feed.sum ≤ 500 := by
  have := sum_le g.fh
  have := g.fl
  have := g.five
  omega
theorem feed_sum (s : Circuit) : (feedAmounts s).sum = ((s.feed.sum : Nat) : Rat) := nat_sum_cast s.feed

theorem Good.create {n k : Nat} (h2 : 2 ≤ n) (h5 : n ≤ 5) : Good k ⟨(List.range n).map fun i => List.replicate i 0 ++ [100], List.replicate n 0, List.replicate n 0, 0, 0, 0⟩ := by
  refine ⟨?_, ?_, fun i row e => ?_, ?_, fun m hm => ?_, ?_, ?_⟩
  · rw [List.length_map, List.length_range]; exact h2
  · rw [List.length_map, List.length_range]; exact h5
  · rw [List.getElem?_map] at e
    cases e2 : (List.range n)[i]? with
    | none => rw [e2] at e; cases e
    | some j =>
      rw [e2] at e
      have hj : j = i := by
        obtain ⟨h1, h3⟩ := List.getElem?_eq_some_iff.mp e2
        rw [List.getElem_range] at h3
        exact h3.symm
      subst hj
      have e3 : List.replicate j 0 ++ [100] = row := Option.some.inj e
      rw [← e3]
      refine ⟨by rw [List.length_append, List.length_replicate]; rfl, fun x hx => ?_⟩
      rcases List.mem_append.mp hx with z | z
      · rw [(List.mem_replicate.mp z).2]; decide
      · rw [List.mem_singleton.mp z]; decide
  · rw [List.length_replicate, List.length_map, List.length_range]
  · rw [(List.mem_replicate.mp hm).2]; decide
  · rw [List.length_replicate, List.length_map, List.length_range]
  · refine Bd.nats (by omega) fun q hq => ⟨0, Nat.pow_pos (by decide), ?_⟩
    rcases List.mem_cons.mp hq with z | z
    · exact z
    · rcases List.mem_cons.mp z with z | z
      · exact z
      · exact (List.mem_replicate.mp z).2
theorem Good.setBreakage {k i : Nat} {s : Circuit} {l : List Nat} (g : Good k s) (hl : validBreakage i l = true) : Good k { s with breakage := s.breakage.set i l } := by
  unfold validBreakage at hl
  rw [Bool.and_eq_true, Bool.and_eq_true] at hl
  have h1 : l.length = i + 1 := of_decide_eq_true hl.1.1
  have h2 : ∀ x ∈ l, x ≤ 100 := fun x hx => of_decide_eq_true (List.all_eq_true.mp hl.1.2 x hx)
  have hlen : (s.breakage.set i l).length = s.breakage.length := List.length_set
  refine ⟨?_, ?_, fun j row e => ?_, ?_, g.fh, ?_, g.bd⟩
  · show 2 ≤ (s.breakage.set i l).length
    rw [hlen]; exact g.two
  · show (s.breakage.set i l).length ≤ 5
    rw [hlen]; exact g.five
  · have e : (s.breakage.set i l)[j]? = some row := e
    rw [List.getElem?_set] at e
    by_cases h : i = j
    · rw [if_pos h] at e
      split at e
      · cases e
        exact ⟨by rw [h1, h], h2⟩
      · cases e
    · rw [if_neg h] at e
      exact g.shape j row e
  · show s.feed.length = (s.breakage.set i l).length
    rw [hlen]; exact g.fl
  · show s.amounts.length = (s.breakage.set i l).length
    rw [hlen]; exact g.al
theorem Good.load {k : Nat} {s : Circuit} (g : Good k s) : Good (k + 1) { s with amounts := fed s.amounts s.feed, loaded := s.loaded + (feedAmounts s).sum } := by
  refine ⟨g.two, g.five, g.shape, g.fl, g.fh, ?_, ?_⟩
  · show (fed s.amounts s.feed).length = _
    rw [fed_len (by rw [g.fl, g.al])]
    exact g.al
  · obtain ⟨D, h0, h1, h2⟩ := g.bd
    refine ⟨D, h0, Nat.lt_of_lt_of_le h1 (pow_le (by omega)), fun q hq => ?_⟩
    rcases List.mem_cons.mp hq with z | z
    · rw [z, feed_sum]
      have hsum := g.feedSum
      exact (((h2 s.loaded List.mem_cons_self).mono (by omega : _ ≤ 16 * k + 16 + 9)).add (OkD.nat h1 (by omega : s.feed.sum < 2 ^ 9))).mono (by omega)
    · rcases List.mem_cons.mp z with z | z
      · rw [z]
        exact (h2 s.removed (List.mem_cons_of_mem _ List.mem_cons_self)).mono (by omega)
      · exact (fed_okD h1 (fun q hq => h2 q (List.mem_cons_of_mem _ (List.mem_cons_of_mem _ hq))) g.fh q z).mono (by omega)
theorem Good.grind {k : Nat} {s : Circuit} (g : Good k s) : Good (k + 1) { s with amounts := pass s.breakage s.amounts, passes := s.passes + 1 } := by
  refine ⟨g.two, g.five, g.shape, g.fl, g.fh, ?_, ?_⟩
  · show (pass s.breakage s.amounts).length = _
    rw [pass_len]
    exact g.al
  · obtain ⟨D, h0, h1, h2⟩ := g.bd
    have := g.five
    have := g.al
    refine ⟨D * 100, by omega, Nat.lt_of_lt_of_le (mul_lt_pow h1 (by decide : 100 < 2 ^ 7)) (pow_le (by omega)), fun q hq => ?_⟩
    rcases List.mem_cons.mp hq with z | z
    · rw [z]
      exact ((h2 s.loaded List.mem_cons_self).lift (by decide : 100 < 2 ^ 7)).mono (by omega)
    · rcases List.mem_cons.mp z with z | z
      · rw [z]
        exact ((h2 s.removed (List.mem_cons_of_mem _ List.mem_cons_self)).lift (by decide : 100 < 2 ^ 7)).mono (by omega)
      · exact (pass_okD g.shape (fun q hq => h2 q (List.mem_cons_of_mem _ (List.mem_cons_of_mem _ hq))) q z).mono (by omega)
theorem Good.remove {k cut : Nat} {s : Circuit} (g : Good k s) (hc : cut ≤ s.breakage.length) : Good (k + 1) { s with amounts := over cut s.amounts, removed := s.removed + (under cut s.amounts).sum } := by
  have hal := g.al
  have := g.five
  refine ⟨g.two, g.five, g.shape, g.fl, g.fh, ?_, ?_⟩
  · show (over cut s.amounts).length = _
    rw [over_len (by omega)]
    exact g.al
  · obtain ⟨D, h0, h1, h2⟩ := g.bd
    have ha : ∀ q ∈ s.amounts, OkD D (16 * k + 16) q := fun q hq => h2 q (List.mem_cons_of_mem _ (List.mem_cons_of_mem _ hq))
    refine ⟨D, h0, Nat.lt_of_lt_of_le h1 (pow_le (by omega)), fun q hq => ?_⟩
    rcases List.mem_cons.mp hq with z | z
    · rw [z]
      exact (h2 s.loaded List.mem_cons_self).mono (by omega)
    · rcases List.mem_cons.mp z with z | z
      · rw [z]
        have u := OkD.sum (l := under cut s.amounts) fun q hq => okD_or ha (under_mem q hq)
        rw [under_len (by omega)] at u
        exact (((h2 s.removed (List.mem_cons_of_mem _ List.mem_cons_self)).mono (by omega : _ ≤ 16 * k + 16 + 5)).add (u.mono (by omega))).mono (by omega)
      · exact (okD_or ha (over_mem q z)).mono (by omega)
theorem Good.setFeed {k : Nat} {s : Circuit} {l : List Nat} (g : Good k s) (h1 : l.length = s.breakage.length) (h2 : ∀ n ∈ l, n ≤ 100) : Good k { s with feed := l } := ⟨g.two, g.five, g.shape, h1, h2, g.al, g.bd⟩

/-! ### the requests -/
inductive Req : List (List Int) → Call → Prop
  | create (a : Nat) : Req [[0, (a : Int)]] (.create a)
  | setBreakage (a : Nat) (l : List Nat) (h : l.length ≤ 8) : Req [[1, (a : Int)], l.map fun (x : Nat) => (x : Int)] (.setBreakage a l)
  | getBreakage (a : Nat) : Req [[2, (a : Int)]] (.getBreakage a)
  | setFeed (l : List Nat) (h : l.length ≤ 8) : Req [[3], l.map fun (x : Nat) => (x : Int)] (.setFeed l)
  | load : Req [[4]] .load
  | grind : Req [[5]] .grind
  | removeFiner (a : Nat) : Req [[6, (a : Int)]] (.removeFiner a)
  | getAmounts : Req [[7]] .getAmounts
  | amountUpTo (a : Nat) : Req [[8, (a : Int)]] (.amountUpTo a)
  | previewGrind (a : Nat) : Req [[9, (a : Int)]] (.previewGrind a)
  | hasSteadyState (a : Nat) : Req [[10, (a : Int)]] (.hasSteadyState a)
  | steadyInput (a : Nat) : Req [[11, (a : Int)]] (.steadyInput a)
  | steadyProduct (a : Nat) : Req [[12, (a : Int)]] (.steadyProduct a)
  | steadyLoad (a : Nat) : Req [[13, (a : Int)]] (.steadyLoad a)
  | loadRatio (a : Nat) : Req [[14, (a : Int)]] (.loadRatio a)
  | simulateRounds (a b : Nat) : Req [[15, (a : Int), (b : Int)]] (.simulateRounds a b)
  | totals : Req [[16]] .totals
  | passesNeeded (a b : Nat) : Req [[17, (a : Int), (b : Int)]] (.passesNeeded a b)
  | coarsestCut (a b : Nat) : Req [[18, (a : Int), (b : Int)]] (.coarsestCut a b)
  | getFeed : Req [[19]] .getFeed

theorem natural_nat {z : Int} (h : Kp408Neutral.natural z = true) : ∃ n : Nat, z = (n : Int) := by
  unfold Kp408Neutral.natural at h
  rw [Bool.and_eq_true] at h
  exact ⟨z.toNat, (Int.toNat_of_nonneg (of_decide_eq_true h.1)).symm⟩
theorem naturals_nat : ∀ {l : List Int}, l.all Kp408Neutral.natural = true → ∃ m : List Nat, l = m.map fun (x : Nat) => (x : Int)
  | [], _ => ⟨[], rfl⟩
  | a :: l, h => by
    rw [List.all_cons, Bool.and_eq_true] at h
    obtain ⟨n, rfl⟩ := natural_nat h.1
    obtain ⟨m, rfl⟩ := naturals_nat h.2
    exact ⟨n :: m, rfl⟩
theorem toNat_map (m : List Nat) : (m.map fun (x : Nat) => (x : Int)).map Int.toNat = m := by
  rw [List.map_map]
  have : (Int.toNat ∘ fun (x : Nat) => (x : Int)) = id := funext fun x => Int.toNat_natCast x
  rw [this, List.map_id]
/-- what the reading gives: a call of the shape -/
def Shaped (c : List (List Int)) : Prop := ∃ p xs rows, c = (p :: xs) :: rows ∧ PyKp408.shape p = some (xs.length, rows.length)
theorem shape_some {p : Int} {n k : Nat} (h : PyKp408.shape p = some (n, k)) : p ∈ ([0,1,2,3,4,5,6,7,8,9,10,11,12,13,14,15,16,17,18,19] : List Int) := by
  refine Classical.byContradiction fun hn => ?_
  simp only [List.mem_cons, List.not_mem_nil, or_false, not_or] at hn
  obtain ⟨h0, h1, h2, h3, h4, h5, h6, h7, h8, h9, h10, h11, h12, h13, h14, h15, h16, h17, h18, h19⟩ := hn
  unfold PyKp408.shape at h
  rw [if_neg h0, if_neg h1, if_neg h2, if_neg h3, if_neg h4, if_neg h5, if_neg h6, if_neg h7, if_neg h8, if_neg h9, if_neg h10, if_neg h11, if_neg h12, if_neg h13, if_neg h14, if_neg h15, if_neg h16, if_neg h17, if_neg h18, if_neg h19] at h
  cases h
theorem len0 {α : Type} {l : List α} (h : l.length = 0) : l = [] := List.length_eq_zero_iff.mp h
theorem len1 {α : Type} {l : List α} (h : l.length = 1) : ∃ a, l = [a] := List.length_eq_one_iff.mp h
theorem len2 {α : Type} {l : List α} (h : l.length = 2) : ∃ a b, l = [a, b] := match l, h with | [a, b], _ => ⟨a, b, rfl⟩
/-- each call asked for is one of the twenty -/
theorem req_of {c : List (List Int)} (h : Shaped c) (ha : Kp408Neutral.asked1 (PyKp408.whole c) = true) : ∃ x, Req c x ∧ Kp408Neutral.callOf (PyKp408.whole c) = some x := by
  obtain ⟨p, xs, rows, rfl, hs⟩ := h
  have hp := shape_some hs
  simp only [List.mem_cons, List.not_mem_nil, or_false] at hp
  have one : ∀ {n k : Nat}, PyKp408.shape p = some (n, k) → xs.length = n ∧ rows.length = k := fun {n k} q => by
    rw [hs] at q
    have := Option.some.inj q
    exact ⟨congrArg Prod.fst this, congrArg Prod.snd this⟩
  rcases hp with rfl | rfl | rfl | rfl | rfl | rfl | rfl | rfl | rfl | rfl | rfl | rfl | rfl | rfl | rfl | rfl | rfl | rfl | rfl | rfl
  · obtain ⟨h1, h2⟩ := one (n := 1) (k := 0) rfl
    obtain ⟨a, rfl⟩ := len1 h1; obtain rfl := len0 h2
    obtain ⟨a, rfl⟩ := natural_nat ha
    exact ⟨_, .create a, rfl⟩
  · obtain ⟨h1, h2⟩ := one (n := 1) (k := 1) rfl
    obtain ⟨a, rfl⟩ := len1 h1; obtain ⟨l, rfl⟩ := len1 h2
    have ha : (Kp408Neutral.natural a && (l.all Kp408Neutral.natural && decide (l.length ≤ 8))) = true := ha
    rw [Bool.and_eq_true, Bool.and_eq_true] at ha
    obtain ⟨a, rfl⟩ := natural_nat ha.1
    obtain ⟨m, rfl⟩ := naturals_nat ha.2.1
    have h8 := of_decide_eq_true ha.2.2
    rw [List.length_map] at h8
    refine ⟨_, .setBreakage a m h8, ?_⟩
    show some (Call.setBreakage a ((m.map fun (x : Nat) => (x : Int)).map Int.toNat)) = _
    rw [toNat_map]
  · obtain ⟨h1, h2⟩ := one (n := 1) (k := 0) rfl
    obtain ⟨a, rfl⟩ := len1 h1; obtain rfl := len0 h2
    obtain ⟨a, rfl⟩ := natural_nat ha
    exact ⟨_, .getBreakage a, rfl⟩
  · obtain ⟨h1, h2⟩ := one (n := 0) (k := 1) rfl
    obtain rfl := len0 h1; obtain ⟨l, rfl⟩ := len1 h2
    have ha : (l.all Kp408Neutral.natural && decide (l.length ≤ 8)) = true := ha
    rw [Bool.and_eq_true] at ha
    obtain ⟨m, rfl⟩ := naturals_nat ha.1
    have h8 := of_decide_eq_true ha.2
    rw [List.length_map] at h8
    refine ⟨_, .setFeed m h8, ?_⟩
    show some (Call.setFeed ((m.map fun (x : Nat) => (x : Int)).map Int.toNat)) = _
    rw [toNat_map]
  · obtain ⟨h1, h2⟩ := one (n := 0) (k := 0) rfl
    obtain rfl := len0 h1; obtain rfl := len0 h2
    exact ⟨_, .load, rfl⟩
  · obtain ⟨h1, h2⟩ := one (n := 0) (k := 0) rfl
    obtain rfl := len0 h1; obtain rfl := len0 h2
    exact ⟨_, .grind, rfl⟩
  · obtain ⟨h1, h2⟩ := one (n := 1) (k := 0) rfl
    obtain ⟨a, rfl⟩ := len1 h1; obtain rfl := len0 h2
    obtain ⟨a, rfl⟩ := natural_nat ha
    exact ⟨_, .removeFiner a, rfl⟩
  · obtain ⟨h1, h2⟩ := one (n := 0) (k := 0) rfl
    obtain rfl := len0 h1; obtain rfl := len0 h2
    exact ⟨_, .getAmounts, rfl⟩
  · obtain ⟨h1, h2⟩ := one (n := 1) (k := 0) rfl
    obtain ⟨a, rfl⟩ := len1 h1; obtain rfl := len0 h2
    obtain ⟨a, rfl⟩ := natural_nat ha
    exact ⟨_, .amountUpTo a, rfl⟩
  · obtain ⟨h1, h2⟩ := one (n := 1) (k := 0) rfl
    obtain ⟨a, rfl⟩ := len1 h1; obtain rfl := len0 h2
    obtain ⟨a, rfl⟩ := natural_nat ha
    exact ⟨_, .previewGrind a, rfl⟩
  · obtain ⟨h1, h2⟩ := one (n := 1) (k := 0) rfl
    obtain ⟨a, rfl⟩ := len1 h1; obtain rfl := len0 h2
    obtain ⟨a, rfl⟩ := natural_nat ha
    exact ⟨_, .hasSteadyState a, rfl⟩
  · obtain ⟨h1, h2⟩ := one (n := 1) (k := 0) rfl
    obtain ⟨a, rfl⟩ := len1 h1; obtain rfl := len0 h2
    obtain ⟨a, rfl⟩ := natural_nat ha
    exact ⟨_, .steadyInput a, rfl⟩
  · obtain ⟨h1, h2⟩ := one (n := 1) (k := 0) rfl
    obtain ⟨a, rfl⟩ := len1 h1; obtain rfl := len0 h2
    obtain ⟨a, rfl⟩ := natural_nat ha
    exact ⟨_, .steadyProduct a, rfl⟩
  · obtain ⟨h1, h2⟩ := one (n := 1) (k := 0) rfl
    obtain ⟨a, rfl⟩ := len1 h1; obtain rfl := len0 h2
    obtain ⟨a, rfl⟩ := natural_nat ha
    exact ⟨_, .steadyLoad a, rfl⟩
  · obtain ⟨h1, h2⟩ := one (n := 1) (k := 0) rfl
    obtain ⟨a, rfl⟩ := len1 h1; obtain rfl := len0 h2
    obtain ⟨a, rfl⟩ := natural_nat ha
    exact ⟨_, .loadRatio a, rfl⟩
  · obtain ⟨h1, h2⟩ := one (n := 2) (k := 0) rfl
    obtain ⟨a, b, rfl⟩ := len2 h1; obtain rfl := len0 h2
    have ha := Bool.and_eq_true_iff.mp ha
    obtain ⟨a, rfl⟩ := natural_nat ha.1
    obtain ⟨b, rfl⟩ := natural_nat ha.2
    exact ⟨_, .simulateRounds a b, rfl⟩
  · obtain ⟨h1, h2⟩ := one (n := 0) (k := 0) rfl
    obtain rfl := len0 h1; obtain rfl := len0 h2
    exact ⟨_, .totals, rfl⟩
  · obtain ⟨h1, h2⟩ := one (n := 2) (k := 0) rfl
    obtain ⟨a, b, rfl⟩ := len2 h1; obtain rfl := len0 h2
    have ha := Bool.and_eq_true_iff.mp ha
    obtain ⟨a, rfl⟩ := natural_nat ha.1
    obtain ⟨b, rfl⟩ := natural_nat ha.2
    exact ⟨_, .passesNeeded a b, rfl⟩
  · obtain ⟨h1, h2⟩ := one (n := 2) (k := 0) rfl
    obtain ⟨a, b, rfl⟩ := len2 h1; obtain rfl := len0 h2
    have ha := Bool.and_eq_true_iff.mp ha
    obtain ⟨a, rfl⟩ := natural_nat ha.1
    obtain ⟨b, rfl⟩ := natural_nat ha.2
    exact ⟨_, .coarsestCut a b, rfl⟩
  · obtain ⟨h1, h2⟩ := one (n := 0) (k := 0) rfl
    obtain rfl := len0 h1; obtain rfl := len0 h2
    exact ⟨_, .getFeed, rfl⟩
end Mill
namespace Mill
open Kp408

/-! ### the reading of a list of calls -/
theorem calls_some {sh : Int → Option (Nat × Nat)} {p : Int} {r : List Int} : ∀ {f : Nat} {cs : List (List (List Int))}, PyFlat.calls sh f (p :: r) = some cs → ∃ c t f' cs', PyFlat.call sh (p :: r) = some (c, t) ∧ cs = c :: cs' ∧ PyFlat.calls sh f' t = some cs'
  | 0, cs, h => by cases h
  | f + 1, cs, h => by
    have h : (match PyFlat.call sh (p :: r) with
      | none => none
      | some (c, t) => match PyFlat.calls sh f t with
        | none => none
        | some cs => some (c :: cs)) = some cs := h
    cases e : PyFlat.call sh (p :: r) with
    | none => rw [e] at h; cases h
    | some ct =>
      obtain ⟨c, t⟩ := ct
      rw [e] at h
      have h : (match PyFlat.calls sh f t with
        | none => none
        | some cs => some (c :: cs)) = some cs := h
      cases e2 : PyFlat.calls sh f t with
      | none => rw [e2] at h; cases h
      | some cs' =>
        rw [e2] at h
        exact ⟨c, t, f, cs', rfl, (Option.some.inj h).symm, e2⟩
theorem call_some {sh : Int → Option (Nat × Nat)} {p : Int} {r t : List Int} {c : List (List Int)} (h : PyFlat.call sh (p :: r) = some (c, t)) : ∃ n k xs, sh p = some (n, k) ∧ n ≤ r.length ∧ PyFlat.rows k (r.drop n) = some (xs, t) ∧ c = (p :: r.take n) :: xs := by
  have h : (match sh p with
    | none => none
    | some (n, k) => if r.length < n then none else match PyFlat.rows k (r.drop n) with
      | none => none
      | some (xs, t) => some ((p :: r.take n) :: xs, t)) = some (c, t) := h
  cases e : sh p with
  | none => rw [e] at h; cases h
  | some nk =>
    obtain ⟨n, k⟩ := nk
    rw [e] at h
    have h : (if r.length < n then none else match PyFlat.rows k (r.drop n) with
      | none => none
      | some (xs, t) => some ((p :: r.take n) :: xs, t)) = some (c, t) := h
    by_cases hn : r.length < n
    · rw [if_pos hn] at h; cases h
    · rw [if_neg hn] at h
      cases e2 : PyFlat.rows k (r.drop n) with
      | none => rw [e2] at h; cases h
      | some xt =>
        obtain ⟨xs, t'⟩ := xt
        rw [e2] at h
        have h : some ((p :: r.take n) :: xs, t') = some (c, t) := h
        cases h
        exact ⟨n, k, xs, rfl, by omega, e2, rfl⟩
theorem row_some {l x s : List Int} (h : PyFlat.row l = some (x, s)) : ∃ (m : Nat) (q : List Int), l = (m : Int) :: q ∧ m ≤ q.length ∧ x = q.take m ∧ s = q.drop m := by
  cases l with
  | nil => cases h
  | cons n r =>
    have h : (if 0 ≤ n ∧ n.toNat ≤ r.length then some (r.take n.toNat, r.drop n.toNat) else none) = some (x, s) := h
    by_cases hn : 0 ≤ n ∧ n.toNat ≤ r.length
    · rw [if_pos hn] at h
      cases h
      exact ⟨n.toNat, r, by rw [Int.toNat_of_nonneg hn.1], hn.2, rfl, rfl⟩
    · rw [if_neg hn] at h; cases h
theorem rows1_some {l t : List Int} {xs : List (List Int)} (h : PyFlat.rows 1 l = some (xs, t)) : ∃ (m : Nat) (q : List Int), l = (m : Int) :: q ∧ m ≤ q.length ∧ xs = [q.take m] ∧ t = q.drop m := by
  have h : (match PyFlat.row l with
    | none => none
    | some (x, s) => some ([x], s)) = some (xs, t) := h
  cases e : PyFlat.row l with
  | none => rw [e] at h; cases h
  | some xs' =>
    obtain ⟨x, s⟩ := xs'
    rw [e] at h
    have h : some ([x], s) = some (xs, t) := h
    cases h
    obtain ⟨m, q, h1, h2, h3, h4⟩ := row_some e
    exact ⟨m, q, h1, h2, by rw [h3], h4⟩
theorem drop_get {α : Type} {l : List α} {i : Nat} {a : α} {r : List α} (h : l.drop i = a :: r) : l[i]? = some a ∧ l.drop (i + 1) = r := by
  constructor
  · have := List.getElem?_drop (xs := l) (i := i) (j := 0)
    rw [h] at this
    exact this.symm
  · rw [← List.drop_drop, h]
    rfl
theorem drop_take_get {α : Type} {l : List α} {i n : Nat} {r : List α} (h : l.drop i = r) : r.drop n = l.drop (i + n) := by
  rw [← h, List.drop_drop]
theorem shape_k {p : Int} {n k : Nat} (h : PyKp408.shape p = some (n, k)) : ((p = 1 ∨ p = 3) ∧ k = 1) ∨ (¬ (p = 1 ∨ p = 3) ∧ k = 0) := by
  have hp := shape_some h
  simp only [List.mem_cons, List.not_mem_nil, or_false] at hp
  have one : ∀ {a b : Nat}, PyKp408.shape p = some (a, b) → k = b := fun {a b} q => by
    rw [h] at q
    exact congrArg Prod.snd (Option.some.inj q)
  rcases hp with rfl | rfl | rfl | rfl | rfl | rfl | rfl | rfl | rfl | rfl | rfl | rfl | rfl | rfl | rfl | rfl | rfl | rfl | rfl | rfl
  · exact .inr ⟨by decide, one (a := 1) (b := 0) rfl⟩
  · exact .inl ⟨by decide, one (a := 1) (b := 1) rfl⟩
  · exact .inr ⟨by decide, one (a := 1) (b := 0) rfl⟩
  · exact .inl ⟨by decide, one (a := 0) (b := 1) rfl⟩
  · exact .inr ⟨by decide, one (a := 0) (b := 0) rfl⟩
  · exact .inr ⟨by decide, one (a := 0) (b := 0) rfl⟩
  · exact .inr ⟨by decide, one (a := 1) (b := 0) rfl⟩
  · exact .inr ⟨by decide, one (a := 0) (b := 0) rfl⟩
  · exact .inr ⟨by decide, one (a := 1) (b := 0) rfl⟩
  · exact .inr ⟨by decide, one (a := 1) (b := 0) rfl⟩
  · exact .inr ⟨by decide, one (a := 1) (b := 0) rfl⟩
  · exact .inr ⟨by decide, one (a := 1) (b := 0) rfl⟩
  · exact .inr ⟨by decide, one (a := 1) (b := 0) rfl⟩
  · exact .inr ⟨by decide, one (a := 1) (b := 0) rfl⟩
  · exact .inr ⟨by decide, one (a := 1) (b := 0) rfl⟩
  · exact .inr ⟨by decide, one (a := 2) (b := 0) rfl⟩
  · exact .inr ⟨by decide, one (a := 0) (b := 0) rfl⟩
  · exact .inr ⟨by decide, one (a := 2) (b := 0) rfl⟩
  · exact .inr ⟨by decide, one (a := 2) (b := 0) rfl⟩
  · exact .inr ⟨by decide, one (a := 0) (b := 0) rfl⟩
/-- how many whole numbers stand behind a call's number -/
def wargs : List Int := [1, 1, 1, 0, 0, 0, 1, 0, 1, 1, 1, 1, 1, 1, 1, 2, 0, 2, 2, 0]
theorem shape_w {p : Int} {n k : Nat} (h : PyKp408.shape p = some (n, k)) : ∃ j : Nat, p = (j : Int) ∧ j < 20 ∧ wargs[j]? = some (n : Int) := by
  have hp := shape_some h
  simp only [List.mem_cons, List.not_mem_nil, or_false] at hp
  have one : ∀ {a b : Nat}, PyKp408.shape p = some (a, b) → n = a := fun {a b} q => by
    rw [h] at q
    exact congrArg Prod.fst (Option.some.inj q)
  rcases hp with rfl | rfl | rfl | rfl | rfl | rfl | rfl | rfl | rfl | rfl | rfl | rfl | rfl | rfl | rfl | rfl | rfl | rfl | rfl | rfl
  · obtain rfl := one (a := 1) (b := 0) rfl; exact ⟨0, rfl, by decide, rfl⟩
  · obtain rfl := one (a := 1) (b := 1) rfl; exact ⟨1, rfl, by decide, rfl⟩
  · obtain rfl := one (a := 1) (b := 0) rfl; exact ⟨2, rfl, by decide, rfl⟩
  · obtain rfl := one (a := 0) (b := 1) rfl; exact ⟨3, rfl, by decide, rfl⟩
  · obtain rfl := one (a := 0) (b := 0) rfl; exact ⟨4, rfl, by decide, rfl⟩
  · obtain rfl := one (a := 0) (b := 0) rfl; exact ⟨5, rfl, by decide, rfl⟩
  · obtain rfl := one (a := 1) (b := 0) rfl; exact ⟨6, rfl, by decide, rfl⟩
  · obtain rfl := one (a := 0) (b := 0) rfl; exact ⟨7, rfl, by decide, rfl⟩
  · obtain rfl := one (a := 1) (b := 0) rfl; exact ⟨8, rfl, by decide, rfl⟩
  · obtain rfl := one (a := 1) (b := 0) rfl; exact ⟨9, rfl, by decide, rfl⟩
  · obtain rfl := one (a := 1) (b := 0) rfl; exact ⟨10, rfl, by decide, rfl⟩
  · obtain rfl := one (a := 1) (b := 0) rfl; exact ⟨11, rfl, by decide, rfl⟩
  · obtain rfl := one (a := 1) (b := 0) rfl; exact ⟨12, rfl, by decide, rfl⟩
  · obtain rfl := one (a := 1) (b := 0) rfl; exact ⟨13, rfl, by decide, rfl⟩
  · obtain rfl := one (a := 1) (b := 0) rfl; exact ⟨14, rfl, by decide, rfl⟩
  · obtain rfl := one (a := 2) (b := 0) rfl; exact ⟨15, rfl, by decide, rfl⟩
  · obtain rfl := one (a := 0) (b := 0) rfl; exact ⟨16, rfl, by decide, rfl⟩
  · obtain rfl := one (a := 2) (b := 0) rfl; exact ⟨17, rfl, by decide, rfl⟩
  · obtain rfl := one (a := 2) (b := 0) rfl; exact ⟨18, rfl, by decide, rfl⟩
  · obtain rfl := one (a := 0) (b := 0) rfl; exact ⟨19, rfl, by decide, rfl⟩
/-- one call read at place i -/
theorem read_step {ns : List Int} {i f : Nat} {cs : List (List (List Int))} (h : PyFlat.calls PyKp408.shape f (ns.drop i) = some cs) (hi : i < ns.length) :
    ∃ (p : Int) (n f' : Nat) (c : List (List Int)) (cs' : List (List (List Int))), ns[i]? = some p ∧ (∃ k, PyKp408.shape p = some (n, k)) ∧ i + 1 + n ≤ ns.length ∧ cs = c :: cs' ∧ Shaped c ∧
      ((¬ (p = 1 ∨ p = 3) ∧ c = [p :: (ns.drop (i + 1)).take n] ∧ PyFlat.calls PyKp408.shape f' (ns.drop (i + 1 + n)) = some cs') ∨
       ((p = 1 ∨ p = 3) ∧ ∃ m : Nat, ns[i + 1 + n]? = some (m : Int) ∧ i + 1 + n + 1 + m ≤ ns.length ∧ c = [p :: (ns.drop (i + 1)).take n, (ns.drop (i + 1 + n + 1)).take m] ∧ PyFlat.calls PyKp408.shape f' (ns.drop (i + 1 + n + 1 + m)) = some cs')) := by
  cases hd : ns.drop i with
  | nil =>
    have := congrArg List.length hd
    rw [List.length_drop, List.length_nil] at this
    omega
  | cons p r =>
    rw [hd] at h
    obtain ⟨hp, hr⟩ := drop_get hd
    obtain ⟨c, t, f', cs', hc, rfl, hcs⟩ := calls_some h
    obtain ⟨n, k, xs, hs, hn, hrows, rfl⟩ := call_some hc
    have hlen : r.length = ns.length - (i + 1) := by rw [← hr, List.length_drop]
    refine ⟨p, n, f', _, cs', hp, ⟨k, hs⟩, by omega, rfl, ?_, ?_⟩
    · refine ⟨p, r.take n, xs, rfl, ?_⟩
      rw [hs, List.length_take, Nat.min_eq_left hn]
      rcases shape_k hs with ⟨_, rfl⟩ | ⟨_, rfl⟩
      · obtain ⟨m, q, _, _, e, _⟩ := rows1_some hrows
        rw [e]
        rfl
      · cases hrows
        rfl
    · rcases shape_k hs with ⟨hp2, rfl⟩ | ⟨hp2, rfl⟩
      · obtain ⟨m, q, e1, e2, e3, e4⟩ := rows1_some hrows
        have e5 : ns.drop (i + 1 + n) = (m : Int) :: q := by rw [← drop_take_get hr]; exact e1
        obtain ⟨e6, e7⟩ := drop_get e5
        have hq : q.length = ns.length - (i + 1 + n + 1) := by rw [← e7, List.length_drop]
        have hb : i + 1 + n < ns.length := (List.getElem?_eq_some_iff.mp e6).1
        refine .inr ⟨hp2, m, e6, by omega, ?_, ?_⟩
        · rw [e3, hr, e7]
        · rw [← List.drop_drop, e7, ← e4]
          exact hcs
      · cases hrows
        refine .inl ⟨hp2, by rw [hr], ?_⟩
        rw [← drop_take_get hr]
        exact hcs
/-! ### the play -/
def afterC (s : State) (cs : List (List (List Int))) : State := cs.foldl (fun s c => (Kp408Neutral.step s c).1) s
theorem played_app : ∀ (cs ds : List (List (List Int))) (s : State), PyFlat.played Kp408Neutral.step s (cs ++ ds) = PyFlat.played Kp408Neutral.step s cs ++ PyFlat.played Kp408Neutral.step (afterC s cs) ds
  | [], _, _ => rfl
  | c :: cs, ds, s => by
    show (Kp408Neutral.step s c).2 :: PyFlat.played Kp408Neutral.step (Kp408Neutral.step s c).1 (cs ++ ds) = _
    rw [played_app cs ds]
    rfl
theorem told_app (a b : List (List Int)) : PyFlat.told (a ++ b) = PyFlat.told a ++ PyFlat.told b := List.flatMap_append
theorem told_one (a : List Int) : PyFlat.told [a] = (a.length : Int) :: a := by
  show ((a.length : Int) :: a) ++ [] = _
  rw [List.append_nil]
theorem afterC_app (s : State) (cs ds : List (List (List Int))) : afterC s (cs ++ ds) = afterC (afterC s cs) ds := List.foldl_append
/-- what is told of the calls so far -/
def toldOf (cs : List (List (List Int))) : List Int := PyFlat.told (PyFlat.played Kp408Neutral.step Kp408Neutral.start cs)
theorem toldOf_snoc (cs : List (List (List Int))) (c : List (List Int)) : toldOf (cs ++ [c]) = toldOf cs ++ ((((Kp408Neutral.step (afterC Kp408Neutral.start cs) c).2.length : Nat) : Int) :: (Kp408Neutral.step (afterC Kp408Neutral.start cs) c).2) := by
  unfold toldOf
  rw [played_app, told_app]
  exact congrArg _ (told_one _)
theorem toldOf_le (cs ds : List (List (List Int))) : (toldOf cs).length ≤ (toldOf (cs ++ ds)).length := by
  unfold toldOf
  rw [played_app, told_app, List.length_append]
  exact Nat.le_add_right _ _
theorem asked_is {ns : List Int} (h : PyKp408.answers_asked ns = true) : ∃ raw, PyFlat.calls PyKp408.shape ns.length ns = some raw ∧ raw.length ≤ 60 ∧ (∀ c ∈ raw, Kp408Neutral.asked1 (PyKp408.whole c) = true) ∧
    PyKp408.answers ns = toldOf (raw.map PyKp408.whole) ∧ (toldOf (raw.map PyKp408.whole)).length ≤ 10000000 := by
  have ha : ∀ {raw}, PyFlat.calls PyKp408.shape ns.length ns = some raw → PyKp408.answers ns = toldOf (raw.map PyKp408.whole) := fun {raw} e => by
    unfold PyKp408.answers PyKp408.calls
    rw [e]
    rfl
  unfold PyKp408.answers_asked at h
  cases e : PyFlat.calls PyKp408.shape ns.length ns with
  | none => rw [e] at h; cases h
  | some raw =>
    rw [e] at h
    have h : (!raw.isEmpty && PyFlat.atMost 60 raw && PyInside.calls PyKp408.bound raw && Kp408Neutral.asked (raw.map PyKp408.whole) && PyFlat.short 10000000 (PyKp408.answers ns)) = true := h
    rw [Bool.and_eq_true, Bool.and_eq_true, Bool.and_eq_true, Bool.and_eq_true] at h
    obtain ⟨⟨⟨⟨_, h60⟩, _⟩, hasked⟩, hshort⟩ := h
    refine ⟨raw, rfl, of_decide_eq_true h60, fun c hc => ?_, ha e, ?_⟩
    · unfold Kp408Neutral.asked at hasked
      rw [Bool.and_eq_true, Bool.and_eq_true] at hasked
      exact List.all_eq_true.mp hasked.2.2 _ (List.mem_map_of_mem hc)
    · rw [← ha e]
      exact of_decide_eq_true hshort
end Mill
namespace Mill
open PySem PySem.Spec PyProof.Rows L2

/-! ### lists in step -/
inductive Al {α β : Type} (R : α → β → Prop) : List α → List β → Prop
  | nil : Al R [] []
  | cons {a : α} {b : β} {l : List α} {m : List β} : R a b → Al R l m → Al R (a :: l) (b :: m)
section
variable {α β : Type} {R S : α → β → Prop}
theorem Al.length {l : List α} {m : List β} (h : Al R l m) : l.length = m.length := by
  induction h with
  | nil => rfl
  | cons _ _ ih => rw [List.length_cons, List.length_cons, ih]
theorem Al.mono {l : List α} {m : List β} (h : Al R l m) (f : ∀ a b, R a b → S a b) : Al S l m := by
  induction h with
  | nil => exact .nil
  | cons r _ ih => exact .cons (f _ _ r) ih
theorem Al.append {l l' : List α} {m m' : List β} (h : Al R l m) (h' : Al R l' m') : Al R (l ++ l') (m ++ m') := by
  induction h with
  | nil => exact h'
  | cons r _ ih => exact .cons r ih
theorem Al.take {l : List α} {m : List β} (h : Al R l m) (n : Nat) : Al R (l.take n) (m.take n) := by
  induction h generalizing n with
  | nil => rw [List.take_nil, List.take_nil]; exact .nil
  | cons r _ ih =>
    cases n with
    | zero => exact .nil
    | succ n => exact .cons r (ih n)
theorem Al.drop {l : List α} {m : List β} (h : Al R l m) (n : Nat) : Al R (l.drop n) (m.drop n) := by
  induction h generalizing n with
  | nil => rw [List.drop_nil, List.drop_nil]; exact .nil
  | cons r t ih =>
    cases n with
    | zero => exact .cons r t
    | succ n => exact ih n
theorem Al.rep {a : α} {b : β} (r : R a b) : ∀ n, Al R (List.replicate n a) (List.replicate n b)
  | 0 => .nil
  | n + 1 => .cons r (Al.rep r n)
theorem Al.get {l : List α} {m : List β} (h : Al R l m) {i : Nat} {b : β} (e : m[i]? = some b) : ∃ a, l[i]? = some a ∧ R a b := by
  induction h generalizing i with
  | nil => simp at e
  | cons r _ ih =>
    cases i with
    | zero =>
      simp at e
      subst e
      exact ⟨_, rfl, r⟩
    | succ i => exact ih (i := i) e
theorem Al.get' {l : List α} {m : List β} (h : Al R l m) {i : Nat} {a : α} (e : l[i]? = some a) : ∃ b, m[i]? = some b ∧ R a b := by
  induction h generalizing i with
  | nil => simp at e
  | cons r _ ih =>
    cases i with
    | zero =>
      simp at e
      subst e
      exact ⟨_, rfl, r⟩
    | succ i => exact ih (i := i) e
theorem Al.set {l : List α} {m : List β} (h : Al R l m) {a : α} {b : β} (r : R a b) (i : Nat) : Al R (l.set i a) (m.set i b) := by
  induction h generalizing i with
  | nil => exact .nil
  | cons r' t ih =>
    cases i with
    | zero => exact .cons r t
    | succ i => exact .cons r' (ih i)
theorem Al.one {a : α} {b : β} (r : R a b) : Al R [a] [b] := .cons r .nil
end

/-! ### what stands in the heap -/
def natV (n : Nat) : V := .int (n : Int)
def frT (q : Rat) : HO := .tup [.int q.num, .int ((q.den : Nat) : Int)]
def FrAt (H : Hp) (v : V) (q : Rat) : Prop := ∃ a, v = .ref a ∧ H a = some (frT q)
def FrsAt (H : Hp) (a : Addr) (qs : List Rat) : Prop := ∃ vs, H a = some (.lst vs) ∧ Al (FrAt H) vs qs
def IntsAt (H : Hp) (a : Addr) (ns : List Nat) : Prop := H a = some (.lst (ns.map natV))
def RowAt (H : Hp) (v : V) (row : List Nat) : Prop := ∃ a, v = .ref a ∧ IntsAt H a row
def MatAt (H : Hp) (a : Addr) (B : List (List Nat)) : Prop := ∃ vs, H a = some (.lst vs) ∧ Al (RowAt H) vs B
theorem natV_map (ns : List Nat) : ns.map natV = (ns.map fun (x : Nat) => (x : Int)).map V.int := by
  rw [List.map_map]
  rfl
theorem FrAt.same {H H' : Hp} (s : Same H H') {v : V} {q : Rat} (h : FrAt H v q) : FrAt H' v q := by
  obtain ⟨a, e, h⟩ := h
  exact ⟨a, e, s _ _ h⟩
theorem FrsAt.same {H H' : Hp} (s : Same H H') {a : Addr} {qs : List Rat} (h : FrsAt H a qs) : FrsAt H' a qs := by
  obtain ⟨vs, e, h⟩ := h
  exact ⟨vs, s _ _ e, h.mono fun _ _ r => r.same s⟩
theorem IntsAt.same {H H' : Hp} (s : Same H H') {a : Addr} {ns : List Nat} (h : IntsAt H a ns) : IntsAt H' a ns := s _ _ h
theorem RowAt.same {H H' : Hp} (s : Same H H') {v : V} {r : List Nat} (h : RowAt H v r) : RowAt H' v r := by
  obtain ⟨a, e, h⟩ := h
  exact ⟨a, e, h.same s⟩
theorem MatAt.same {H H' : Hp} (s : Same H H') {a : Addr} {B : List (List Nat)} (h : MatAt H a B) : MatAt H' a B := by
  obtain ⟨vs, e, h⟩ := h
  exact ⟨vs, s _ _ e, h.mono fun _ _ r => r.same s⟩
theorem same_new {H : Hp} {p : Addr} {o : HO} (h : H p = none) : Same H (upd H p o) := fun b u e => by
  rw [upd_ne (ne_of_none e h)]
  exact e
theorem frs_len {H : Hp} {a : Addr} {qs : List Rat} {vs : List V} (h : Al (FrAt H) vs qs) : vs.length = qs.length := h.length

/-! ### a def of the text, known by its promise -/
def Def0 (P : Program) (w : World) (K : PySem.W.Frag) (mg : Str → Option Value) (base : Heap) (x : Str) (k : Nat) (ps : List Str) (sp : Sp) : Prop :=
  ∃ (f : Addr) (fd : FuncData), mg x = some (.ref f) ∧ PySem.W.keepIn K (.ref f) = true ∧ Binds K fd ps [] ∧ FnOk P w K mg base CX0 k f fd ps sp
section
variable {X : Cx} {k : Nat} {ps : List Str} {sp : Sp} {x : Str} {p pos : Pos} {e : Expr} {es : List Expr} {t : TA}
theorem pe_def (D : Def0 X.prog X.w X.K X.mg X.base x k ps sp) (hr : Room k X.A) (hg : Gl X x) (ha : PA X (e :: es) t) (hdb : (x == ("__debug__" : Str)) = false := by decide) (he : starEach (e :: es) X.env = (false, eval e X.env) :: starEach es X.env := by rfl) (hpl : (backTo pos (starEach es X.env)).any (·.1) = false := by rfl) :
    PE X (.Call (.Name x p) (e :: es) [] pos) (tCall sp [] E0 t) := by
  obtain ⟨f, fd, h1, h2, h3, h4⟩ := D
  exact pe_call h4 hr hg h1 h2 h3 .nil pass0 ha hdb he hpl
end
section
variable {P : Program} {w : World} {K : PySem.W.Frag} {mg : Str → Option Value} {base : Heap}
/-- THE RULE for a def that lets nothing out -/
theorem def_ok {x qual : Str} {st : Stmt} {f : Addr} {fd : FuncData} {N ps : List Str} {k : Nat} {sp : Sp} (F : Fun K x qual st f fd) (S : FnScope N ps (defScope st)) (len : ∀ vs H Q E, sp vs H Q E → vs.length = ps.length) (b : Binds K fd ps []) (hm : mg x = some (.ref f))
    (hbody : ∀ (cdv : Value) (A : Around) (outer : List Env) (s : Shared) (H : Hp) (vs : List V) (Q : VK) (E : XK), Room k (A.deeper (envOfC qual (defScope st) s.heap.objs.size f cdv)) → sp vs H Q E →
      ∃ t, PSs (cxOf CX0 P w K mg base N qual (defScope st) f cdv A outer s H E).nox (defBody st) t ∧ t { nx := fun _ H' => Q .non H', rt := Q } (start N vs) H) : Def0 P w K mg base x (k + 1) ps sp :=
  ⟨f, fd, hm, F.kp, b, F.ok S len hbody⟩
end

/-! ### the text -/
def top (i : Nat) : Stmt := PySem.Challenge.pw_sievemill_s01_answers.main.body.getD i (.Pass ⟨0, 0, 0, 0⟩)

/-! ### short answers -/
/-- a tuple's or a list's item -/
theorem at0 {v w : V} : atI [v, w] 0 = some v := atI_nat (j := 0) rfl
theorem at1 {v w : V} : atI [v, w] 1 = some w := atI_nat (j := 1) rfl
/-- t[0], t[1] of a fraction in a slot -/
def tFst (K : PySem.W.Frag) (i : Nat) : TE := tOp (rIxT K) (tVar i) (tC (.int 0))
def tSnd (K : PySem.W.Frag) (i : Nat) : TE := tOp (rIxT K) (tVar i) (tC (.int 1))
theorem fst_ok {K : PySem.W.Frag} {σ : L2.St} {H : Hp} {Q : VK} {i : Nat} {v : V} {q : Rat} (hv : σ[i]? = some (some v)) (h : FrAt H v q) (k : Q (.int q.num) H) : tFst K i σ H Q := by
  obtain ⟨a, rfl, ha⟩ := h
  exact ⟨_, hv, a, _, _, _, rfl, rfl, SqT.of ha, at0, k⟩
theorem snd_ok {K : PySem.W.Frag} {σ : L2.St} {H : Hp} {Q : VK} {i : Nat} {v : V} {q : Rat} (hv : σ[i]? = some (some v)) (h : FrAt H v q) (k : Q (.int ((q.den : Nat) : Int)) H) : tSnd K i σ H Q := by
  obtain ⟨a, rfl, ha⟩ := h
  exact ⟨_, hv, a, _, _, _, rfl, rfl, SqT.of ha, at1, k⟩
theorem pe_fst {X : Cx} {i : Nat} {x : Str} {p p2 p3 : Pos} {j : Nat} (h : PE X (.Name x p) (tVar i)) : PE X (.Subscript (.Name x p) (.Constant (.int 0) j p2) p3) (tFst X.K i) := pe_ix ix_tup h pe_int (fun _ _ => rfl)
theorem pe_snd {X : Cx} {i : Nat} {x : Str} {p p2 p3 : Pos} {j : Nat} (h : PE X (.Name x p) (tVar i)) : PE X (.Subscript (.Name x p) (.Constant (.int 1) j p2) p3) (tSnd X.K i) := pe_ix ix_tup h pe_int (fun _ _ => rfl)
end Mill
namespace Mill
open PySem PySem.Spec PyProof.Rows L2

/-! ### rational.py: the promises -/
def spWhole : Sp := fun vs H Q _ => ∃ n : Nat, vs = [natV n] ∧ ∀ H' v, Same H H' → FrAt H' v (n : Rat) → Q v H'
def spGcd : Sp := fun vs H Q _ => ∃ l r : Nat, vs = [natV l, natV r] ∧ Q (natV (Nat.gcd l r)) H
def spLow : Sp := fun vs H Q _ => ∃ n d : Nat, vs = [natV n, natV d] ∧ 0 < d ∧ d < 2 ^ 8900 ∧ ∀ H' v, Same H H' → FrAt H' v (mkRat (n : Int) d) → Q v H'
def spPlus : Sp := fun vs H Q _ => ∃ v w p q, vs = [v, w] ∧ FrAt H v p ∧ FrAt H w q ∧ Sm 4000 p ∧ Sm 4000 q ∧ ∀ H' v, Same H H' → FrAt H' v (p + q) → Q v H'
def spScaled : Sp := fun vs H Q _ => ∃ (v : V) (p : Rat) (n e : Nat), vs = [v, natV n, natV e] ∧ FrAt H v p ∧ Sm 4000 p ∧ n < 2 ^ 4000 ∧ 0 < e ∧ e < 2 ^ 4000 ∧ ∀ H' v, Same H H' → FrAt H' v (p * (n : Rat) / (e : Rat)) → Q v H'
def spTotal : Sp := fun vs H Q _ => ∃ a qs b, vs = [.ref a] ∧ FrsAt H a qs ∧ Bd b qs ∧ b + qs.length ≤ 4000 ∧ ∀ H' v, Same H H' → FrAt H' v qs.sum → Q v H'
def spAtLeast : Sp := fun vs H Q _ => ∃ v w p q, vs = [v, w] ∧ FrAt H v p ∧ FrAt H w q ∧ Sm 4000 p ∧ Sm 4000 q ∧ Q (.bl (decide (q ≤ p))) H
def tooLarge (q : Rat) : Bool := decide (10 ^ 30 ≤ q.num) || decide (10 ^ 30 ≤ ((q.den : Nat) : Int))
def spTooLarge : Sp := fun vs H Q _ => ∃ v q, vs = [v] ∧ FrAt H v q ∧ Q (.bl (tooLarge q)) H

abbrev sWhole : Stmt := top 1
abbrev sGcd : Stmt := top 2
abbrev sLow : Stmt := top 3
abbrev sPlus : Stmt := top 4
abbrev sScaled : Stmt := top 5
abbrev sTotal : Stmt := top 6
abbrev sAtLeast : Stmt := top 7
abbrev sTooLarge : Stmt := top 8

theorem natAbs_lt {n b : Nat} (h : n < 2 ^ b) : ((n : Int)).natAbs < 2 ^ b := by rw [Int.natAbs_natCast]; exact h

section
variable {P : Program} {w : World} {K : PySem.W.Frag} {mg : Str → Option Value} {base : Heap}

theorem scWhole : FnScope ["number"] ["number"] (defScope sWhole) := ⟨rfl, rfl, rfl, by decide +kernel, rfl, by decide +kernel, by decide +kernel⟩
theorem ok_whole {f : Addr} {fd : FuncData} (F : Fun K "whole" "whole" sWhole f fd) (b : Binds K fd ["number"] []) (hm : mg "whole" = some (.ref f)) : Def0 P w K mg base "whole" 1 ["number"] spWhole := by
  refine def_ok F scWhole (fun vs H Q E h => ?_) b hm (fun cdv A outer s H vs Q E hr h => ⟨_, pss_one (ps_ret (pe_tup (pa_cons (pv 0) (pa_cons pe_int pa_nil)))), ?_⟩)
  · obtain ⟨n, rfl, _⟩ := h
    rfl
  · obtain ⟨n, rfl, k⟩ := h
    exact ⟨_, rfl, (by show 2 ≤ sizeLine; decide), fun p hp => k _ _ (same_new hp) ⟨p, rfl, upd_same⟩⟩

theorem scGcd : FnScope ["left", "right", "rest"] ["left", "right"] (defScope sGcd) := ⟨rfl, rfl, rfl, by decide +kernel, rfl, by decide +kernel, by decide +kernel⟩
theorem ok_gcd {f : Addr} {fd : FuncData} (F : Fun K "common_divisor" "common_divisor" sGcd f fd) (b : Binds K fd ["left", "right"] []) (hm : mg "common_divisor" = some (.ref f)) : Def0 P w K mg base "common_divisor" 1 ["left", "right"] spGcd := by
  refine def_ok F scGcd (fun vs H Q E h => ?_) b hm (fun cdv A outer s H vs Q E hr h => ⟨_, pss_cons (ps_while PassesOwn.never (pt_cmpR op_ne (pv 1) pe_int (nomark _))
      (pss_cons (ps_set (i := 2) scGcd.nd rfl (.inl rfl) (pe_op op_mod (pv 0) (pv 1))) (pss_cons (ps_set (i := 0) scGcd.nd rfl (.inl rfl) (pv 1)) (pss_one (ps_set (i := 1) scGcd.nd rfl (.inl rfl) (pv 2))))))
    (pss_one (ps_ret (pv 0))), ?_⟩)
  · obtain ⟨l, r, rfl, _⟩ := h
    rfl
  · obtain ⟨l, r, rfl, k⟩ := h
    refine while_by (fun σ H' => H' = H ∧ ∃ (a b : Nat) (v : Option V), σ = [some (natV a), some (natV b), v] ∧ Nat.gcd a b = Nat.gcd l r) (fun σ _ => match σ with | [_, some (.int b), _] => b.toNat | _ => 0) ⟨rfl, l, r, none, rfl, rfl⟩ ?_ ?_
    · rintro σ H' ⟨rfl, a, b, v, rfl, e⟩
      refine ⟨_, rfl, rfl, _, rfl, ?_⟩
      show if (!decide (natV b = V.int 0)) = true then _ else _
      by_cases hb : b = 0
      · subst hb
        rw [decide_eq_true (show natV 0 = V.int 0 from rfl)]
        refine iteF ⟨_, rfl, ?_⟩
        rw [← e, Nat.gcd_zero_right] at k
        exact k
      · rw [decide_eq_false (show ¬ natV b = V.int 0 from fun z => hb (by have := V.int.inj z; omega))]
        refine iteT ⟨_, rfl, _, rfl, _, _, rfl, rfl, (by show (0 : Int) < (b : Int); omega), _, rfl, _, rfl, ⟨rfl, b, a % b, _, rfl, ?_⟩, ?_⟩
        · rw [← e, Nat.gcd_comm b (a % b), ← Nat.gcd_rec, Nat.gcd_comm]
        · show ((a : Int) % (b : Int)).toNat < ((b : Nat) : Int).toNat
          have h1 := Int.emod_lt_of_pos (a : Int) (show (0 : Int) < (b : Int) by omega)
          have h2 := Int.emod_nonneg (a : Int) (show (b : Int) ≠ 0 by omega)
          omega
    · rintro σ H' Q1 Q2 hq ⟨v, h1, h2, c, h3, h4⟩
      exact ⟨v, h1, h2, c, h3, hq _ _ h4⟩

theorem scLow : FnScope ["num", "den", "divisor"] ["num", "den"] (defScope sLow) := ⟨rfl, rfl, rfl, by decide +kernel, rfl, by decide +kernel, by decide +kernel⟩
theorem ok_low {f : Addr} {fd : FuncData} (F : Fun K "lowest_terms" "lowest_terms" sLow f fd) (b : Binds K fd ["num", "den"] []) (hm : mg "lowest_terms" = some (.ref f)) (G : Def0 P w K mg base "common_divisor" 1 ["left", "right"] spGcd) :
    Def0 P w K mg base "lowest_terms" 2 ["num", "den"] spLow := by
  refine def_ok F scLow (fun vs H Q E h => ?_) b hm (fun cdv A outer s H vs Q E hr h => ⟨_, pss_cons (ps_set (i := 2) scLow.nd rfl (.inl rfl) (pe_def G hr rfl (pa_cons (pv 0) (pa_cons (pv 1) pa_nil))))
    (pss_one (ps_ret (pe_tup (pa_cons (pe_op op_fdivW (pv 0) (pv 2)) (pa_cons (pe_op op_fdivW (pv 1) (pv 2)) pa_nil))))), ?_⟩)
  · obtain ⟨n, d, rfl, _⟩ := h
    rfl
  · obtain ⟨n, d, rfl, h0, h1, k⟩ := h
    have hg : 0 < Nat.gcd n d := Nat.gcd_pos_of_pos_right n h0
    have hg2 : Nat.gcd n d < 2 ^ 8900 := Nat.lt_of_le_of_lt (Nat.le_of_dvd h0 (Nat.gcd_dvd_right n d)) h1
    have hw : ∀ i : Int, CDivW i ((Nat.gcd n d : Nat) : Int) := fun i => wide_div (by omega) (natAbs_lt hg2) (by decide) (by decide)
    refine ⟨_, rfl, _, rfl, n, d, rfl, _, rfl, _, rfl, _, _, rfl, rfl, hw _, _, rfl, _, rfl, _, _, rfl, rfl, hw _, (by show 2 ≤ sizeLine; decide), fun p hp => k _ _ (same_new hp) ⟨p, rfl, ?_⟩⟩
    rw [upd_same]
    unfold frT
    rw [low_num h0, low_den h0]

theorem scPlus : FnScope ["left", "right"] ["left", "right"] (defScope sPlus) := ⟨rfl, rfl, rfl, by decide +kernel, rfl, by decide +kernel, by decide +kernel⟩
theorem mul_w {a b : Nat} (ha : a < 2 ^ 4000) (hb : b < 2 ^ 4000) : CMulW (a : Int) (b : Int) := wide_mul (natAbs_lt ha) (natAbs_lt hb) (by decide) (by decide) (by decide)
theorem mul_8000 {a b : Nat} (ha : a < 2 ^ 4000) (hb : b < 2 ^ 4000) : a * b < 2 ^ 8900 := Nat.lt_of_lt_of_le (mul_lt_pow ha hb) (pow_le (by decide))
theorem ok_plus {f : Addr} {fd : FuncData} (F : Fun K "plus" "plus" sPlus f fd) (b : Binds K fd ["left", "right"] []) (hm : mg "plus" = some (.ref f)) (G : Def0 P w K mg base "lowest_terms" 2 ["num", "den"] spLow) :
    Def0 P w K mg base "plus" 3 ["left", "right"] spPlus := by
  refine def_ok F scPlus (fun vs H Q E h => ?_) b hm (fun cdv A outer s H vs Q E hr h => ⟨_, pss_one (ps_ret (pe_def G hr rfl (pa_cons (pe_op op_add (pe_op op_mulW (pe_fst (pv 0)) (pe_snd (pv 1))) (pe_op op_mulW (pe_fst (pv 1)) (pe_snd (pv 0))))
    (pa_cons (pe_op op_mulW (pe_snd (pv 0)) (pe_snd (pv 1))) pa_nil)))), ?_⟩)
  · obtain ⟨v, w, p, q, rfl, _⟩ := h
    rfl
  · obtain ⟨v, w, p, q, rfl, hv, hw, sp, sq, k⟩ := h
    obtain ⟨n1, d1, e1, e2, b1, z1, b2, g1⟩ := nn_of sp
    obtain ⟨n2, d2, f1, f2, c1, z2, c2, g2⟩ := nn_of sq
    refine fst_ok rfl hv (snd_ok rfl hw ⟨_, _, rfl, rfl, ?_, fst_ok rfl hw (snd_ok rfl hv ⟨_, _, rfl, rfl, ?_, _, _, rfl, rfl, snd_ok rfl hv (snd_ok rfl hw ⟨_, _, rfl, rfl, ?_, ?_⟩)⟩)⟩)
    · rw [e1, f2]
      exact mul_w b1 c2
    · rw [f1, e2]
      exact mul_w c1 b2
    · rw [e2, f2]
      exact mul_w b2 c2
    · refine ⟨n1 * d2 + n2 * d1, d1 * d2, ?_, Nat.mul_pos z1 z2, mul_8000 b2 c2, fun H' u hs hf => k H' u hs ?_⟩
      · rw [e1, e2, f1, f2]
        rfl
      · rw [add_low g1 g2 z1 z2]
        exact hf

theorem scScaled : FnScope ["fraction", "num", "den"] ["fraction", "num", "den"] (defScope sScaled) := ⟨rfl, rfl, rfl, by decide +kernel, rfl, by decide +kernel, by decide +kernel⟩
theorem ok_scaled {f : Addr} {fd : FuncData} (F : Fun K "scaled" "scaled" sScaled f fd) (b : Binds K fd ["fraction", "num", "den"] []) (hm : mg "scaled" = some (.ref f)) (G : Def0 P w K mg base "lowest_terms" 2 ["num", "den"] spLow) :
    Def0 P w K mg base "scaled" 3 ["fraction", "num", "den"] spScaled := by
  refine def_ok F scScaled (fun vs H Q E h => ?_) b hm (fun cdv A outer s H vs Q E hr h => ⟨_, pss_one (ps_ret (pe_def G hr rfl (pa_cons (pe_op op_mulW (pe_fst (pv 0)) (pv 1)) (pa_cons (pe_op op_mulW (pe_snd (pv 0)) (pv 2)) pa_nil)))), ?_⟩)
  · obtain ⟨v, p, n, e, rfl, _⟩ := h
    rfl
  · obtain ⟨v, p, n, e, rfl, hv, sp, hn, h0, he, k⟩ := h
    obtain ⟨n1, d1, e1, e2, b1, z1, b2, g1⟩ := nn_of sp
    refine fst_ok rfl hv ⟨_, rfl, _, _, rfl, rfl, ?_, snd_ok rfl hv ⟨_, rfl, _, _, rfl, rfl, ?_, ?_⟩⟩
    · rw [e1]
      exact mul_w b1 hn
    · rw [e2]
      exact mul_w b2 he
    · refine ⟨n1 * n, d1 * e, ?_, Nat.mul_pos z1 h0, mul_8000 b2 he, fun H' u hs hf => k H' u hs ?_⟩
      · rw [e1, e2]
        rfl
      · rw [scale_low g1]
        exact hf

theorem scTotal : FnScope ["fractions", "result", "fraction"] ["fractions"] (defScope sTotal) := ⟨rfl, rfl, rfl, by decide +kernel, rfl, by decide +kernel, by decide +kernel⟩
theorem sum_take {qs : List Rat} {i : Nat} {q : Rat} (h : qs[i]? = some q) : (qs.take (i + 1)).sum = (qs.take i).sum + q := by
  obtain ⟨hi, e⟩ := List.getElem?_eq_some_iff.mp h
  rw [List.take_succ_eq_append_getElem hi, sum_app, sum_one, e]
theorem ok_total {f : Addr} {fd : FuncData} (F : Fun K "total" "total" sTotal f fd) (b : Binds K fd ["fractions"] []) (hm : mg "total" = some (.ref f)) (G : Def0 P w K mg base "whole" 1 ["number"] spWhole) (G2 : Def0 P w K mg base "plus" 3 ["left", "right"] spPlus) :
    Def0 P w K mg base "total" 4 ["fractions"] spTotal := by
  refine def_ok F scTotal (fun vs H Q E h => ?_) b hm (fun cdv A outer s H vs Q E hr h => ⟨_, pss_cons (ps_set (i := 1) scTotal.nd rfl (.inl rfl) (pe_def G (hr.mono (by decide)) rfl (pa_cons pe_int pa_nil)))
    (pss_cons (ps_for PassesOwn.never rfl (pi_list (pv 0)) (pg_name (i := 2) scTotal.nd rfl (.inl rfl)) (pss_one (ps_set (i := 1) scTotal.nd rfl (.inl rfl) (pe_def G2 hr rfl (pa_cons (pv 1) (pa_cons (pv 2) pa_nil))))))
    (pss_one (ps_ret (pv 1)))), ?_⟩)
  · obtain ⟨a, qs, b, rfl, _⟩ := h
    rfl
  · obtain ⟨a, qs, b, rfl, ⟨xs, hx, hal⟩, hb, hlen, k⟩ := h
    refine ⟨0, rfl, fun H1 v1 s1 f1 => ?_⟩
    refine ⟨_, rfl, a, rfl, ⟨xs, SqL.of (s1 _ _ hx)⟩, for_list (K := K) (a := a) (xs := xs) (fun i σ H' => ∃ (v : V) (u : Option V), σ = [some (.ref a), some v, u] ∧ Same H H' ∧ FrAt H' v (qs.take i).sum)
      ⟨v1, none, rfl, s1, f1⟩ (fun i σ H' _ ⟨_, _, _, s2, _⟩ => SqL.of (s2 _ _ hx)) ?_ ?_⟩
    · rintro i x σ H' hi ⟨v, u, rfl, s2, f2⟩
      obtain ⟨q, hq, hf⟩ := hal.get' hi
      have hsum : Sm 4000 (qs.take i).sum := ((hb.sub (ps := qs.take i) fun p hp => List.mem_of_mem_take hp).sum.sm List.mem_cons_self).mono (by rw [List.length_take]; omega)
      have hq2 : Sm 4000 q := (hb.sm (List.mem_of_getElem? hq)).mono (by omega)
      refine ⟨_, rfl, _, rfl, v, x, (qs.take i).sum, q, rfl, f2, hf.same s2, hsum, hq2, fun H3 v3 s3 f3 => ⟨v3, some x, rfl, s2.trans s3, ?_⟩⟩
      rw [sum_take hq]
      exact f3
    · rintro σ H' ⟨v, u, rfl, s2, f2⟩
      rw [hal.length, List.take_length] at f2
      exact ⟨_, rfl, k _ _ s2 f2⟩

theorem scAtLeast : FnScope ["fraction", "bound"] ["fraction", "bound"] (defScope sAtLeast) := ⟨rfl, rfl, rfl, by decide +kernel, rfl, by decide +kernel, by decide +kernel⟩
theorem ok_atLeast {f : Addr} {fd : FuncData} (F : Fun K "is_at_least" "is_at_least" sAtLeast f fd) (b : Binds K fd ["fraction", "bound"] []) (hm : mg "is_at_least" = some (.ref f)) : Def0 P w K mg base "is_at_least" 1 ["fraction", "bound"] spAtLeast := by
  refine def_ok F scAtLeast (fun vs H Q E h => ?_) b hm (fun cdv A outer s H vs Q E hr h => ⟨_, pss_one (ps_ret (pe_cmpR op_ge (pe_op op_mulW (pe_fst (pv 0)) (pe_snd (pv 1))) (pe_op op_mulW (pe_fst (pv 1)) (pe_snd (pv 0))) (nomark _))), ?_⟩)
  · obtain ⟨v, w, p, q, rfl, _⟩ := h
    rfl
  · obtain ⟨v, w, p, q, rfl, hv, hw, sp, sq, k⟩ := h
    obtain ⟨n1, d1, e1, e2, b1, z1, b2, g1⟩ := nn_of sp
    obtain ⟨n2, d2, f1, f2, c1, z2, c2, g2⟩ := nn_of sq
    refine fst_ok rfl hv (snd_ok rfl hw ⟨_, _, rfl, rfl, ?_, fst_ok rfl hw (snd_ok rfl hv ⟨_, _, rfl, rfl, ?_, _, _, rfl, rfl, ?_⟩)⟩)
    · rw [e1, f2]
      exact mul_w b1 c2
    · rw [f1, e2]
      exact mul_w c1 b2
    · have e : decide (q ≤ p) = decide (q.num * ((p.den : Nat) : Int) ≤ p.num * ((q.den : Nat) : Int)) := decide_eq_decide.mpr le_low
      rw [e] at k
      exact k

theorem scTooLarge : FnScope ["fraction", "limit"] ["fraction"] (defScope sTooLarge) := ⟨rfl, rfl, rfl, by decide +kernel, rfl, by decide +kernel, by decide +kernel⟩
theorem ok_tooLarge {f : Addr} {fd : FuncData} (F : Fun K "is_too_large" "is_too_large" sTooLarge f fd) (b : Binds K fd ["fraction"] []) (hm : mg "is_too_large" = some (.ref f)) : Def0 P w K mg base "is_too_large" 1 ["fraction"] spTooLarge := by
  refine def_ok F scTooLarge (fun vs H Q E h => ?_) b hm (fun cdv A outer s H vs Q E hr h => ⟨_, pss_cons (ps_set (i := 1) scTooLarge.nd rfl (.inl rfl) (pe_op op_pow pe_int pe_int))
    (pss_one (ps_ret (pe_or (pe_cmpR op_ge (pe_fst (pv 0)) (pv 1) (nomark _)) (pe_one (pe_cmpR op_ge (pe_snd (pv 0)) (pv 1) (nomark _)))))), ?_⟩)
  · obtain ⟨v, q, rfl, _⟩ := h
    rfl
  · obtain ⟨v, q, rfl, hv, k⟩ := h
    refine ⟨_, _, rfl, rfl, ⟨by decide, by decide, by decide⟩, ?_⟩
    refine fst_ok rfl hv ⟨_, rfl, _, _, rfl, rfl, _, rfl, ?_⟩
    unfold tooLarge at k
    have e30 : (10 : Int) ^ (30 : Int).toNat = 10 ^ 30 := rfl
    show if decide ((10 : Int) ^ (30 : Int).toNat ≤ q.num) = true then _ else _
    rw [e30]
    by_cases c : (10 : Int) ^ 30 ≤ q.num
    · rw [decide_eq_true c] at k ⊢
      exact iteT k
    · rw [decide_eq_false c] at k ⊢
      exact iteF (snd_ok rfl hv ⟨_, rfl, _, _, rfl, rfl, k⟩)
end
end Mill
namespace Mill
open PySem PySem.Spec PyProof.Rows L2

/-! ### a comprehension whose turns make new objects alone -/
def Off (D : Addr) (H H' : Hp) : Prop := ∀ b o, b ≠ D → H b = some o → H' b = some o
theorem Off.upd {D : Addr} {H : Hp} {o : HO} : Off D H (upd H D o) := fun b u hb e => by
  rw [upd_ne hb]
  exact e
theorem off_of {D : Addr} {H H' : Hp} (s : Same H H') : Off D H H' := fun b o _ e => s b o e
theorem FrAt.off {D : Addr} {H H' : Hp} {ys : List V} (s : Off D H H') (hD : H D = some (.lst ys)) {v : V} {q : Rat} (h : FrAt H v q) : FrAt H' v q := by
  obtain ⟨a, e, h⟩ := h
  exact ⟨a, e, s _ _ (ne_of h hD (by intro z; cases z)) h⟩
theorem same_upd {H1 H : Hp} {D : Addr} {o : HO} (h : H1 D = none) (s : Same H1 H) : Same H1 (upd H D o) := fun b u e => by
  rw [upd_ne (ne_of_none e h)]
  exact s b u e
theorem lc_new {J : It} {n : Nat} {G : Hp → Prop} {Y : Nat → Hp → V → Hp → Prop} (wk : Walk J n G Y) {g : TG} {te : TE} {vs : List Nat} {σ : L2.St} {H1 : Hp} {D : Addr} {Qd : Hp → Prop} (R : Nat → V → Hp → Prop) (hD : H1 D = none) (hn : n < sizeLine)
    (stab : ∀ i v H H' ys, Off D H H' → H D = some (.lst ys) → R i v H → R i v H') (hG : ∀ H, Same H1 H → G H) (hY : ∀ i H x H', Y i H x H' → Same H H')
    (hs : ∀ i x H H', i < n → Same H1 H → (∃ ys, H D = some (.lst ys)) → Y i H x H' → ∀ Q : VK, (∀ v H'', Same H' H'' → R i v H'' → Q v H'') → g x (wipe σ vs) H' fun σ2 H2 => wipe σ2 vs = wipe σ vs ∧ te σ2 H2 Q)
    (hd : ∀ H ys, Same H1 H → H D = some (.lst ys) → ys.length = n → (∀ i v, ys[i]? = some v → R i v H) → Qd H) :
    ∃ W : Nat → Nat → Hp → Prop, (∃ m, W 0 m (upd H1 D (.lst []))) ∧ ∀ i m H, W i m H →
      (J.stop i H ∧ Qd H) ∨ (J.go i H ∧ ∃ Nx : Hp → Prop, (∀ H', Nx H' → ∃ m', m' < m ∧ W (i + 1) m' H') ∧ ∀ x H', J.yld i H x H' → g x (wipe σ vs) H' fun σ2 H2 => wipe σ2 vs = wipe σ vs ∧ tYes σ2 H2 fun b H3 =>
        if b = true then te σ2 H3 fun y H4 => ∃ acc, H4 D = some (.lst acc) ∧ acc.length < sizeLine ∧ Nx (upd H4 D (.lst (acc ++ [y]))) else Nx H3) := by
  refine lc_it wk (fun i H => Same H1 H ∧ ∃ ys, H D = some (.lst ys) ∧ ys.length = i ∧ ∀ j v, ys[j]? = some v → R j v H) ⟨same_new hD, [], upd_same, rfl, fun j v e => by simp at e⟩ (fun i H _ h => hG H h.1) ?_ ?_
  · rintro i x H H' hi ⟨s1, ys, hys, hl, hR⟩ y
    have sy := hY i H x H' y
    have step := hs i x H H' hi s1 ⟨ys, hys⟩ y (fun v H4 => ∃ acc, H4 D = some (.lst acc) ∧ acc.length < sizeLine ∧ (Same H1 (upd H4 D (.lst (acc ++ [v]))) ∧ ∃ zs, (upd H4 D (.lst (acc ++ [v]))) D = some (.lst zs) ∧ zs.length = i + 1 ∧ ∀ j v', zs[j]? = some v' → R j v' (upd H4 D (.lst (acc ++ [v]))))) (fun v H4 s4 r4 => by
      have hD4 : H4 D = some (.lst ys) := s4 _ _ (sy _ _ hys)
      refine ⟨ys, hD4, by omega, same_upd hD ((s1.trans sy).trans s4), ys ++ [v], upd_same, by rw [List.length_append, hl]; rfl, fun j v' e => ?_⟩
      refine stab j v' H4 _ ys Off.upd hD4 ?_
      by_cases hj : j < ys.length
      · rw [List.getElem?_append_left hj] at e
        exact stab j v' H H4 ys (off_of (sy.trans s4)) hys (hR j v' e)
      · by_cases hj2 : j = i
        · subst hj2
          rw [List.getElem?_append_right (by omega), hl, Nat.sub_self] at e
          have e : v = v' := Option.some.inj e
          rw [← e]
          exact r4
        · rw [List.getElem?_eq_none (by rw [List.length_append]; show ys.length + 1 ≤ j; omega)] at e
          cases e)
    exact step
  · rintro H ⟨s1, ys, h1, h2, h3⟩
    exact hd H ys s1 h1 h2 h3
/-- what the turns gave, as a list of fractions -/
theorem frs_of {H : Hp} {D : Addr} {ys : List V} {qs : List Rat} (h : H D = some (.lst ys)) (hl : ys.length = qs.length) (hR : ∀ (i : Nat) v, ys[i]? = some v → ∀ q, qs[i]? = some q → FrAt H v q) : FrsAt H D qs := by
  refine ⟨ys, h, ?_⟩
  clear h
  induction ys generalizing qs with
  | nil =>
    cases qs with
    | nil => exact .nil
    | cons q qs => simp at hl
  | cons y ys ih =>
    cases qs with
    | nil => simp at hl
    | cons q qs => exact .cons (hR 0 y rfl q rfl) (ih (by simpa using hl) fun i v e q' e' => hR (i + 1) v e q' e')

/-! ### mill.py: the promises -/
def spUnbroken : Sp := fun vs H Q _ => ∃ n : Nat, vs = [natV n] ∧ n ≤ 5 ∧ ∀ H' a, Same H H' → H a = none → MatAt H' a ((List.range n).map fun i => List.replicate i 0 ++ [100]) → Q (.ref a) H'
def spWithFeed : Sp := fun vs H Q _ => ∃ a f qs feed b, vs = [.ref a, .ref f] ∧ FrsAt H a qs ∧ IntsAt H f feed ∧ feed.length = qs.length ∧ qs.length ≤ 5 ∧ (∀ n ∈ feed, n ≤ 100) ∧ Bd b qs ∧ b ≤ 4000 ∧ ∀ H' p, Same H H' → FrsAt H' p (fed qs feed) → Q (.ref p) H'
/-- a matrix and amounts that a pass may be asked of -/
structure MA (H : Hp) (m a : Addr) (B : List (List Nat)) (x : List Rat) (b : Nat) : Prop where
  mat : MatAt H m B
  am : FrsAt H a x
  sh : Shape B
  len : x.length = B.length
  five : x.length ≤ 5
  bd : Bd b x
theorem MA.same {H H' : Hp} (s : Same H H') {m a : Addr} {B : List (List Nat)} {x : List Rat} {b : Nat} (h : MA H m a B x b) : MA H' m a B x b := ⟨h.mat.same s, h.am.same s, h.sh, h.len, h.five, h.bd⟩
def spArriving : Sp := fun vs H Q _ => ∃ m a B x b, ∃ j i : Nat, vs = [.ref m, .ref a, natV j, natV i] ∧ MA H m a B x b ∧ j ≤ i ∧ i ≤ x.length ∧ b ≤ 3900 ∧ ∀ H' v, Same H H' → FrAt H' v (arr B x j i) → Q v H'
def spPass : Sp := fun vs H Q _ => ∃ m a B x b, vs = [.ref m, .ref a] ∧ MA H m a B x b ∧ b ≤ 3900 ∧ ∀ H' p, Same H H' → FrsAt H' p (pass B x) → Q (.ref p) H'
def spPasses : Sp := fun vs H Q _ => ∃ m a B x b, ∃ n : Nat, vs = [.ref m, .ref a, natV n] ∧ MA H m a B x b ∧ n ≤ 12 ∧ b ≤ 3700 ∧ ∀ H' p, Same H H' → FrsAt H' p (passes B n x) → Q (.ref p) H'

abbrev sUnbroken : Stmt := top 10
abbrev sWithFeed : Stmt := top 11
abbrev sArriving : Stmt := top 12
abbrev sPass : Stmt := top 13
abbrev sPasses : Stmt := top 14

section
variable {P : Program} {w : World} {K : PySem.W.Frag} {mg : Str → Option Value} {base : Heap}

theorem scUnbroken : FnScope ["class_count", "size_class"] ["class_count"] (defScope sUnbroken) := ⟨rfl, rfl, rfl, by decide +kernel, rfl, by decide +kernel, by decide +kernel⟩
theorem rep_flat (n : Nat) (v : V) : (List.replicate n [v]).flatten = List.replicate n v := by
  induction n with
  | zero => rfl
  | succ n ih =>
    rw [List.replicate_succ, List.flatten_cons, ih, List.replicate_succ]
    rfl
theorem row_of {i : Nat} : (List.replicate i 0 ++ [100] : List Nat).map natV = List.replicate i (V.int 0) ++ [V.int 100] := by
  rw [List.map_append, List.map_replicate]
  rfl
theorem mat_of {H : Hp} {D : Addr} {ys : List V} {B : List (List Nat)} (h : H D = some (.lst ys)) (hl : ys.length = B.length) (hR : ∀ (i : Nat) v, ys[i]? = some v → ∀ q, B[i]? = some q → RowAt H v q) : MatAt H D B := by
  refine ⟨ys, h, ?_⟩
  clear h
  induction ys generalizing B with
  | nil =>
    cases B with
    | nil => exact .nil
    | cons q qs => simp at hl
  | cons y ys ih =>
    cases B with
    | nil => simp at hl
    | cons q qs => exact .cons (hR 0 y rfl q rfl) (ih (by simpa using hl) fun i v e q' e' => hR (i + 1) v e q' e')
theorem ok_unbroken {f : Addr} {fd : FuncData} (F : Fun K "unbroken_matrix" "unbroken_matrix" sUnbroken f fd) (b : Binds K fd ["class_count"] []) (hm : mg "unbroken_matrix" = some (.ref f)) (nR : mg "range" = none) : Def0 P w K mg base "unbroken_matrix" 1 ["class_count"] spUnbroken := by
  refine def_ok F scUnbroken (fun vs H Q E h => ?_) b hm (fun cdv A outer s H vs Q E hr h => ⟨_, pss_one (ps_ret (pe_lc (own := [("size_class", 1)]) (g := gName 1) (tt := tYes) rfl scUnbroken.nd (pi_range1 rfl nR (pa_cons (pv 0) pa_nil))
      (blkOk_by (N := ["class_count", "size_class"]) (sc := defScope sUnbroken) (by decide +kernel)) (fun _ _ _ _ _ => pg_name (i := 1) scUnbroken.nd rfl (Or.inl rfl)) (fun _ _ _ _ _ => pts_nil)
      (fun _ _ _ _ _ => pe_op op_cat (pe_op op_rep (pe_lst (pa_cons pe_int pa_nil)) (pv 1)) (pe_lst (pa_cons pe_int pa_nil))))), ?_⟩)
  · obtain ⟨n, rfl, _⟩ := h
    rfl
  · obtain ⟨n, rfl, hn, k⟩ := h
    refine ⟨_, rfl, _, rfl, (by show (-(2 ^ 62) : Int) ≤ (n : Int); omega), (by show ((n : Nat) : Int) < 2 ^ 62; omega), fun D hD => ?_⟩
    have en : ((n : Nat) : Int).toNat = n := rfl
    refine lc_new (walk_range (lo := 0) (n := n)) (fun i v H' => ∃ a, v = .ref a ∧ a ≠ D ∧ IntsAt H' a (List.replicate i 0 ++ [100])) hD (by rw [sizeLine_eq]; omega) ?_ (fun _ _ => trivial) (fun i H x H' y => by rw [y.1]; exact Same.refl _) ?_ ?_
    · rintro i v H1 H2 ys so _ ⟨a, e, ha, hi⟩
      exact ⟨a, e, ha, so _ _ ha hi⟩
    · rintro i x H1 H2 hi s1 ⟨ys, hys⟩ ⟨rfl, rfl⟩ Q2 hQ
      refine ⟨rfl, (by show 1 ≤ sizeLine; decide), fun p1 h1 => ⟨_, rfl, p1, _, _, rfl, rfl, upd_same, (by show (-(2 ^ 63) : Int) ≤ 0 + (i : Int); omega), (by show (0 + (i : Int)) < 2 ^ 63; omega), ?_, fun p2 h2 => ⟨(by show 1 ≤ sizeLine; decide), fun p3 h3 => ?_⟩⟩⟩
      · show 1 * (0 + (i : Int)).toNat ≤ sizeLine
        rw [sizeLine_eq]
        omega
      · have ei : (0 + (i : Int)).toNat = i := by omega
        rw [ei, rep_flat] at h3 ⊢
        have s12 := same_new (o := .lst [V.int 0]) h1
        have s23 := same_new (o := .lst (List.replicate i (V.int 0))) h2
        have s34 := same_new (o := .lst [V.int 100]) h3
        refine ⟨p2, p3, List.replicate i (V.int 0), [V.int 100], rfl, rfl, s34 _ _ upd_same, upd_same, ?_, fun p4 h4 => hQ _ _ (((s12.trans s23).trans s34).trans (same_new h4)) ⟨p4, rfl, ?_, ?_⟩⟩
        · rw [List.length_replicate, sizeLine_eq]
          show i + 1 ≤ _
          omega
        · rintro rfl
          rw [((s12.trans s23).trans s34) _ _ hys] at h4
          cases h4
        · show upd _ p4 _ p4 = _
          rw [upd_same, row_of]
    · intro H3 ys s3 h3 hl hR
      refine k _ _ s3 hD (mat_of h3 (by rw [hl, List.length_map, List.length_range]) fun i v e q e2 => ?_)
      obtain ⟨a, e3, _, h4⟩ := hR i v e
      rw [List.getElem?_map] at e2
      cases e4 : (List.range n)[i]? with
      | none => rw [e4] at e2; cases e2
      | some j =>
        rw [e4] at e2
        have hj : j = i := by
          obtain ⟨h1, h5⟩ := List.getElem?_eq_some_iff.mp e4
          rw [List.getElem_range] at h5
          exact h5.symm
        subst hj
        rw [← Option.some.inj e2]
        exact ⟨a, e3, h4⟩

theorem scWithFeed : FnScope ["amounts", "feed", "amount", "fed"] ["amounts", "feed"] (defScope sWithFeed) := ⟨rfl, rfl, rfl, by decide +kernel, rfl, by decide +kernel, by decide +kernel⟩
theorem ok_withFeed {f : Addr} {fd : FuncData} (F : Fun K "with_feed" "with_feed" sWithFeed f fd) (b : Binds K fd ["amounts", "feed"] []) (hm : mg "with_feed" = some (.ref f)) (nZ : mg "zip" = none)
    (G : Def0 P w K mg base "whole" 1 ["number"] spWhole) (G2 : Def0 P w K mg base "plus" 3 ["left", "right"] spPlus) : Def0 P w K mg base "with_feed" 4 ["amounts", "feed"] spWithFeed := by
  refine def_ok F scWithFeed (fun vs H Q E h => ?_) b hm (fun cdv A outer s H vs Q E hr h => ⟨_, pss_one (ps_ret (pe_lc (own := [("amount", 2), ("fed", 3)]) (g := gTup K 2 (gCons (gName 2) (gCons (gName 3) gNil))) (tt := tYes) rfl scWithFeed.nd (pi_zip rfl nZ (pa_cons (pv 0) (pa_cons (pv 1) pa_nil)))
      (blkOk_by (N := ["amounts", "feed", "amount", "fed"]) (sc := defScope sWithFeed) (by decide +kernel)) (fun _ _ _ _ _ => pg_tup rfl (pgs_cons (pg_name (i := 2) scWithFeed.nd rfl (Or.inl rfl)) (pgs_cons (pg_name (i := 3) scWithFeed.nd rfl (Or.inl rfl)) pgs_nil))) (fun _ _ _ _ _ => pts_nil)
      (fun _ _ _ _ _ => pe_def G2 hr rfl (pa_cons (pv 2) (pa_cons (pe_def G (hr.mono (by decide)) rfl (pa_cons (pv 3) pa_nil)) pa_nil))))), ?_⟩)
  · obtain ⟨a, f, qs, feed, b, rfl, _⟩ := h
    rfl
  · obtain ⟨a, f, qs, feed, b, rfl, ⟨xs, hx, hal⟩, hf, hlen, h5, h100, hb, hb2, k⟩ := h
    have hxl := hal.length
    refine ⟨_, rfl, _, rfl, a, f, xs, feed.map natV, rfl, SqL.of hx, SqL.of hf, fun D hD => ?_⟩
    refine lc_new (walk_zip (K := K) (a := a) (b := f) (xs := xs) (ys := feed.map natV) (n := qs.length) (by rw [List.length_map, hxl]; omega)) (fun i v H' => ∀ q n, qs[i]? = some q → feed[i]? = some n → FrAt H' v (q + ((n : Nat) : Rat))) hD (by rw [sizeLine_eq]; omega)
      (fun i v H1 H2 ys so hy r q n e1 e2 => (r q n e1 e2).off so hy) (fun H1 s1 => ⟨SqL.of (s1 _ _ hx), SqL.of (s1 _ _ hf)⟩) (fun i H1 x H2 y => ?_) ?_ ?_
    · obtain ⟨T, x1, x2, _, h1, rfl, _⟩ := y
      exact same_new h1
    · rintro i x H1 H2 hi s1 ⟨ys, hys⟩ ⟨T, x1, x2, rfl, hT, rfl, e1, e2⟩ Q2 hQ
      obtain ⟨q, hq, hfq⟩ := hal.get' e1
      have e2 : (feed.map natV)[i]? = some x2 := e2
      rw [List.getElem?_map] at e2
      cases e3 : feed[i]? with
      | none => rw [e3] at e2; cases e2
      | some n =>
        rw [e3] at e2
        have e2 : natV n = x2 := Option.some.inj e2
        subst e2
        have sT := same_new (o := .tup [x1, natV n]) hT
        have hn : n ≤ 100 := h100 n (List.mem_of_getElem? e3)
        refine ⟨T, _, rfl, SqT.of upd_same, rfl, x1, _, rfl, natV n, _, rfl, rfl, rfl, ?_⟩
        refine ⟨_, rfl, _, rfl, n, rfl, fun H4 v4 s4 f4 => ⟨x1, v4, q, (n : Rat), rfl, (hfq.same s1).same (sT.trans s4), f4, (hb.sm (List.mem_of_getElem? hq)).mono hb2, nat_sm (Nat.lt_of_le_of_lt hn (Nat.lt_of_lt_of_le (by decide : 100 < 2 ^ 7) (pow_le (by decide)))) (by decide), fun H5 v5 s5 f5 => ?_⟩⟩
        refine hQ v5 H5 (s4.trans s5) fun q' n' e4 e5 => ?_
        rw [hq] at e4
        rw [e3] at e5
        cases e4
        cases e5
        exact f5
    · intro H3 ys s3 h3 hl hR
      refine k _ _ s3 (frs_of h3 (by rw [hl, fed_len hlen]) fun i v e q e2 => ?_)
      unfold fed at e2
      rw [List.getElem?_zipWith] at e2
      cases e4 : qs[i]? with
      | none => rw [e4] at e2; cases e2
      | some q1 =>
        cases e5 : feed[i]? with
        | none => rw [e4, e5] at e2; cases e2
        | some n1 =>
          rw [e4, e5] at e2
          rw [← Option.some.inj e2]
          exact hR i v e q1 n1 e4 e5

theorem scArriving : FnScope ["breakage", "amounts", "fine", "first", "coarse"] ["breakage", "amounts", "fine", "first"] (defScope sArriving) := ⟨rfl, rfl, rfl, by decide +kernel, rfl, by decide +kernel, by decide +kernel⟩
theorem range'_get {i n k : Nat} : (List.range' i n)[k]? = if k < n then some (i + k) else none := by
  by_cases h : k < n
  · rw [List.getElem?_range' h, if_pos h, Nat.one_mul]
  · rw [if_neg h, List.getElem?_eq_none (by rw [List.length_range']; omega)]
theorem ok_arriving {f : Addr} {fd : FuncData} (F : Fun K "arriving" "arriving" sArriving f fd) (b : Binds K fd ["breakage", "amounts", "fine", "first"] []) (hm : mg "arriving" = some (.ref f)) (nR : mg "range" = none) (nL : mg "len" = none)
    (G : Def0 P w K mg base "total" 4 ["fractions"] spTotal) (G2 : Def0 P w K mg base "scaled" 3 ["fraction", "num", "den"] spScaled) : Def0 P w K mg base "arriving" 5 ["breakage", "amounts", "fine", "first"] spArriving := by
  refine def_ok F scArriving (fun vs H Q E h => ?_) b hm (fun cdv A outer s H vs Q E hr h => ⟨_, pss_one (ps_ret (pe_def G hr rfl (pa_cons (pe_lc (own := [("coarse", 4)]) (g := gName 4) (tt := tYes) rfl scArriving.nd
      (pi_range2 rfl nR (pa_cons (pv 3) (pa_cons (pe_callB call_len_seq (by rfl) nL boot_len (pa_cons (pv 1) pa_nil)) pa_nil)))
      (blkOk_by (N := ["breakage", "amounts", "fine", "first", "coarse"]) (sc := defScope sArriving) (by decide +kernel)) (fun _ _ _ _ _ => pg_name (i := 4) scArriving.nd rfl (Or.inl rfl)) (fun _ _ _ _ _ => pts_nil)
      (fun _ _ _ _ _ => pe_def G2 (hr.mono (by decide)) rfl (pa_cons (pe_ix (r := rIxL K) ix_list (pv 1) (pv 4) (fun _ _ => rfl)) (pa_cons (pe_ix (r := rIxL K) ix_list (pe_ix (r := rIxL K) ix_list (pv 0) (pv 4) (fun _ _ => rfl)) (pv 2) (fun _ _ => rfl)) (pa_cons pe_int pa_nil))))) pa_nil))), ?_⟩)
  · obtain ⟨m, a, B, x, b, j, i, rfl, _⟩ := h
    rfl
  · obtain ⟨m, a, B, x, b, j, i, rfl, M, hji, hix, hb, k⟩ := h
    obtain ⟨xs, hx, hal⟩ := M.am
    obtain ⟨rs, hm2, hbl⟩ := M.mat
    have hxl := hal.length
    have h5 := M.five
    refine ⟨_, rfl, _, rfl, a, xs, rfl, .inl (SqL.of hx), _, _, rfl, ⟨(by show (-(2 ^ 62) : Int) ≤ (i : Int); omega), (by show ((i : Nat) : Int) < 2 ^ 62; omega), (by show (-(2 ^ 62) : Int) ≤ ((xs.length : Nat) : Int); omega), (by show ((xs.length : Nat) : Int) < 2 ^ 62; omega)⟩, fun D hD => ?_⟩
    have en : (((xs.length : Nat) : Int) - (i : Int)).toNat = x.length - i := by omega
    rw [en]
    refine lc_new (walk_range (lo := (i : Int)) (n := x.length - i)) (fun t v H' => FrAt H' v (part B x j (i + t))) hD (by rw [sizeLine_eq]; omega) (fun i v H1 H2 ys so hy r => r.off so hy) (fun _ _ => trivial) (fun i H x H' y => by rw [y.1]; exact Same.refl _) ?_ ?_
    · rintro t y H1 H2 ht s1 ⟨ys, hys⟩ ⟨rfl, rfl⟩ Q2 hQ
      have hlt : i + t < x.length := by omega
      obtain ⟨q, hq⟩ : ∃ q, x[i + t]? = some q := ⟨x[i + t], by simp [hlt]⟩
      obtain ⟨row, hrow⟩ : ∃ row, B[i + t]? = some row := ⟨B[i + t]'(by rw [← M.len]; exact hlt), by rw [List.getElem?_eq_getElem]⟩
      obtain ⟨v1, hv1, f1⟩ := hal.get hq
      obtain ⟨v2, hv2, ra, rfl, hra⟩ := hbl.get hrow
      have hrl := (M.sh _ _ hrow).1
      obtain ⟨c, hc⟩ : ∃ c, row[j]? = some c := ⟨row[j]'(by omega), by rw [List.getElem?_eq_getElem]⟩
      have hcle : c ≤ 100 := (M.sh _ _ hrow).2 c (List.mem_of_getElem? hc)
      have hbc : bAt B (i + t) j = c := bAt_get hrow hc
      have ei : (i : Int) + ((t : Nat) : Int) = ((i + t : Nat) : Int) := by omega
      have hgx : x.getD (i + t) 0 = q := by rw [List.getD_eq_getElem?_getD, hq]; rfl
      refine ⟨rfl, _, rfl, _, rfl, a, xs, _, v1, rfl, rfl, SqL.of (s1 _ _ hx), at_of ei hv1, _, rfl, _, rfl, m, rs, _, .ref ra, rfl, rfl, SqL.of (s1 _ _ hm2), at_of ei hv2, _, rfl, ra, row.map natV, _, natV c, rfl, rfl, SqL.of (s1 _ _ hra), at_of rfl (by rw [List.getElem?_map, hc]; rfl), ?_⟩
      refine ⟨v1, q, c, 100, rfl, f1.same s1, (M.bd.sm (List.mem_of_getElem? hq)).mono (by omega), Nat.lt_of_le_of_lt hcle (Nat.lt_of_lt_of_le (by decide : 100 < 2 ^ 7) (pow_le (by decide))), by decide, Nat.lt_of_lt_of_le (by decide : 100 < 2 ^ 7) (pow_le (by decide)), fun H3 v3 s3 f3 => hQ v3 H3 s3 ?_⟩
      unfold part
      rw [hgx, hbc]
      exact f3
    · intro H3 ys s3 h3 hl hR
      obtain ⟨D1, d0, d1, d2⟩ := M.bd
      have hb2 : Bd (b + 7) ((List.range' i (x.length - i)).map (part B x j)) := ⟨D1 * 100, by omega, mul_lt_pow d1 (by decide), fun q hq => by
        obtain ⟨t, _, rfl⟩ := List.mem_map.mp hq
        exact part_okD M.sh d2 t j⟩
      refine ⟨D, (List.range' i (x.length - i)).map (part B x j), b + 7, rfl, frs_of h3 (by rw [hl, List.length_map, List.length_range']) fun t v e q e2 => ?_, hb2, by rw [List.length_map, List.length_range']; omega, fun H4 v4 s4 f4 => k H4 v4 (s3.trans s4) f4⟩
      rw [List.getElem?_map, range'_get] at e2
      by_cases c : t < x.length - i
      · rw [if_pos c] at e2
        rw [← Option.some.inj e2]
        exact hR t v e
      · rw [if_neg c] at e2
        cases e2

theorem scPass : FnScope ["breakage", "amounts", "fine"] ["breakage", "amounts"] (defScope sPass) := ⟨rfl, rfl, rfl, by decide +kernel, rfl, by decide +kernel, by decide +kernel⟩
theorem ok_pass {f : Addr} {fd : FuncData} (F : Fun K "after_pass" "after_pass" sPass f fd) (b : Binds K fd ["breakage", "amounts"] []) (hm : mg "after_pass" = some (.ref f)) (nR : mg "range" = none) (nL : mg "len" = none)
    (G : Def0 P w K mg base "arriving" 5 ["breakage", "amounts", "fine", "first"] spArriving) : Def0 P w K mg base "after_pass" 6 ["breakage", "amounts"] spPass := by
  refine def_ok F scPass (fun vs H Q E h => ?_) b hm (fun cdv A outer s H vs Q E hr h => ⟨_, pss_one (ps_ret (pe_lc (own := [("fine", 2)]) (g := gName 2) (tt := tYes) rfl scPass.nd
      (pi_range1 rfl nR (pa_cons (pe_callB call_len_seq (by rfl) nL boot_len (pa_cons (pv 1) pa_nil)) pa_nil))
      (blkOk_by (N := ["breakage", "amounts", "fine"]) (sc := defScope sPass) (by decide +kernel)) (fun _ _ _ _ _ => pg_name (i := 2) scPass.nd rfl (Or.inl rfl)) (fun _ _ _ _ _ => pts_nil)
      (fun _ _ _ _ _ => pe_def G hr rfl (pa_cons (pv 0) (pa_cons (pv 1) (pa_cons (pv 2) (pa_cons (pv 2) pa_nil))))))), ?_⟩)
  · obtain ⟨m, a, B, x, b, rfl, _⟩ := h
    rfl
  · obtain ⟨m, a, B, x, b, rfl, M, hb, k⟩ := h
    obtain ⟨xs, hx, hal⟩ := M.am
    have hxl := hal.length
    have h5 := M.five
    refine ⟨_, rfl, a, xs, rfl, .inl (SqL.of hx), _, rfl, (by show (-(2 ^ 62) : Int) ≤ ((xs.length : Nat) : Int); omega), (by show ((xs.length : Nat) : Int) < 2 ^ 62; omega), fun D hD => ?_⟩
    have en : (((xs.length : Nat) : Int)).toNat = x.length := by omega
    rw [en]
    refine lc_new (walk_range (lo := 0) (n := x.length)) (fun t v H' => FrAt H' v (arr B x t t)) hD (by rw [sizeLine_eq]; omega) (fun i v H1 H2 ys so hy r => r.off so hy) (fun _ _ => trivial) (fun i H x H' y => by rw [y.1]; exact Same.refl _) ?_ ?_
    · rintro t y H1 H2 ht s1 ⟨ys, hys⟩ ⟨rfl, ey⟩ Q2 hQ
      have ey : y = natV t := ey.trans (congrArg V.int (Int.zero_add _))
      subst ey
      exact ⟨rfl, _, rfl, _, rfl, _, rfl, _, rfl, m, a, B, x, b, t, t, rfl, M.same s1, Nat.le_refl _, Nat.le_of_lt ht, hb, fun H3 v3 s3 f3 => hQ v3 H3 s3 f3⟩
    · intro H3 ys s3 h3 hl hR
      refine k _ _ s3 (frs_of h3 (by rw [hl, pass_len]) fun t v e q e2 => ?_)
      unfold pass at e2
      rw [List.getElem?_map] at e2
      have ht : t < x.length := by rw [← hl]; exact (List.getElem?_eq_some_iff.mp e).1
      rw [List.getElem?_range ht] at e2
      rw [← Option.some.inj e2]
      exact hR t v e

theorem scPasses : FnScope ["breakage", "amounts", "passes", "ground", "done"] ["breakage", "amounts", "passes"] (defScope sPasses) := ⟨rfl, rfl, rfl, by decide +kernel, rfl, by decide +kernel, by decide +kernel⟩
theorem ok_passes {f : Addr} {fd : FuncData} (F : Fun K "after_passes" "after_passes" sPasses f fd) (b : Binds K fd ["breakage", "amounts", "passes"] []) (hm : mg "after_passes" = some (.ref f)) (nR : mg "range" = none) (nT : mg "list" = none)
    (G : Def0 P w K mg base "after_pass" 6 ["breakage", "amounts"] spPass) : Def0 P w K mg base "after_passes" 7 ["breakage", "amounts", "passes"] spPasses := by
  refine def_ok F scPasses (fun vs H Q E h => ?_) b hm (fun cdv A outer s H vs Q E hr h => ⟨_, pss_cons (ps_set (i := 3) scPasses.nd rfl (.inl rfl) (pe_callTy call_list_of (by rfl) nT boot_list (pa_cons (pv 1) pa_nil)))
    (pss_cons (ps_for PassesOwn.never rfl (pi_range1 rfl nR (pa_cons (pv 2) pa_nil)) (pg_name (i := 4) scPasses.nd rfl (.inl rfl)) (pss_one (ps_set (i := 3) scPasses.nd rfl (.inl rfl) (pe_def G hr rfl (pa_cons (pv 0) (pa_cons (pv 3) pa_nil))))))
    (pss_one (ps_ret (pv 3)))), ?_⟩)
  · obtain ⟨m, a, B, x, b, n, rfl, _⟩ := h
    rfl
  · obtain ⟨m, a, B, x, b, n, rfl, M, hn, hb, k⟩ := h
    obtain ⟨xs, hx, hal⟩ := M.am
    refine ⟨_, rfl, a, xs, rfl, .inl (SqL.of hx), fun l hl => ?_⟩
    have sl := same_new (o := .lst xs) hl
    refine ⟨_, rfl, _, rfl, (by show (-(2 ^ 62) : Int) ≤ (n : Int); omega), (by show ((n : Nat) : Int) < 2 ^ 62; omega), ?_⟩
    refine for_range (lo := 0) (n := n) (fun i σ H' => ∃ (g : Addr) (u : Option V), σ = [some (.ref m), some (.ref a), some (natV n), some (.ref g), u] ∧ Same H H' ∧ FrsAt H' g (passes B i x)) ⟨l, none, rfl, sl, xs, upd_same, hal.mono fun _ _ r => r.same sl⟩ ?_ ?_
    · rintro i σ H1 hi ⟨g, u, rfl, s1, f1⟩
      refine ⟨_, rfl, _, rfl, m, g, B, passes B i x, b + 12 * i, rfl, ⟨M.mat.same s1, f1, M.sh, by rw [passes_len]; exact M.len, by rw [passes_len]; exact M.five, passes_bd M.sh M.bd M.five i⟩, by omega, fun H2 p s2 f2 => ⟨p, _, rfl, s1.trans s2, f2⟩⟩
    · rintro σ H1 ⟨g, u, rfl, s1, f1⟩
      exact ⟨_, rfl, k _ _ s1 f1⟩
end
end Mill
namespace Mill
open PySem PySem.Spec PyProof.Rows L2

/-! ### closed.py: the promises -/
def spUnder : Sp := fun vs H Q _ => ∃ a qs, ∃ cut : Nat, vs = [.ref a, natV cut] ∧ FrsAt H a qs ∧ cut ≤ qs.length ∧ qs.length ≤ 5 ∧ ∀ H' p, Same H H' → FrsAt H' p (under cut qs) → Q (.ref p) H'
def spOver : Sp := fun vs H Q _ => ∃ a qs, ∃ cut : Nat, vs = [.ref a, natV cut] ∧ FrsAt H a qs ∧ cut ≤ qs.length ∧ qs.length ≤ 5 ∧ ∀ H' p, Same H H' → FrsAt H' p (over cut qs) → Q (.ref p) H'
def spIsSteady : Sp := fun vs H Q _ => ∃ m B, ∃ cut : Nat, vs = [.ref m, natV cut] ∧ MatAt H m B ∧ Shape B ∧ B.length ≤ 5 ∧ cut ≤ B.length ∧ ∀ H', Same H H' → Q (.bl (isSteady B cut)) H'
/-- a matrix and a feed -/
structure MF (H : Hp) (m f : Addr) (B : List (List Nat)) (feed : List Nat) : Prop where
  mat : MatAt H m B
  ft : IntsAt H f feed
  sh : Shape B
  len : feed.length = B.length
  five : feed.length ≤ 5
  hund : ∀ n ∈ feed, n ≤ 100
theorem MF.same {H H' : Hp} (s : Same H H') {m f : Addr} {B : List (List Nat)} {feed : List Nat} (h : MF H m f B feed) : MF H' m f B feed := ⟨h.mat.same s, h.ft.same s, h.sh, h.len, h.five, h.hund⟩
def spSteady : Sp := fun vs H Q _ => ∃ m f B feed, ∃ cut : Nat, vs = [.ref m, .ref f, natV cut] ∧ MF H m f B feed ∧ 1 ≤ cut ∧ cut ≤ B.length ∧ isSteady B cut = true ∧ ∀ H' p, Same H H' → FrsAt H' p (steady B feed cut) → Q (.ref p) H'
def spRounds : Sp := fun vs H Q _ => ∃ m f B feed, ∃ cut n : Nat, vs = [.ref m, .ref f, natV cut, natV n] ∧ MF H m f B feed ∧ cut ≤ B.length ∧ n ≤ 12 ∧ ∀ H' p, Same H H' → FrsAt H' p [(rounds B feed cut n).1.sum, (rounds B feed cut n).2] → Q (.ref p) H'

abbrev sUnder : Stmt := top 16
abbrev sOver : Stmt := top 17
abbrev sIsSteady : Stmt := top 18
abbrev sSteady : Stmt := top 19
abbrev sRounds : Stmt := top 20

theorem cut_to {xs : List V} {cut : Nat} (h : cut ≤ xs.length) : cutV xs none (some (cut : Int)) = xs.take cut := by
  unfold cutV
  rw [HT.sIx_none, HT.sIx_nat, Nat.min_eq_left h, Nat.sub_zero, List.drop_zero]
theorem cut_from {xs : List V} {cut : Nat} (h : cut ≤ xs.length) : cutV xs (some (cut : Int)) none = xs.drop cut := by
  unfold cutV
  rw [HT.sIx_none, HT.sIx_nat, Nat.min_eq_left h, List.take_of_length_le]
  rw [List.length_drop]
  exact Nat.le_refl _
theorem cut_at {xs : List V} {i j : Nat} (h : i ≤ j) (h2 : j ≤ xs.length) : cutV xs (some (i : Int)) (some (j : Int)) = (xs.drop i).take (j - i) := by
  unfold cutV
  rw [HT.sIx_nat, HT.sIx_nat, Nat.min_eq_left h2, Nat.min_eq_left (Nat.le_trans h h2)]
theorem line5 {n : Nat} (h : n ≤ 1000) : n ≤ sizeLine := Nat.le_trans h (by rw [sizeLine_eq]; decide)
theorem int62 {n : Nat} (h : n ≤ 1000) : (-(2 ^ 62) : Int) ≤ (n : Int) ∧ (n : Int) < 2 ^ 62 := by omega
theorem int63 {n : Nat} (h : n ≤ 1000) : (-(2 ^ 63) : Int) ≤ (n : Int) ∧ (n : Int) < 2 ^ 63 := by omega

section
variable {P : Program} {w : World} {K : PySem.W.Frag} {mg : Str → Option Value} {base : Heap}

theorem scUnder : FnScope ["amounts", "cut"] ["amounts", "cut"] (defScope sUnder) := ⟨rfl, rfl, rfl, by decide +kernel, rfl, by decide +kernel, by decide +kernel⟩
theorem ok_under {f : Addr} {fd : FuncData} (F : Fun K "undersize_of" "undersize_of" sUnder f fd) (b : Binds K fd ["amounts", "cut"] []) (hm : mg "undersize_of" = some (.ref f)) (nL : mg "len" = none) (G : Def0 P w K mg base "whole" 1 ["number"] spWhole) :
    Def0 P w K mg base "undersize_of" 2 ["amounts", "cut"] spUnder := by
  refine def_ok F scUnder (fun vs H Q E h => ?_) b hm (fun cdv A outer s H vs Q E hr h => ⟨_, pss_one (ps_ret (pe_op op_cat (pe_slice (r := rSlL K) sl_list (pv 0) po_none (po_some (pv 1)))
    (pe_op op_rep (pe_lst (pa_cons (pe_def G hr rfl (pa_cons pe_int pa_nil)) pa_nil)) (pe_op op_sub (pe_callB call_len_seq (by rfl) nL boot_len (pa_cons (pv 0) pa_nil)) (pv 1))))), ?_⟩)
  · obtain ⟨a, qs, cut, rfl, _⟩ := h
    rfl
  · obtain ⟨a, qs, cut, rfl, ⟨xs, hx, hal⟩, hc, h5, k⟩ := h
    have hxl := hal.length
    refine ⟨_, rfl, _, rfl, (cut : Int), rfl, a, xs, rfl, SqL.of hx, fun p hp => ⟨0, rfl, fun H2 v s2 f2 => ⟨(by show 1 ≤ sizeLine; decide), fun p2 hp2 => ?_⟩⟩⟩
    have sa := same_new (o := .lst (cutV xs none (some (cut : Int)))) hp
    have sb := same_new (o := .lst [v]) hp2
    have s12 := (sa.trans s2).trans sb
    have ek : (((xs.length : Nat) : Int) - (cut : Int)) = ((xs.length - cut : Nat) : Int) := by omega
    have hb := int63 (n := xs.length - cut) (by omega)
    refine ⟨_, rfl, a, xs, rfl, .inl (SqL.of (s12 _ _ hx)), _, rfl, _, _, rfl, rfl, p2, _, [v], rfl, rfl, upd_same, (by rw [ek]; exact hb.1), (by rw [ek]; exact hb.2), ?_, fun p3 hp3 => ?_⟩
    · rw [ek]
      exact line5 (by show 1 * (xs.length - cut) ≤ 1000; omega)
    · rw [ek]
      have sc := same_new (o := .lst (List.replicate ((xs.length - cut : Nat) : Int).toNat [v]).flatten) hp3
      have e1 : (List.replicate ((xs.length - cut : Nat) : Int).toNat [v]).flatten = List.replicate (qs.length - cut) v := by
        rw [rep_flat, Int.toNat_natCast, hxl]
      refine ⟨p, p3, xs.take cut, List.replicate (qs.length - cut) v, rfl, rfl, ?_, by rw [← e1]; exact upd_same, ?_, fun p4 hp4 => ?_⟩
      · rw [← cut_to (xs := xs) (cut := cut) (by omega)]
        exact (s2.trans (sb.trans sc)) _ _ upd_same
      · exact line5 (by rw [List.length_take, List.length_replicate]; omega)
      · have sd := same_new (o := .lst (xs.take cut ++ List.replicate (qs.length - cut) v)) hp4
        refine k _ p4 (s12.trans (sc.trans sd)) ⟨_, upd_same, ?_⟩
        exact ((hal.mono fun _ _ r => r.same (s12.trans (sc.trans sd))).take cut).append (Al.rep (f2.same (sb.trans (sc.trans sd))) _)

theorem scOver : FnScope ["amounts", "cut"] ["amounts", "cut"] (defScope sOver) := ⟨rfl, rfl, rfl, by decide +kernel, rfl, by decide +kernel, by decide +kernel⟩
theorem ok_over {f : Addr} {fd : FuncData} (F : Fun K "oversize_of" "oversize_of" sOver f fd) (b : Binds K fd ["amounts", "cut"] []) (hm : mg "oversize_of" = some (.ref f)) (G : Def0 P w K mg base "whole" 1 ["number"] spWhole) :
    Def0 P w K mg base "oversize_of" 2 ["amounts", "cut"] spOver := by
  refine def_ok F scOver (fun vs H Q E h => ?_) b hm (fun cdv A outer s H vs Q E hr h => ⟨_, pss_one (ps_ret (pe_op op_cat (pe_op op_rep (pe_lst (pa_cons (pe_def G hr rfl (pa_cons pe_int pa_nil)) pa_nil)) (pv 1))
    (pe_slice (r := rSlL K) sl_list (pv 0) (po_some (pv 1)) po_none))), ?_⟩)
  · obtain ⟨a, qs, cut, rfl, _⟩ := h
    rfl
  · obtain ⟨a, qs, cut, rfl, ⟨xs, hx, hal⟩, hc, h5, k⟩ := h
    have hxl := hal.length
    refine ⟨0, rfl, fun H2 v s2 f2 => ⟨(by show 1 ≤ sizeLine; decide), fun p2 hp2 => ?_⟩⟩
    have sb := same_new (o := .lst [v]) hp2
    have hb := int63 (n := cut) (by omega)
    refine ⟨_, rfl, p2, _, [v], rfl, rfl, upd_same, hb.1, hb.2, line5 (by show 1 * cut ≤ 1000; omega), fun p3 hp3 => ?_⟩
    have e1 : (List.replicate ((cut : Nat) : Int).toNat [v]).flatten = List.replicate cut v := by rw [rep_flat, Int.toNat_natCast]
    rw [e1]
    have sc := same_new (o := .lst (List.replicate cut v)) hp3
    have s13 := (s2.trans sb).trans sc
    refine ⟨_, rfl, _, rfl, (cut : Int), rfl, a, xs, rfl, SqL.of (s13 _ _ hx), fun p4 hp4 => ?_⟩
    rw [cut_from (xs := xs) (cut := cut) (by omega)]
    have sd := same_new (o := .lst (xs.drop cut)) hp4
    refine ⟨p3, p4, List.replicate cut v, xs.drop cut, rfl, rfl, sd _ _ upd_same, upd_same, ?_, fun p5 hp5 => ?_⟩
    · exact line5 (by rw [List.length_replicate, List.length_drop]; omega)
    · have se := same_new (o := .lst (List.replicate cut v ++ xs.drop cut)) hp5
      refine k _ p5 (s13.trans (sd.trans se)) ⟨_, upd_same, ?_⟩
      exact (Al.rep (f2.same (sb.trans (sc.trans (sd.trans se)))) _).append ((hal.mono fun _ _ r => r.same (s13.trans (sd.trans se))).drop cut)

theorem scIsSteady : FnScope ["breakage", "cut", "size_class"] ["breakage", "cut"] (defScope sIsSteady) := ⟨rfl, rfl, rfl, by decide +kernel, rfl, by decide +kernel, by decide +kernel⟩
theorem ok_isSteady {f : Addr} {fd : FuncData} (F : Fun K "is_steady" "is_steady" sIsSteady f fd) (b : Binds K fd ["breakage", "cut"] []) (hm : mg "is_steady" = some (.ref f)) (nR : mg "range" = none) (nL : mg "len" = none) (nA : mg "all" = none) :
    Def0 P w K mg base "is_steady" 1 ["breakage", "cut"] spIsSteady := by
  refine def_ok F scIsSteady (fun vs H Q E h => ?_) b hm (fun cdv A outer s H vs Q E hr h => ⟨_, pss_one (ps_ret (pe_callB (cr_all rfl) (by rfl) nA boot_all (pa_cons (pe_lc (own := [("size_class", 2)]) (g := gName 2) (tt := tYes) rfl scIsSteady.nd
      (pi_range2 rfl nR (pa_cons (pv 1) (pa_cons (pe_callB call_len_seq (by rfl) nL boot_len (pa_cons (pv 0) pa_nil)) pa_nil)))
      (blkOk_by (N := ["breakage", "cut", "size_class"]) (sc := defScope sIsSteady) (by decide +kernel)) (fun _ _ _ _ _ => pg_name (i := 2) scIsSteady.nd rfl (Or.inl rfl)) (fun _ _ _ _ _ => pts_nil)
      (fun _ _ _ _ _ => pe_cmpR op_lt (pe_ix (r := rIxL K) ix_list (pe_ix (r := rIxL K) ix_list (pv 0) (pv 2) (fun _ _ => rfl)) (pv 2) (fun _ _ => rfl)) pe_int (nomark _))) pa_nil))), ?_⟩)
  · obtain ⟨m, B, cut, rfl, _⟩ := h
    rfl
  · obtain ⟨m, B, cut, rfl, ⟨rs, hm2, hbl⟩, hsh, h5, hc, k⟩ := h
    have hrl := hbl.length
    have b1 := int62 (n := cut) (by omega)
    have b2 := int62 (n := rs.length) (by omega)
    refine ⟨_, rfl, _, rfl, m, rs, rfl, .inl (SqL.of hm2), _, _, rfl, ⟨b1.1, b1.2, b2.1, b2.2⟩, fun D hD => ?_⟩
    have en : (((rs.length : Nat) : Int) - (cut : Int)).toNat = B.length - cut := by omega
    rw [en]
    refine lc_new (walk_range (lo := (cut : Int)) (n := B.length - cut)) (fun t v H' => v = .bl (decide (bAt B (cut + t) (cut + t) < 100))) hD (by rw [sizeLine_eq]; omega) (fun i v H1 H2 ys so hy r => r) (fun _ _ => trivial) (fun i H x H' y => by rw [y.1]; exact Same.refl _) ?_ ?_
    · rintro t y H1 H2 ht s1 ⟨ys, hys⟩ ⟨rfl, ey⟩ Q2 hQ
      have ey : y = natV (cut + t) := ey
      subst ey
      obtain ⟨row, hrow⟩ : ∃ row, B[cut + t]? = some row := ⟨B[cut + t]'(by omega), by rw [List.getElem?_eq_getElem]⟩
      obtain ⟨v2, hv2, ra, rfl, hra⟩ := hbl.get hrow
      have hrl := (hsh _ _ hrow).1
      obtain ⟨c, hc2⟩ : ∃ c, row[cut + t]? = some c := ⟨row[cut + t]'(by omega), by rw [List.getElem?_eq_getElem]⟩
      have hbc : bAt B (cut + t) (cut + t) = c := bAt_get hrow hc2
      refine ⟨rfl, _, rfl, _, rfl, m, rs, _, .ref ra, rfl, rfl, SqL.of (s1 _ _ hm2), at_of rfl hv2, _, rfl, ra, row.map natV, _, natV c, rfl, rfl, SqL.of (s1 _ _ hra), at_of rfl (by rw [List.getElem?_map, hc2]; rfl), _, _, rfl, rfl, hQ _ _ (Same.refl _) ?_⟩
      rw [hbc]
      exact congrArg V.bl (decide_eq_decide.mpr (by show ((c : Nat) : Int) < 100 ↔ _; omega))
    · intro H3 ys s3 h3 hl hR
      have ey : ys = ((List.range' cut (B.length - cut)).map fun j => decide (bAt B j j < 100)).map V.bl := by
        refine List.ext_getElem? fun i => ?_
        rw [List.getElem?_map, List.getElem?_map, range'_get]
        by_cases c : i < B.length - cut
        · rw [if_pos c]
          obtain ⟨v, hv⟩ : ∃ v, ys[i]? = some v := ⟨ys[i]'(by omega), by rw [List.getElem?_eq_getElem]⟩
          rw [hv, hR i v hv]
          rfl
        · rw [if_neg c, List.getElem?_eq_none (by omega)]
          rfl
      rw [ey] at h3
      refine ⟨D, _, rfl, SqL.of h3, ?_⟩
      have e2 : ((List.range' cut (B.length - cut)).map fun j => decide (bAt B j j < 100)).all id = isSteady B cut := by
        unfold isSteady
        rw [List.all_map]
        rfl
      rw [e2]
      exact k _ s3

theorem scSteady : FnScope ["breakage", "feed", "cut", "amounts", "size_class", "anew", "fed"] ["breakage", "feed", "cut"] (defScope sSteady) := ⟨rfl, rfl, rfl, by decide +kernel, rfl, by decide +kernel, by decide +kernel⟩
theorem nats_frs {H : Hp} {D : Addr} {ys : List V} {feed : List Nat} (h : H D = some (.lst ys)) (hl : ys.length = feed.length) (hR : ∀ (i : Nat) v, ys[i]? = some v → ∀ n, feed[i]? = some n → FrAt H v ((n : Nat) : Rat)) : FrsAt H D (natsR feed) := by
  refine frs_of h (by rw [hl]; unfold natsR; rw [List.length_map]) fun i v e q e2 => ?_
  unfold natsR at e2
  rw [List.getElem?_map] at e2
  cases e3 : feed[i]? with
  | none => rw [e3] at e2; cases e2
  | some n =>
    rw [e3] at e2
    rw [← Option.some.inj e2]
    exact hR i v e n e3
theorem natsR_len (feed : List Nat) : (natsR feed).length = feed.length := List.length_map _
theorem ixN_nat {n j : Nat} (h : j < n) : ixN n (j : Int) = some j := by
  unfold ixN
  rw [if_pos (by omega), if_pos (by omega), Int.toNat_natCast]
theorem getD_of {l : List Rat} {i : Nat} {q : Rat} (h : l[i]? = some q) : l.getD i 0 = q := by
  rw [List.getD_eq_getElem?_getD, h]
  rfl
theorem ok_steady {f : Addr} {fd : FuncData} (F : Fun K "steady_amounts" "steady_amounts" sSteady f fd) (b : Binds K fd ["breakage", "feed", "cut"] []) (hm : mg "steady_amounts" = some (.ref f)) (nR : mg "range" = none) (nL : mg "len" = none)
    (GW : Def0 P w K mg base "whole" 1 ["number"] spWhole) (GP : Def0 P w K mg base "plus" 3 ["left", "right"] spPlus) (GS : Def0 P w K mg base "scaled" 3 ["fraction", "num", "den"] spScaled)
    (GA : Def0 P w K mg base "arriving" 5 ["breakage", "amounts", "fine", "first"] spArriving) : Def0 P w K mg base "steady_amounts" 6 ["breakage", "feed", "cut"] spSteady := by
  refine def_ok F scSteady (fun vs H Q E h => ?_) b hm (fun cdv A outer s H vs Q E hr h => ⟨_, pss_cons (ps_setLc (i := 3) (own := [("fed", 6)]) (g := gName 6) (tt := tYes) rfl scSteady.nd rfl rfl (sw_true rfl rfl rfl (by decide +kernel)) (pi_list (pv 1))
      (blkOk_by (N := ["breakage", "feed", "cut", "amounts", "size_class", "anew", "fed"]) (sc := defScope sSteady) (by decide +kernel)) (fun _ _ _ _ _ => pg_name (i := 6) scSteady.nd rfl (Or.inl rfl)) (fun _ _ _ _ _ => pts_nil)
      (fun _ _ _ _ _ => pe_def GW (hr.mono (by decide)) rfl (pa_cons (pv 6) pa_nil)))
    (pss_cons (ps_for PassesOwn.never rfl (pi_range3 rfl nR (pa_cons (pe_op op_sub (pe_callB call_len_seq (by rfl) nL boot_len (pa_cons (pv 1) pa_nil)) pe_int) (pa_cons (pe_op op_sub (pv 2) pe_int) (pa_cons (pe_un un_neg pe_int) pa_nil)))) (pg_name (i := 4) scSteady.nd rfl (Or.inl rfl))
      (pss_cons (ps_set (i := 5) scSteady.nd rfl (.inl rfl) (pe_def GP (hr.mono (by decide)) rfl (pa_cons (pe_ix (r := rIxL K) ix_list (pv 3) (pv 4) (fun _ _ => rfl)) (pa_cons (pe_def GA hr rfl (pa_cons (pv 0) (pa_cons (pv 3) (pa_cons (pv 4) (pa_cons (pe_op op_add (pv 4) pe_int) pa_nil))))) pa_nil))))
      (pss_one (ps_asg (pe_def GS (hr.mono (by decide)) rfl (pa_cons (pv 5) (pa_cons pe_int (pa_cons (pe_op op_sub pe_int (pe_ix (r := rIxL K) ix_list (pe_ix (r := rIxL K) ix_list (pv 0) (pv 4) (fun _ _ => rfl)) (pv 4) (fun _ _ => rfl))) pa_nil)))) (pg_sub (pv 3) (pv 4) set_list)))))
    (pss_one (ps_ret (pv 3)))), ?_⟩)
  · obtain ⟨m, f, B, feed, cut, rfl, _⟩ := h
    rfl
  · obtain ⟨m, f, B, feed, cut, rfl, M, h1, hc, hst, k⟩ := h
    have h5 := M.five
    have hl := M.len
    have h100 := M.hund
    have hall := isSteady_all hst
    obtain ⟨rs, hm2, hbl⟩ := M.mat
    refine ⟨_, rfl, f, rfl, ⟨_, SqL.of M.ft⟩, fun D hD => ?_⟩
    refine lc_new (walk_list (K := K) (a := f) (xs := feed.map natV)) (fun i v H' => ∀ n, feed[i]? = some n → FrAt H' v ((n : Nat) : Rat)) hD (by rw [List.length_map, sizeLine_eq]; omega) (fun i v H1 H2 ys so hy r n e => (r n e).off so hy) (fun H1 s1 => SqL.of (s1 _ _ M.ft)) (fun i H x H' y => by rw [y.1]; exact Same.refl _) ?_ ?_
    · rintro i y H1 H2 hi s1 ⟨ys, hys⟩ ⟨rfl, ey⟩ Q2 hQ
      rw [List.getElem?_map] at ey
      cases e3 : feed[i]? with
      | none => rw [e3] at ey; cases ey
      | some n =>
        rw [e3] at ey
        have ey : natV n = y := Option.some.inj ey
        subst ey
        exact ⟨rfl, _, rfl, n, rfl, fun H3 v3 s3 f3 => hQ v3 H3 s3 fun n' e => by have e4 := e3.symm.trans e; cases e4; exact f3⟩
    · intro H3 ys s3 h3 hly hR
      rw [List.length_map] at hly
      have f0 : FrsAt H3 D (natsR feed) := nats_frs h3 hly hR
      have b1 := int62 (n := feed.length - 1) (by omega)
      have b2 := int62 (n := cut - 1) (by omega)
      have e1 : (((feed.map natV).length : Nat) : Int) - 1 = ((feed.length - 1 : Nat) : Int) := by rw [List.length_map]; omega
      have e2 : ((cut : Nat) : Int) - 1 = ((cut - 1 : Nat) : Int) := by omega
      refine ⟨_, rfl, f, _, rfl, .inl (SqL.of (s3 _ _ M.ft)), _, _, rfl, rfl, _, rfl, _, _, rfl, rfl, _, rfl, _, _, _, (feed.length - cut), rfl, ?_, ?_⟩
      · rw [e1, e2]
        have := RgC.neg b1.1 b1.2 b2.1 b2.2
        rw [show (((feed.length - 1 : Nat) : Int) - ((cut - 1 : Nat) : Int)).toNat = feed.length - cut by omega] at this
        exact this
      · refine for_rangeC (n := feed.length - cut) (fun i σ H' => ∃ u1 u2 u3, σ = [some (.ref m), some (.ref f), some (natV cut), some (.ref D), u1, u2, u3] ∧ Same H H' ∧ FrsAt H' D (stIter B (natsR feed) feed.length i)) ⟨none, none, none, rfl, s3, f0⟩ ?_ ?_
        · rintro i σ H4 hi ⟨u1, u2, u3, rfl, s4, xs, hxs, hal⟩
          have hlen : (stIter B (natsR feed) feed.length i).length = feed.length := by rw [stIter_len, natsR_len]
          have hxl := hal.length
          have ei : (((feed.map natV).length : Nat) : Int) - 1 + ((i : Nat) : Int) * (-1) = ((feed.length - 1 - i : Nat) : Int) := by rw [List.length_map]; omega
          rw [ei]
          have hj : feed.length - 1 - i < feed.length := by omega
          generalize hjd : feed.length - 1 - i = j at hj ⊢
          have hcj : cut ≤ j := by omega
          obtain ⟨q, hq⟩ : ∃ q, (stIter B (natsR feed) feed.length i)[j]? = some q := ⟨(stIter B (natsR feed) feed.length i)[j]'(by omega), by rw [List.getElem?_eq_getElem]⟩
          obtain ⟨v1, hv1, f1⟩ := hal.get hq
          obtain ⟨row, hrow⟩ : ∃ row, B[j]? = some row := ⟨B[j]'(by omega), by rw [List.getElem?_eq_getElem]⟩
          obtain ⟨v2, hv2, ra, rfl, hra⟩ := hbl.get hrow
          have hrl := (M.sh _ _ hrow).1
          obtain ⟨c, hc2⟩ : ∃ c, row[j]? = some c := ⟨row[j]'(by omega), by rw [List.getElem?_eq_getElem]⟩
          have hbc : bAt B j j = c := bAt_get hrow hc2
          have hlt : bAt B j j < 100 := hall j hcj (by omega)
          have hbd : Bd (32 * i + 7) (stIter B (natsR feed) feed.length i) := stIter_bd M.sh h100 h5 (fun j a b => hall j a (by omega)) i (by omega)
          have hbd2 := stepS_bd M.sh hbd (by omega) hlt
          have hone : Bd (32 * i + 7 + 13) [q + arr B (stIter B (natsR feed) feed.length i) j (j + 1)] := by
            obtain ⟨D1, d0, d1, d2⟩ := hbd
            refine ⟨D1 * 100, by omega, Nat.lt_of_lt_of_le (mul_lt_pow d1 (by decide : 100 < 2 ^ 7)) (pow_le (by omega)), fun p hp => ?_⟩
            rw [List.mem_singleton.mp hp]
            exact ((((d2 q (List.mem_of_getElem? hq)).lift (by decide : 100 < 2 ^ 7)).mono (by omega : _ ≤ 32 * i + 7 + 12)).add ((arr_okD M.sh d2 j (j + 1)).mono (by omega : _ ≤ 32 * i + 7 + 12)))
          have harr : Sm 4000 (arr B (stIter B (natsR feed) feed.length i) j (j + 1)) := by
            obtain ⟨D1, d0, d1, d2⟩ := hbd
            exact ((arr_okD M.sh d2 j (j + 1)).sm (D := D1 * 100) (by omega) (Nat.lt_of_lt_of_le (mul_lt_pow d1 (by decide : 100 < 2 ^ 7)) (pow_le (by omega)))).mono (by omega)
          refine ⟨_, rfl, _, rfl, D, xs, _, v1, rfl, rfl, SqL.of hxs, at_of rfl hv1, _, rfl, _, rfl, _, rfl, _, rfl, _, _, rfl, rfl, m, D, B, _, 32 * i + 7, j, j + 1, rfl, ⟨M.mat.same s4, ⟨xs, hxs, hal⟩, M.sh, by omega, by omega, hbd⟩, by omega, by omega, by omega, fun H5 v5 s5 f5 => ?_⟩
          refine ⟨v1, v5, q, _, rfl, f1.same s5, f5, (hbd.sm (List.mem_of_getElem? hq)).mono (by omega), harr, fun H6 v6 s6 f6 => ?_⟩
          have s46 := s5.trans s6
          have hx6 := s46 _ _ hxs
          have e100 : ((100 : Int) - ((c : Nat) : Int)) = ((100 - bAt B j j : Nat) : Int) := by rw [hbc]; omega
          refine ⟨_, rfl, _, rfl, _, rfl, m, rs, _, .ref ra, rfl, rfl, SqL.of ((s4.trans s46) _ _ hm2), at_of rfl hv2, _, rfl, ra, row.map natV, _, natV c, rfl, rfl, SqL.of ((s4.trans s46) _ _ hra), at_of rfl (by rw [List.getElem?_map, hc2]; rfl), _, _, rfl, rfl, ?_⟩
          refine ⟨v6, _, 100, 100 - bAt B j j, congrArg (fun z => [v6, V.int 100, V.int z]) e100, f6, (hone.sm List.mem_cons_self).mono (by omega), Nat.lt_of_lt_of_le (by decide : 100 < 2 ^ 7) (pow_le (by decide)), by omega, Nat.lt_of_le_of_lt (Nat.sub_le _ _) (Nat.lt_of_lt_of_le (by decide : 100 < 2 ^ 7) (pow_le (by decide))), fun H7 v7 s7 f7 => ?_⟩
          have hx7 := s7 _ _ hx6
          refine ⟨_, rfl, _, rfl, D, xs, _, j, rfl, rfl, hx7, ixN_nat (by omega), ⟨_, _, _, rfl, same_upd hD (s4.trans (s46.trans s7)), ?_⟩⟩
          refine ⟨_, upd_same, ?_⟩
          have eS : stIter B (natsR feed) feed.length (i + 1) = (stIter B (natsR feed) feed.length i).set j ((q + arr B (stIter B (natsR feed) feed.length i) j (j + 1)) * ((100 : Nat) : Rat) / ((100 - bAt B j j : Nat) : Rat)) := by
            show stepS B (stIter B (natsR feed) feed.length i) (feed.length - 1 - i) = _
            rw [hjd]
            unfold stepS
            rw [getD_of hq]
          rw [eS]
          exact ((hal.mono fun _ _ r => (r.same (s46.trans s7)).off Off.upd hx7)).set (f7.off Off.upd hx7) j
        · rintro σ H4 ⟨u1, u2, u3, rfl, s4, f4⟩
          exact ⟨_, rfl, k _ _ s4 f4⟩

theorem scRounds : FnScope ["breakage", "feed", "cut", "rounds", "returned", "product", "done", "ground"] ["breakage", "feed", "cut", "rounds"] (defScope sRounds) := ⟨rfl, rfl, rfl, by decide +kernel, rfl, by decide +kernel, by decide +kernel⟩
theorem ok_rounds {f : Addr} {fd : FuncData} (F : Fun K "after_rounds" "after_rounds" sRounds f fd) (b : Binds K fd ["breakage", "feed", "cut", "rounds"] []) (hm : mg "after_rounds" = some (.ref f)) (nR : mg "range" = none) (nL : mg "len" = none)
    (GW : Def0 P w K mg base "whole" 1 ["number"] spWhole) (GP : Def0 P w K mg base "plus" 3 ["left", "right"] spPlus) (GT : Def0 P w K mg base "total" 4 ["fractions"] spTotal) (GF : Def0 P w K mg base "with_feed" 4 ["amounts", "feed"] spWithFeed)
    (GA : Def0 P w K mg base "after_pass" 6 ["breakage", "amounts"] spPass) (GU : Def0 P w K mg base "undersize_of" 2 ["amounts", "cut"] spUnder) (GO : Def0 P w K mg base "oversize_of" 2 ["amounts", "cut"] spOver) : Def0 P w K mg base "after_rounds" 7 ["breakage", "feed", "cut", "rounds"] spRounds := by
  refine def_ok F scRounds (fun vs H Q E h => ?_) b hm (fun cdv A outer s H vs Q E hr h => ⟨_, pss_cons (ps_set (i := 4) scRounds.nd rfl (.inl rfl) (pe_op op_rep (pe_lst (pa_cons (pe_def GW (hr.mono (by decide)) rfl (pa_cons pe_int pa_nil)) pa_nil)) (pe_callB call_len_seq (by rfl) nL boot_len (pa_cons (pv 1) pa_nil))))
    (pss_cons (ps_set (i := 5) scRounds.nd rfl (.inl rfl) (pe_def GW (hr.mono (by decide)) rfl (pa_cons pe_int pa_nil)))
    (pss_cons (ps_for PassesOwn.never rfl (pi_range1 rfl nR (pa_cons (pv 3) pa_nil)) (pg_name (i := 6) scRounds.nd rfl (Or.inl rfl))
      (pss_cons (ps_set (i := 7) scRounds.nd rfl (.inl rfl) (pe_def GA hr rfl (pa_cons (pv 0) (pa_cons (pe_def GF (hr.mono (by decide)) rfl (pa_cons (pv 4) (pa_cons (pv 1) pa_nil))) pa_nil))))
      (pss_cons (ps_set (i := 5) scRounds.nd rfl (.inl rfl) (pe_def GP (hr.mono (by decide)) rfl (pa_cons (pv 5) (pa_cons (pe_def GT (hr.mono (by decide)) rfl (pa_cons (pe_def GU (hr.mono (by decide)) rfl (pa_cons (pv 7) (pa_cons (pv 2) pa_nil))) pa_nil)) pa_nil))))
      (pss_one (ps_set (i := 4) scRounds.nd rfl (.inl rfl) (pe_def GO (hr.mono (by decide)) rfl (pa_cons (pv 7) (pa_cons (pv 2) pa_nil))))))))
    (pss_one (ps_ret (pe_lst (pa_cons (pe_def GT (hr.mono (by decide)) rfl (pa_cons (pv 4) pa_nil)) (pa_cons (pv 5) pa_nil))))))), ?_⟩)
  · obtain ⟨m, f, B, feed, cut, n, rfl, _⟩ := h
    rfl
  · obtain ⟨m, f, B, feed, cut, n, rfl, M, hc, hn, k⟩ := h
    have h5 := M.five
    have hl := M.len
    have h100 := M.hund
    refine ⟨0, rfl, fun H1 v1 s1 f1 => ⟨(by show 1 ≤ sizeLine; decide), fun p1 hp1 => ?_⟩⟩
    have sa := same_new (o := .lst [v1]) hp1
    have b3 := int63 (n := feed.length) (by omega)
    refine ⟨_, rfl, f, _, rfl, .inl (SqL.of ((s1.trans sa) _ _ M.ft)), p1, _, [v1], rfl, rfl, upd_same, (by rw [List.length_map]; exact b3.1), (by rw [List.length_map]; exact b3.2), line5 (by rw [List.length_map]; show 1 * feed.length ≤ 1000; omega), fun p2 hp2 => ?_⟩
    have e1 : (List.replicate (((feed.map natV).length : Nat) : Int).toNat [v1]).flatten = List.replicate feed.length v1 := by rw [rep_flat, Int.toNat_natCast, List.length_map]
    rw [e1]
    have sb := same_new (o := .lst (List.replicate feed.length v1)) hp2
    have s2 := (s1.trans sa).trans sb
    have fr : FrsAt (upd (upd H1 p1 (.lst [v1])) p2 (.lst (List.replicate feed.length v1))) p2 (rounds B feed cut 0).1 := ⟨_, upd_same, Al.rep (f1.same (sa.trans sb)) _⟩
    refine ⟨0, rfl, fun H3 v3 s3 f3 => ?_⟩
    refine ⟨_, rfl, _, rfl, (int62 (n := n) (by omega)).1, (int62 (n := n) (by omega)).2, ?_⟩
    refine for_range (lo := 0) (n := n) (fun i σ H' => ∃ (r : Addr) (v : V) (u1 u2 : Option V), σ = [some (.ref m), some (.ref f), some (natV cut), some (natV n), some (.ref r), some v, u1, u2] ∧ Same H H' ∧ FrsAt H' r (rounds B feed cut i).1 ∧ FrAt H' v (rounds B feed cut i).2) ⟨p2, v3, none, none, rfl, s2.trans s3, fr.same s3, f3⟩ ?_ ?_
    · rintro i σ H4 hi ⟨r, v, u1, u2, rfl, s4, fr4, fv4⟩
      obtain ⟨D, d0, d1, d2, d3⟩ := rounds_okD (B := B) M.sh h100 h5 (by omega : cut ≤ feed.length) i
      have hrl := rounds_len (B := B) (feed := feed) (cut := cut) (by omega) i
      have hb : Bd (32 * i + 32) (rounds B feed cut i).1 := ⟨D, d0, d1, d2⟩
      have hfl : (fed (rounds B feed cut i).1 feed).length = feed.length := by rw [fed_len hrl.symm, hrl]
      have hb2 := fed_bd hb h100
      have hgl : (pass B (fed (rounds B feed cut i).1 feed)).length = feed.length := by rw [pass_len, hfl]
      have hb3 := pass_bd M.sh hb2 (by omega)
      refine ⟨_, rfl, _, rfl, _, rfl, r, f, _, feed, 32 * i + 32, rfl, fr4, M.ft.same s4, hrl.symm, by omega, h100, hb, by omega, fun H5 p5 s5 f5 => ?_⟩
      refine ⟨m, p5, B, _, 32 * i + 32 + 8, rfl, ⟨M.mat.same (s4.trans s5), f5, M.sh, by omega, by omega, hb2⟩, by omega, fun H6 p6 s6 f6 => ?_⟩
      refine ⟨_, rfl, _, rfl, _, rfl, p6, _, cut, rfl, f6, by omega, by omega, fun H7 p7 s7 f7 => ?_⟩
      have hul : (under cut (pass B (fed (rounds B feed cut i).1 feed))).length = feed.length := by rw [under_len (by omega), hgl]
      refine ⟨p7, _, 32 * i + 32 + 8 + 12, rfl, f7, hb3.under, by omega, fun H8 v8 s8 f8 => ?_⟩
      refine ⟨v, v8, _, _, rfl, fv4.same (s5.trans (s6.trans (s7.trans s8))), f8, (d3.sm d0 d1).mono (by omega), (hb3.under.sum.sm List.mem_cons_self).mono (by omega), fun H9 v9 s9 f9 => ?_⟩
      refine ⟨_, rfl, _, rfl, p6, _, cut, rfl, f6.same (s7.trans (s8.trans s9)), by omega, by omega, fun H10 p10 s10 f10 => ?_⟩
      exact ⟨p10, v9, _, _, rfl, s4.trans (s5.trans (s6.trans (s7.trans (s8.trans (s9.trans s10))))), f10, f9.same s10⟩
    · rintro σ H4 ⟨r, v, u1, u2, rfl, s4, fr4, fv4⟩
      obtain ⟨D, d0, d1, d2, d3⟩ := rounds_okD (B := B) M.sh h100 h5 (by omega : cut ≤ feed.length) n
      have hrl := rounds_len (B := B) (feed := feed) (cut := cut) (by omega) n
      refine ⟨_, rfl, r, _, 32 * n + 32, rfl, fr4, ⟨D, d0, d1, d2⟩, by omega, fun H5 v5 s5 f5 => ?_⟩
      refine ⟨_, rfl, (by show 2 ≤ sizeLine; decide), fun p hp => k _ p (s4.trans (s5.trans (same_new hp))) ⟨_, upd_same, .cons (f5.same (same_new hp)) (.cons (fv4.same (s5.trans (same_new hp))) .nil)⟩⟩
end
end Mill
namespace Mill
open PySem PySem.Spec PyProof.Rows L2

/-! ### two rules more: a list is made longer by a tuple; an error made without arguments -/
theorem ext_tup (l : Addr) (ys : Array Value) (n : Nat) (b : Addr) (zs : Array Value) (m : Nat) (dd : Option Addr) (sl : Array (Option Value))
    (h0 : ¬(!ys.isEmpty && Builtin.List.listTooLong (ys.size + zs.size)) = true) (h1 : ys.size ≤ sizeLine) (h2 : ys.size + zs.size ≤ sizeLine + 1) :
    Meets (Builtin.«list.extend» ⟨[.ref l, .ref b], []⟩) (fun _ R s => s.heap.get? l = some { cls := .type "list", dict := none, data := .seq ys n, slots := #[] } ∧
      s.heap.get? b = some { cls := .type "tuple", dict := dd, data := .seq zs m, slots := sl } ∧ R (.ok (.ret Value.none)) { s with heap := s.heap.update l (Obj.mapSeq fun x => x ++ zs), toks := s.toks }) :=
  .of_wp fun prog w A R s h => by
    obtain ⟨hp, g, d, tk, os⟩ := s
    obtain ⟨hl, hb, h⟩ := h
    have f1 := PySem.AutoSeq1.idx_int
    have f2 := PySem.AutoSeq1.sub_tuple_tuple
    have f3 := PySem.AutoSeq1.sub_list_list
    have f4 := PySem.AutoSeq1.sub_tuple_list
    have f5 := PySem.AutoSeq1.sub_list_tuple
    have hz : (ys ++ zs).size ≤ sizeLine + 1 := by
      rw [Array.size_append]
      exact h2
    wp_walk using (wpAny_updateSeq hl rfl (hz := h1) (_hz' := hz)), wpAny_loadPart' hl, wpAny_loadPart' hb
    exact ⟨_, rfl, h⟩
def rExtT (K : PySem.W.Frag) : V → List V → Hp → VK → Prop := fun x vs H Q => ∃ l b xs zs, x = .ref l ∧ vs = [.ref b] ∧ H l = some (.lst xs) ∧ SqT K H b zs ∧ xs.length + zs.length ≤ sizeLine ∧ Q .non (upd H l (.lst (xs ++ zs)))
theorem mt_extT {X : Cx} : MtM X "list.extend" (rExtT X.K) := by
  rintro pins s σ H x vs v us Q I rx rv ⟨l, b, xs, zs, rfl, rfl, hl, hb, hz, q⟩
  cases rx
  obtain ⟨u, rfl, ru⟩ := rv.one
  cases ru
  obtain ⟨_, its, n, r1, n1, e1⟩ := I.lstM hl
  obtain ⟨its2, r2, ⟨⟨cls, dd, data, sl⟩, ho, hc, m, hd⟩, _⟩ := I.tuple hb
  simp only at hc hd
  subst hc hd
  have n2 := r2.length
  have big : its.toArray.size + its2.toArray.size ≤ sizeLine := by rw [List.size_toArray, List.size_toArray]; omega
  have long : ¬ (!its.toArray.isEmpty && Builtin.List.listTooLong (its.toArray.size + its2.toArray.size)) = true := by
    rw [notLongL big, Bool.and_false]
    exact Bool.false_ne_true
  refine call_meets F.slot_list_extend ⟨_, e1, rfl⟩ F.entry_list_extend (F.args_list_extend_2 _ _) (ext_tup l its.toArray n b its2.toArray m dd sl long (by rw [List.size_toArray]; omega) (by omega)) ⟨e1, ho, ?_⟩
  exact ⟨.non, _, I.lset (its' := its ++ its2) hl e1 (by simp) (r1.append r2) (by rw [List.length_append]; omega), rfl, q⟩
section
variable {X : Cx} {C : Addr} {bmB : List Value} {B newId initId : String}
/-- X(): an error of an own class, made without arguments -/
theorem pmk_bare {x : Str} {p pos : Pos} (F : ExcBaseFacts B newId initId bmB) (q : PySem.W.excIn X.K C bmB newId = true) (gC : X.mg x = some (.ref C)) (kC : PySem.W.keepIn X.K (.ref C) = true) (r : Raises X (.ref C)) (hg : Gl X x)
    (hdb : (x == ("__debug__" : Str)) = false := by decide) : PMk X (.Call (.Name x p) [] [] pos) (fun _ H Q => Q (.ref C) none H) := by
  intro pins s σ H Q I h
  refine wpAny_Call_Name_kw (ld_glob I hg gC ?_ hdb)
  refine PySem.W.callWith_K0 (first := []) I.kIn kC ?_
  obtain ⟨bm, N, nm, qn, bs, hdct, sn, sub, ab, col, dd, k0, k1, k2, k3, k5, mN, hC, hN, hni, T⟩ := exc_obj I.kIn q
  exact wpAny_call_exc_subT F T hC hN hni (fun h' e hm => mk_of I hm r h (I.hok.gone hm.new)) (Nat.zero_le _)
end

/-! ### circuit.py: is_row, flat, written -/
def spIsRow : Sp := fun vs H Q _ => ∃ a ns, ∃ c : Nat, vs = [.ref a, natV c] ∧ IntsAt H a ns ∧ 0 < c ∧ Q (.bl (decide (ns.length = c) && ns.all fun x => decide (x ≤ 100))) H
def flatL (qs : List Rat) : List Int := qs.flatMap Kp408.fraction
def spFlat : Sp := fun vs H Q _ => ∃ a qs, vs = [.ref a] ∧ FrsAt H a qs ∧ qs.length ≤ 1000 ∧ ∀ H' p, Same H H' → H' p = some (.lst ((flatL qs).map V.int)) → Q (.ref p) H'
def spWritten : Sp := fun vs H Q _ => ∃ a qs, vs = [.ref a] ∧ FrsAt H a qs ∧ qs.length ≤ 1000 ∧ ∀ H' p, Same H H' → H p = none → H' p = some (.lst ((((qs.length : Nat) : Int) :: flatL qs).map V.int)) → Q (.ref p) H'
abbrev sIsRow : Stmt := top 29
abbrev sFlat : Stmt := top 30
abbrev sWritten : Stmt := top 31
theorem ite_b {b : Bool} {A B : Prop} (h1 : b = true → A) (h2 : b = false → B) : if b = true then A else B := by
  cases b with
  | true => exact iteT (h1 rfl)
  | false => exact iteF (h2 rfl)
theorem flatL_len (qs : List Rat) : (flatL qs).length = 2 * qs.length := by
  induction qs with
  | nil => rfl
  | cons q qs ih =>
    show (Kp408.fraction q ++ flatL qs).length = _
    rw [List.length_append, ih, List.length_cons]
    show 2 + 2 * qs.length = _
    omega
theorem flatL_snoc {qs : List Rat} {i : Nat} {q : Rat} (h : qs[i]? = some q) : flatL (qs.take (i + 1)) = flatL (qs.take i) ++ [q.num, ((q.den : Nat) : Int)] := by
  obtain ⟨hi, e⟩ := List.getElem?_eq_some_iff.mp h
  unfold flatL
  rw [List.take_succ_eq_append_getElem hi, List.flatMap_append, e]
  exact congrArg _ (List.append_nil _)
section
variable {P : Program} {w : World} {K : PySem.W.Frag} {mg : Str → Option Value} {base : Heap}

theorem scIsRow : FnScope ["numbers", "count"] ["numbers", "count"] (defScope sIsRow) := ⟨rfl, rfl, rfl, by decide +kernel, rfl, by decide +kernel, by decide +kernel⟩
theorem ok_isRow {f : Addr} {fd : FuncData} (F : Fun K "is_row" "is_row" sIsRow f fd) (b : Binds K fd ["numbers", "count"] []) (hm : mg "is_row" = some (.ref f)) (nL : mg "len" = none) (nM : mg "max" = none) : Def0 P w K mg base "is_row" 1 ["numbers", "count"] spIsRow := by
  refine def_ok F scIsRow (fun vs H Q E h => ?_) b hm (fun cdv A outer s H vs Q E hr h => ⟨_, pss_one (ps_ret (pe_and (pe_cmpR op_eq (pe_callB call_len_seq (by rfl) nL boot_len (pa_cons (pv 0) pa_nil)) (pv 1) (nomark _))
    (pe_one (pe_cmpR op_le (pe_callB (cr_max rfl) (by rfl) nM boot_max (pa_cons (pv 0) pa_nil)) pe_int (nomark _))))), ?_⟩)
  · obtain ⟨a, ns, c, rfl, _⟩ := h
    rfl
  · obtain ⟨a, ns, c, rfl, ha, hc, k⟩ := h
    have ha2 : SqL K H a ((ns.map fun (x : Nat) => (x : Int)).map V.int) := by
      have := SqL.of (K := K) ha
      rw [natV_map] at this
      exact this
    refine ⟨_, rfl, a, _, rfl, .inl (SqL.of ha), _, rfl, rfl, _, rfl, ?_⟩
    have e1 : decide (V.int (((ns.map natV).length : Nat) : Int) = natV c) = decide (ns.length = c) := by
      rw [List.length_map]
      exact decide_eq_decide.mpr ⟨fun z => by have := V.int.inj z; omega, fun z => by rw [z]; rfl⟩
    rw [e1]
    refine ite_b (fun z => ?_) (fun z => ?_)
    · have hl : ns.length = c := of_decide_eq_true z
      rw [z, Bool.true_and] at k
      refine ⟨_, rfl, a, _, rfl, ha2, by rw [List.length_map]; omega, fun m hm hmax => ⟨_, _, rfl, rfl, ?_⟩⟩
      have e2 : decide (m ≤ 100) = ns.all fun x => decide (x ≤ 100) := by
        rw [Bool.eq_iff_iff, List.all_eq_true]
        constructor
        · intro h x hx
          have h1 := hmax (x : Int) (List.mem_map_of_mem hx)
          have h2 : m ≤ 100 := of_decide_eq_true h
          exact decide_eq_true (by omega)
        · intro h
          obtain ⟨x, hx, rfl⟩ := List.mem_map.mp hm
          have h1 : x ≤ 100 := of_decide_eq_true (h x hx)
          exact decide_eq_true (by omega)
      rw [← e2] at k
      exact k
    · rw [z, Bool.false_and] at k
      exact k

theorem scFlat : FnScope ["fractions", "numbers", "fraction"] ["fractions"] (defScope sFlat) := ⟨rfl, rfl, rfl, by decide +kernel, rfl, by decide +kernel, by decide +kernel⟩
theorem ok_flat {f : Addr} {fd : FuncData} (F : Fun K "flat" "flat" sFlat f fd) (b : Binds K fd ["fractions"] []) (hm : mg "flat" = some (.ref f)) : Def0 P w K mg base "flat" 1 ["fractions"] spFlat := by
  refine def_ok F scFlat (fun vs H Q E h => ?_) b hm (fun cdv A outer s H vs Q E hr h => ⟨_, pss_cons (ps_set (i := 1) scFlat.nd rfl (.inl rfl) (pe_lst pa_nil))
    (pss_cons (ps_for PassesOwn.never rfl (pi_list (pv 0)) (pg_name (i := 2) scFlat.nd rfl (.inl rfl)) (pss_one (ps_expr (pe_bm PySem.F.plainAttrs_list PySem.F.slot_list_extend PySem.F.type_list_extend mt_extT (pv 1) (pa_cons (pv 2) pa_nil)))))
    (pss_one (ps_ret (pv 1)))), ?_⟩)
  · obtain ⟨a, qs, rfl, _⟩ := h
    rfl
  · obtain ⟨a, qs, rfl, ⟨xs, hx, hal⟩, hlen, k⟩ := h
    have hxl := hal.length
    refine ⟨Nat.zero_le _, fun D hD => ?_⟩
    have s0 := same_new (o := .lst []) hD
    refine ⟨_, rfl, a, rfl, ⟨xs, SqL.of (s0 _ _ hx)⟩, for_list (K := K) (a := a) (xs := xs) (fun i σ H' => ∃ u : Option V, σ = [some (.ref a), some (.ref D), u] ∧ Same H H' ∧ H' D = some (.lst ((flatL (qs.take i)).map V.int)))
      ⟨none, rfl, s0, upd_same⟩ (fun i σ H' _ ⟨_, _, s2, _⟩ => SqL.of (s2 _ _ hx)) ?_ ?_⟩
    · rintro i x σ H' hi ⟨u, rfl, s2, h2⟩
      obtain ⟨q, hq, t, rfl, ht⟩ := hal.get' hi
      have hl2 : ((flatL (qs.take i)).map V.int).length ≤ 2000 := by
        rw [List.length_map, flatL_len, List.length_take]
        omega
      refine ⟨_, rfl, .inl ⟨rfl, _, .inl (.inl h2)⟩, _, rfl, D, t, _, [.int q.num, .int ((q.den : Nat) : Int)], rfl, rfl, h2, SqT.of (s2 _ _ ht), ?_, ⟨_, rfl, same_upd hD s2, ?_⟩⟩
      · show _ + 2 ≤ sizeLine
        rw [sizeLine_eq]
        omega
      · rw [upd_same, flatL_snoc hq, List.map_append]
        rfl
    · rintro σ H' ⟨u, rfl, s2, h2⟩
      rw [hxl, List.take_length] at h2
      exact ⟨_, rfl, k _ _ s2 h2⟩

theorem scWritten : FnScope ["amounts"] ["amounts"] (defScope sWritten) := ⟨rfl, rfl, rfl, by decide +kernel, rfl, by decide +kernel, by decide +kernel⟩
theorem ok_written {f : Addr} {fd : FuncData} (F : Fun K "written" "written" sWritten f fd) (b : Binds K fd ["amounts"] []) (hm : mg "written" = some (.ref f)) (nL : mg "len" = none) (G : Def0 P w K mg base "flat" 1 ["fractions"] spFlat) :
    Def0 P w K mg base "written" 2 ["amounts"] spWritten := by
  refine def_ok F scWritten (fun vs H Q E h => ?_) b hm (fun cdv A outer s H vs Q E hr h => ⟨_, pss_one (ps_ret (pe_op op_cat (pe_lst (pa_cons (pe_callB call_len_seq (by rfl) nL boot_len (pa_cons (pv 0) pa_nil)) pa_nil)) (pe_def G hr rfl (pa_cons (pv 0) pa_nil)))), ?_⟩)
  · obtain ⟨a, qs, rfl, _⟩ := h
    rfl
  · obtain ⟨a, qs, rfl, hf, hlen, k⟩ := h
    obtain ⟨xs, hx, hal⟩ := hf
    have hxl := hal.length
    refine ⟨_, rfl, a, xs, rfl, .inl (SqL.of hx), (by show 1 ≤ sizeLine; decide), fun p1 hp1 => ?_⟩
    have s1 := same_new (o := .lst [.int ((xs.length : Nat) : Int)]) hp1
    refine ⟨_, rfl, a, qs, rfl, FrsAt.same s1 ⟨xs, hx, hal⟩, hlen, fun H2 p2 s2 h2 => ⟨p1, p2, [.int ((xs.length : Nat) : Int)], _, rfl, rfl, s2 _ _ upd_same, h2, ?_, fun p3 hp3 => ?_⟩⟩
    · show 1 + _ ≤ sizeLine
      rw [List.length_map, flatL_len, sizeLine_eq]
      omega
    · refine k _ p3 (s1.trans (s2.trans (same_new hp3))) (s1.free (s2.free hp3)) ?_
      rw [upd_same, hxl]
      rfl
end

/-! ### errors -/
structure Errs where
  nc : Addr
  ns : Addr
  ba : Addr
  nv : Addr
  nt : Addr
  tl : Addr
def Errs.of (e : Errs) (code : Int) : Option Addr := if code = -11 then some e.nc else if code = -2 then some e.ns else if code = -22 then some e.ba else if code = -33 then some e.nv else if code = -6 then some e.nt else if code = -75 then some e.tl else none
structure ErrOk (K : PySem.W.Frag) (mg : Str → Option Value) (x : Str) (C : Addr) : Prop where
  ex : PySem.W.excIn K C [.type "Exception", .type "BaseException", .type "object"] "Exception.__new__" = true
  gl : mg x = some (.ref C)
  kp : PySem.W.keepIn K (.ref C) = true
  sb : PySem.W.subIn K (.ref C) (.type "BaseException") = some true
  ty : PySem.W.typeIn K (.ref C) = some (.type "type")
section
variable {X : Cx} {C : Addr} {W : WX} {x : Str} {p pos pos' : Pos}
theorem ps_bad (T : ErrOk X.K X.mg x C) (hc : X.calm = true) (tk : Takes X W) (hg : Gl X x) (hdb : (x == ("__debug__" : Str)) = false := by decide) : PS X (.Raise (some (.Call (.Name x p) [] [] pos)) none pos') (fun _ σ H => W (.ref C) none σ H) :=
  ps_raise hc tk (pmk_bare PySem.F.excBase_Exception T.ex T.gl T.kp (raises_own T.sb T.ty) hg hdb)
end

/-! ### methods, known by their promises -/
def MthX (P : Program) (w : World) (K : PySem.W.Frag) (mg : Str → Option Value) (base : Heap) (C : Addr) (m : Str) (k : Nat) (ps : List Str) (sp : Sp) : Prop :=
  ∃ (f : Addr) (fd : FuncData), Meth K C m f ∧ Binds K fd ps [] ∧ FnOk P w K mg base (L2.CX P w) k f fd ps sp
section
variable {X : Cx} {k : Nat} {C : Addr} {ps : List Str} {sp : Sp} {m : Str} {pos apos : Pos} {e o : Expr} {es : List Expr} {ta : TE} {t : TA} {E : XK}
theorem pe_mX {pl : Sem Bool} (D : MthX X.prog X.w X.K X.mg X.base C m k ps sp) (he : PE X o ta) (c : Cls X.K C) (hr : Room k X.A) (hx : Passes (L2.CX X.prog X.w) X E) (ha : PA X (e :: es) t)
    (hst : starEach (e :: es) X.env = (false, eval e X.env) :: starEach es X.env := by rfl) (hpl : (backTo pos (starEach es X.env)).any (·.1) = false := by rfl)
    (ht : eval (.Call (.Attribute o m apos) (e :: es) [] pos) X.env = (do
      let ov ← eval o X.env
      standAt apos.atName
      let (f, first) ← holding [ov] (getMethod ov m pl)
      callWith pos f first (backTo pos (starEach (e :: es) X.env)) (backToKw pos (keywordEach [] X.env))) := by rfl) :
    PE X (.Call (.Attribute o m apos) (e :: es) [] pos) (tMeth C m sp [] E ta t) := by
  obtain ⟨f, fd, h1, h2, h3⟩ := D
  exact pe_meth he c h1 h3 hr h2 .nil hx ha hst hpl ht
theorem pe_mX0 {pl : Sem Bool} (D : MthX X.prog X.w X.K X.mg X.base C m k ps sp) (he : PE X o ta) (c : Cls X.K C) (hr : Room k X.A) (hx : Passes (L2.CX X.prog X.w) X E)
    (ht : eval (.Call (.Attribute o m apos) [] [] pos) X.env = (do
      let ov ← eval o X.env
      standAt apos.atName
      let (f, first) ← holding [ov] (getMethod ov m pl)
      callWith pos f first (backTo pos (starEach [] X.env)) (backToKw pos (keywordEach [] X.env))) := by rfl) :
    PE X (.Call (.Attribute o m apos) [] [] pos) (tMeth C m sp [] E ta tNil) := by
  obtain ⟨f, fd, h1, h2, h3⟩ := D
  exact pe_meth0 he c h1 h3 hr h2 .nil hx ht
end
section
variable {P : Program} {w : World} {K : PySem.W.Frag} {mg : Str → Option Value} {base : Heap}
/-- THE RULE for a method that may raise -/
theorem mth_ok {m qual : Str} {st : Stmt} {f C : Addr} {fd : FuncData} {N ps : List Str} {k : Nat} {sp : Sp} (F : Fun K m qual st f fd) (S : FnScope N ps (defScope st)) (len : ∀ vs H Q E, sp vs H Q E → vs.length = ps.length) (b : Binds K fd ps []) (hm : Meth K C m f)
    (hbody : ∀ (cdv : Value) (A : Around) (outer : List Env) (s : Shared) (H : Hp) (vs : List V) (Q : VK) (E : XK), Room k (A.deeper (envOfC qual (defScope st) s.heap.objs.size f cdv)) → sp vs H Q E →
      ∃ t, PSs (cxOf (L2.CX P w) P w K mg base N qual (defScope st) f cdv A outer s H E) (defBody st) t ∧ t { nx := fun _ H' => Q .non H', rt := Q } (start N vs) H) : MthX P w K mg base C m (k + 1) ps sp :=
  ⟨f, fd, hm, b, F.okX S len hbody⟩
end
end Mill
namespace Mill
open PySem PySem.Spec PyProof.Rows L2

/-! ### the circuit in the heap -/
def cF (n : Nat) (bl fl al : Addr) (lo re : V) (p : Nat) : List (Str × V) := [("class_count", natV n), ("breakage", .ref bl), ("feed", .ref fl), ("amounts", .ref al), ("loaded", lo), ("removed", re), ("pass_count", natV p)]
structure Circ (C : Addr) (H : Hp) (a bl dx fl al : Addr) (lo re : V) (s : Kp408.Circuit) : Prop where
  ob : H a = some (.ins C dx (cF s.breakage.length bl fl al lo re s.passes))
  mat : MatAt H bl s.breakage
  ft : IntsAt H fl s.feed
  am : FrsAt H al s.amounts
  ld : FrAt H lo s.loaded
  rm : FrAt H re s.removed
def CircAt (C : Addr) (H : Hp) (a bl : Addr) (s : Kp408.Circuit) : Prop := ∃ dx fl al lo re, Circ C H a bl dx fl al lo re s
theorem lk_here {k : Str} {v : V} {r : List (Str × V)} : List.lookup k ((k, v) :: r) = some v := by
  have e : (k == k) = true := beq_self_eq_true k
  simp only [List.lookup, e]
theorem lk_past {k g : Str} {v : V} {r : List (Str × V)} (h : (k == g) = false) : List.lookup k ((g, v) :: r) = List.lookup k r := by
  simp only [List.lookup, h]
theorem put_here {f : Str} {v x : V} {r : List (Str × V)} : putF f v ((f, x) :: r) = (f, v) :: r := if_pos rfl
theorem put_past {f g : Str} {v x : V} {r : List (Str × V)} (h : ¬ g = f) : putF f v ((g, x) :: r) = (g, x) :: putF f v r := if_neg h
section
variable {n : Nat} {bl fl al : Addr} {lo re : V} {p : Nat}
theorem cF_cc : (cF n bl fl al lo re p).lookup ("class_count" : Str) = some (natV n) := lk_here
theorem cF_br : (cF n bl fl al lo re p).lookup ("breakage" : Str) = some (.ref bl) := (lk_past (by decide +kernel)).trans (lk_here)
theorem cF_fe : (cF n bl fl al lo re p).lookup ("feed" : Str) = some (.ref fl) := (lk_past (by decide +kernel)).trans ((lk_past (by decide +kernel)).trans (lk_here))
theorem cF_am : (cF n bl fl al lo re p).lookup ("amounts" : Str) = some (.ref al) := (lk_past (by decide +kernel)).trans ((lk_past (by decide +kernel)).trans ((lk_past (by decide +kernel)).trans (lk_here)))
theorem cF_lo : (cF n bl fl al lo re p).lookup ("loaded" : Str) = some (lo) := (lk_past (by decide +kernel)).trans ((lk_past (by decide +kernel)).trans ((lk_past (by decide +kernel)).trans ((lk_past (by decide +kernel)).trans (lk_here))))
theorem cF_re : (cF n bl fl al lo re p).lookup ("removed" : Str) = some (re) := (lk_past (by decide +kernel)).trans ((lk_past (by decide +kernel)).trans ((lk_past (by decide +kernel)).trans ((lk_past (by decide +kernel)).trans ((lk_past (by decide +kernel)).trans (lk_here)))))
theorem cF_pc : (cF n bl fl al lo re p).lookup ("pass_count" : Str) = some (natV p) := (lk_past (by decide +kernel)).trans ((lk_past (by decide +kernel)).trans ((lk_past (by decide +kernel)).trans ((lk_past (by decide +kernel)).trans ((lk_past (by decide +kernel)).trans ((lk_past (by decide +kernel)).trans (lk_here))))))
def cNames : List Str := ["class_count", "breakage", "feed", "amounts", "loaded", "removed", "pass_count"]
/-- a method's name is none of the fields -/
theorem cF_none {m : Str} (h : cNames.all (fun g => !(m == g)) = true) : (cF n bl fl al lo re p).lookup m = none := by
  have q : ∀ g ∈ cNames, (m == g) = false := fun g hg => by
    have := List.all_eq_true.mp h g hg
    cases e : (m == g) with
    | false => rfl
    | true => rw [e] at this; cases this
  unfold cF
  rw [lk_past (q _ (by simp [cNames])), lk_past (q _ (by simp [cNames])), lk_past (q _ (by simp [cNames])), lk_past (q _ (by simp [cNames])), lk_past (q _ (by simp [cNames])), lk_past (q _ (by simp [cNames])), lk_past (q _ (by simp [cNames]))]
  rfl
theorem cF_put_am {x : Addr} : putF "amounts" (.ref x) (cF n bl fl al lo re p) = cF n bl fl x lo re p := (put_past (by decide +kernel)).trans (congrArg _ ((put_past (by decide +kernel)).trans (congrArg _ ((put_past (by decide +kernel)).trans (congrArg _ (put_here))))))
theorem cF_put_fe {x : Addr} : putF "feed" (.ref x) (cF n bl fl al lo re p) = cF n bl x al lo re p := (put_past (by decide +kernel)).trans (congrArg _ ((put_past (by decide +kernel)).trans (congrArg _ (put_here))))
theorem cF_put_lo {x : V} : putF "loaded" x (cF n bl fl al lo re p) = cF n bl fl al x re p := (put_past (by decide +kernel)).trans (congrArg _ ((put_past (by decide +kernel)).trans (congrArg _ ((put_past (by decide +kernel)).trans (congrArg _ ((put_past (by decide +kernel)).trans (congrArg _ (put_here))))))))
theorem cF_put_re {x : V} : putF "removed" x (cF n bl fl al lo re p) = cF n bl fl al lo x p := (put_past (by decide +kernel)).trans (congrArg _ ((put_past (by decide +kernel)).trans (congrArg _ ((put_past (by decide +kernel)).trans (congrArg _ ((put_past (by decide +kernel)).trans (congrArg _ ((put_past (by decide +kernel)).trans (congrArg _ (put_here))))))))))
theorem cF_put_pc {x : Nat} : putF "pass_count" (natV x) (cF n bl fl al lo re p) = cF n bl fl al lo re x := (put_past (by decide +kernel)).trans (congrArg _ ((put_past (by decide +kernel)).trans (congrArg _ ((put_past (by decide +kernel)).trans (congrArg _ ((put_past (by decide +kernel)).trans (congrArg _ ((put_past (by decide +kernel)).trans (congrArg _ ((put_past (by decide +kernel)).trans (congrArg _ (put_here))))))))))))
theorem cG1 {k : V} : putF "class_count" k [] = [(("class_count" : Str), k)] := rfl
theorem cG2 {k m : V} : putF "breakage" m [(("class_count" : Str), k)] = [(("class_count" : Str), k), (("breakage" : Str), m)] := (put_past (by decide +kernel)).trans (congrArg _ (rfl))
theorem cG3 {k m f : V} : putF "feed" f [(("class_count" : Str), k), (("breakage" : Str), m)] = [(("class_count" : Str), k), (("breakage" : Str), m), (("feed" : Str), f)] := (put_past (by decide +kernel)).trans (congrArg _ ((put_past (by decide +kernel)).trans (congrArg _ (rfl))))
theorem cG4 {k m f a : V} : putF "amounts" a [(("class_count" : Str), k), (("breakage" : Str), m), (("feed" : Str), f)] = [(("class_count" : Str), k), (("breakage" : Str), m), (("feed" : Str), f), (("amounts" : Str), a)] := (put_past (by decide +kernel)).trans (congrArg _ ((put_past (by decide +kernel)).trans (congrArg _ ((put_past (by decide +kernel)).trans (congrArg _ (rfl))))))
theorem cG5 {k m f a lo : V} : putF "loaded" lo [(("class_count" : Str), k), (("breakage" : Str), m), (("feed" : Str), f), (("amounts" : Str), a)] = [(("class_count" : Str), k), (("breakage" : Str), m), (("feed" : Str), f), (("amounts" : Str), a), (("loaded" : Str), lo)] := (put_past (by decide +kernel)).trans (congrArg _ ((put_past (by decide +kernel)).trans (congrArg _ ((put_past (by decide +kernel)).trans (congrArg _ ((put_past (by decide +kernel)).trans (congrArg _ (rfl))))))))
theorem cG6 {k m f a lo re : V} : putF "removed" re [(("class_count" : Str), k), (("breakage" : Str), m), (("feed" : Str), f), (("amounts" : Str), a), (("loaded" : Str), lo)] = [(("class_count" : Str), k), (("breakage" : Str), m), (("feed" : Str), f), (("amounts" : Str), a), (("loaded" : Str), lo), (("removed" : Str), re)] := (put_past (by decide +kernel)).trans (congrArg _ ((put_past (by decide +kernel)).trans (congrArg _ ((put_past (by decide +kernel)).trans (congrArg _ ((put_past (by decide +kernel)).trans (congrArg _ ((put_past (by decide +kernel)).trans (congrArg _ (rfl))))))))))
theorem cG7 {k m f a lo re x : V} : putF "pass_count" x [(("class_count" : Str), k), (("breakage" : Str), m), (("feed" : Str), f), (("amounts" : Str), a), (("loaded" : Str), lo), (("removed" : Str), re)] = [(("class_count" : Str), k), (("breakage" : Str), m), (("feed" : Str), f), (("amounts" : Str), a), (("loaded" : Str), lo), (("removed" : Str), re), (("pass_count" : Str), x)] := (put_past (by decide +kernel)).trans (congrArg _ ((put_past (by decide +kernel)).trans (congrArg _ ((put_past (by decide +kernel)).trans (congrArg _ ((put_past (by decide +kernel)).trans (congrArg _ ((put_past (by decide +kernel)).trans (congrArg _ ((put_past (by decide +kernel)).trans (congrArg _ (rfl))))))))))))
end
/-- all but a and bl is as it was -/
def Frame (a bl : Addr) (H H' : Hp) : Prop := ∀ b o, H b = some o → b ≠ a → b ≠ bl → H' b = some o
theorem Frame.of {a bl : Addr} {H H' : Hp} (s : Same H H') : Frame a bl H H' := fun b o e _ _ => s b o e
theorem Frame.trans {a bl : Addr} {H H1 H2 : Hp} (f : Frame a bl H H1) (g : Frame a bl H1 H2) : Frame a bl H H2 := fun b o e h1 h2 => g b o (f b o e h1 h2) h1 h2
theorem Frame.upd {a bl : Addr} {H : Hp} {o : HO} : Frame a bl H (L2.upd H a o) := fun b u e h1 _ => by
  rw [upd_ne h1]
  exact e
theorem Frame.updM {a bl : Addr} {H : Hp} {o : HO} : Frame a bl H (L2.upd H bl o) := fun b u e _ h2 => by
  rw [upd_ne h2]
  exact e
section
variable {D : Addr} {H H' : Hp} {C dx : Addr} {fs : List (Str × V)} (so : Off D H H') (hD : H D = some (.ins C dx fs))
include so hD
theorem FrAt.offI {v : V} {q : Rat} (h : FrAt H v q) : FrAt H' v q := by
  obtain ⟨a, e, h⟩ := h
  exact ⟨a, e, so _ _ (ne_of h hD (by intro z; cases z)) h⟩
theorem FrsAt.offI {a : Addr} {qs : List Rat} (h : FrsAt H a qs) : FrsAt H' a qs := by
  obtain ⟨vs, e, h⟩ := h
  exact ⟨vs, so _ _ (ne_of e hD (by intro z; cases z)) e, h.mono fun _ _ r => r.offI so hD⟩
theorem IntsAt.offI {a : Addr} {ns : List Nat} (h : IntsAt H a ns) : IntsAt H' a ns := so _ _ (ne_of h hD (by intro z; cases z)) h
theorem RowAt.offI {v : V} {r : List Nat} (h : RowAt H v r) : RowAt H' v r := by
  obtain ⟨a, e, h⟩ := h
  exact ⟨a, e, h.offI so hD⟩
theorem MatAt.offI {a : Addr} {B : List (List Nat)} (h : MatAt H a B) : MatAt H' a B := by
  obtain ⟨vs, e, h⟩ := h
  exact ⟨vs, so _ _ (ne_of e hD (by intro z; cases z)) e, h.mono fun _ _ r => r.offI so hD⟩
end
theorem Circ.same {C : Addr} {H H' : Hp} {a bl dx fl al : Addr} {lo re : V} {s : Kp408.Circuit} (ss : Same H H') (c : Circ C H a bl dx fl al lo re s) : Circ C H' a bl dx fl al lo re s := ⟨ss _ _ c.ob, c.mat.same ss, c.ft.same ss, c.am.same ss, c.ld.same ss, c.rm.same ss⟩
theorem CircAt.same {C : Addr} {H H' : Hp} {a bl : Addr} {s : Kp408.Circuit} (ss : Same H H') (c : CircAt C H a bl s) : CircAt C H' a bl s := by
  obtain ⟨dx, fl, al, lo, re, c⟩ := c
  exact ⟨dx, fl, al, lo, re, c.same ss⟩
/-- the circuit's object is written -/
theorem Circ.put {C : Addr} {H : Hp} {a bl dx fl al fl' al' : Addr} {lo re lo' re' : V} {s s' : Kp408.Circuit} {fs : List (Str × V)} (c : Circ C H a bl dx fl al lo re s) (hfs : fs = cF s'.breakage.length bl fl' al' lo' re' s'.passes) (hb : s'.breakage = s.breakage) (h1 : IntsAt H fl' s'.feed) (h2 : FrsAt H al' s'.amounts) (h3 : FrAt H lo' s'.loaded) (h4 : FrAt H re' s'.removed) :
    Circ C (upd H a (.ins C dx fs)) a bl dx fl' al' lo' re' s' := by
  have so : Off a H (upd H a (.ins C dx fs)) := Off.upd
  refine ⟨?_, ?_, h1.offI so c.ob, h2.offI so c.ob, h3.offI so c.ob, h4.offI so c.ob⟩
  · rw [upd_same, hfs]
  · rw [hb]
    exact c.mat.offI so c.ob

/-! ### what the text says of the class -/
structure Txt (K : PySem.W.Frag) (C : Addr) : Prop where
  cl : Cls K C
  cc : NoAttr K C "class_count"
  br : NoAttr K C "breakage"
  fe : NoAttr K C "feed"
  am : NoAttr K C "amounts"
  lo : NoAttr K C "loaded"
  re : NoAttr K C "removed"
  pc : NoAttr K C "pass_count"
theorem fld_ok {K : PySem.W.Frag} {σ : L2.St} {H : Hp} {Q : VK} {i : Nat} {a C dx : Addr} {fs : List (Str × V)} {f : Str} {v : V} (hv : σ[i]? = some (some (.ref a))) (h : H a = some (.ins C dx fs)) (cl : Cls K C) (nf : NoAttr K C f) (hl : fs.lookup f = some v) (k : Q v H) : tFld K (tVar i) f σ H Q :=
  ⟨_, hv, a, C, dx, fs, v, rfl, h, cl, nf, hl, k⟩

/-! ### what a call is to do -/
def Wish (C : Addr) (e : Errs) (H : Hp) (a bl : Addr) (s : Kp408.Circuit) (r : Kp408.State × Kp408.Ans) (Q : VK) (E : XK) : Prop :=
  (∀ s' n ns, r = (some s', ⟨n, ns⟩) → 0 ≤ n → ∀ H' p, CircAt C H' a bl s' → H' p = some (.lst ((n :: ns).map V.int)) → Frame a bl H H' → H p = none → Q (.ref p) H') ∧
  (∀ code cls, r = (some s, Kp408.single code) → e.of code = some cls → ∀ H', Same H H' → E (.ref cls) none H')
section
variable {C : Addr} {e : Errs} {H : Hp} {a bl : Addr} {s s' : Kp408.Circuit} {r : Kp408.State × Kp408.Ans} {Q : VK} {E : XK}
theorem Wish.ok (k : Wish C e H a bl s r Q E) {n : Int} {ns : List Int} (hr : r = (some s', ⟨n, ns⟩)) (h0 : 0 ≤ n) {H' : Hp} {p : Addr} (c : CircAt C H' a bl s') (hp : H' p = some (.lst ((n :: ns).map V.int))) (f : Frame a bl H H') (hf : H p = none) : Q (.ref p) H' := k.1 s' n ns hr h0 H' p c hp f hf
theorem Wish.read (k : Wish C e H a bl s r Q E) (c : CircAt C H a bl s) {n : Int} {ns : List Int} (hr : r = (some s, ⟨n, ns⟩)) (h0 : 0 ≤ n) {H' : Hp} {p : Addr} (ss : Same H H') (hp : H' p = some (.lst ((n :: ns).map V.int))) (hf : H p = none) : Q (.ref p) H' := k.1 s n ns hr h0 H' p (c.same ss) hp (Frame.of ss) hf
theorem Wish.bad (k : Wish C e H a bl s r Q E) {code : Int} {cls : Addr} (hr : r = (some s, Kp408.single code)) (hc : e.of code = some cls) {H' : Hp} (ss : Same H H') : E (.ref cls) none H' := k.2 code cls hr hc H' ss
end
theorem fr_upd {H : Hp} {a p : Addr} {o : HO} (h : upd H a o p = none) : H p = none := by
  by_cases e : p = a
  · rw [e, upd_same] at h
    cases h
  · rw [upd_ne e] at h
    exact h
theorem of_ns (e : Errs) : e.of (-2) = some e.ns := rfl
theorem of_ba (e : Errs) : e.of (-22) = some e.ba := rfl
theorem of_nv (e : Errs) : e.of (-33) = some e.nv := rfl
theorem of_nt (e : Errs) : e.of (-6) = some e.nt := rfl
theorem of_tl (e : Errs) : e.of (-75) = some e.tl := rfl
/-- a method's promise -/
def spM (C : Addr) (e : Errs) (args : List V) (c : Kp408.Call) : Sp := fun vs H Q E => ∃ a bl s k, vs = .ref a :: args ∧ CircAt C H a bl s ∧ Good k s ∧ k ≤ 60 ∧ Wish C e H a bl s (Kp408.step (some s) c) Q E
def spM1 (C : Addr) (e : Errs) (c : Nat → Kp408.Call) : Sp := fun vs H Q E => ∃ n : Nat, spM C e [natV n] (c n) vs H Q E
def spM2 (C : Addr) (e : Errs) (c : Nat → Nat → Kp408.Call) : Sp := fun vs H Q E => ∃ n m : Nat, spM C e [natV n, natV m] (c n m) vs H Q E

/-! ### the checks -/
def spCkClass (C : Addr) (e : Errs) : Sp := fun vs H Q E => ∃ a dx fs, ∃ i n : Nat, vs = [.ref a, natV i] ∧ H a = some (.ins C dx fs) ∧ fs.lookup ("class_count" : Str) = some (natV n) ∧ (¬ i < n → E (.ref e.ns) none H) ∧ (i < n → Q .non H)
def spCkCut (C : Addr) (e : Errs) : Sp := fun vs H Q E => ∃ a dx fs, ∃ c n : Nat, vs = [.ref a, natV c] ∧ H a = some (.ins C dx fs) ∧ fs.lookup ("class_count" : Str) = some (natV n) ∧ (¬ (1 ≤ c ∧ c < n) → E (.ref e.ba) none H) ∧ (1 ≤ c ∧ c < n → Q .non H)
def spReplace (C : Addr) (e : Errs) : Sp := fun vs H Q E => ∃ a dx fs l qs, vs = [.ref a, .ref l] ∧ H a = some (.ins C dx fs) ∧ fs.length < 1000 ∧ FrsAt H l qs ∧ (qs.any tooLarge = true → E (.ref e.tl) none H) ∧ (qs.any tooLarge = false → Q .non (upd H a (.ins C dx (putF "amounts" (.ref l) fs))))
def spCkSteady (C : Addr) (e : Errs) : Sp := fun vs H Q E => ∃ a bl s k, ∃ c : Nat, vs = [.ref a, natV c] ∧ CircAt C H a bl s ∧ Good k s ∧ (¬ (1 ≤ c ∧ c < s.breakage.length) → E (.ref e.ba) none H) ∧
  (1 ≤ c ∧ c < s.breakage.length → isSteady s.breakage c = false → ∀ H', Same H H' → E (.ref e.nv) none H') ∧ (1 ≤ c ∧ c < s.breakage.length → isSteady s.breakage c = true → ∀ H' p, Same H H' → FrsAt H' p (steady s.breakage s.feed c) → Q (.ref p) H')
abbrev sCkClass : Stmt := inClass (top 32) 1
abbrev sCkCut : Stmt := inClass (top 32) 2
abbrev sReplace : Stmt := inClass (top 32) 3
abbrev sCkSteady : Stmt := inClass (top 32) 4
section
variable {P : Program} {w : World} {K : PySem.W.Frag} {mg : Str → Option Value} {base : Heap} {C : Addr} {e : Errs}
theorem scCkClass : FnScope ["self", "size_class"] ["self", "size_class"] (defScope sCkClass) := ⟨rfl, rfl, rfl, by decide +kernel, rfl, by decide +kernel, by decide +kernel⟩
theorem ok_ckClass {f : Addr} {fd : FuncData} (F : Fun K "check_size_class" "Circuit.check_size_class" sCkClass f fd) (b : Binds K fd ["self", "size_class"] []) (hm : Meth K C "check_size_class" f) (T : Txt K C) (R : ErrOk K mg "NoSuchClass" e.ns) :
    MthX P w K mg base C "check_size_class" 1 ["self", "size_class"] (spCkClass C e) := by
  refine mth_ok F scCkClass (fun vs H Q E h => ?_) b hm (fun cdv A outer s H vs Q E hr h => ⟨_, pss_one (ps_if (pt_cmpR op_ge (pv 1) (pe_fld (pv 0) rfl) (nomark _)) (pss_one (ps_bad R rfl (takes_of rfl rfl rfl rfl) rfl)) pss_nil), ?_⟩)
  · obtain ⟨a, dx, fs, i, n, rfl, _⟩ := h
    rfl
  · obtain ⟨a, dx, fs, i, n, rfl, ha, hl, kN, kS⟩ := h
    refine ⟨_, rfl, fld_ok rfl ha T.cl T.cc hl ⟨_, _, rfl, rfl, _, rfl, ?_⟩⟩
    refine ite_b (fun z => kN ?_) (fun z => kS ?_)
    · have := of_decide_eq_true z
      omega
    · have := of_decide_eq_false z
      omega
theorem scCkCut : FnScope ["self", "cut"] ["self", "cut"] (defScope sCkCut) := ⟨rfl, rfl, rfl, by decide +kernel, rfl, by decide +kernel, by decide +kernel⟩
theorem ok_ckCut {f : Addr} {fd : FuncData} (F : Fun K "check_cut" "Circuit.check_cut" sCkCut f fd) (b : Binds K fd ["self", "cut"] []) (hm : Meth K C "check_cut" f) (T : Txt K C) (R : ErrOk K mg "BadArgument" e.ba) :
    MthX P w K mg base C "check_cut" 1 ["self", "cut"] (spCkCut C e) := by
  refine mth_ok F scCkCut (fun vs H Q E h => ?_) b hm (fun cdv A outer s H vs Q E hr h => ⟨_, pss_one (ps_if (PW.pt (pw_or (pt_cmpR op_lt (pv 1) pe_int (nomark _)) (pw_or1 (pt_cmpR op_ge (pv 1) (pe_fld (pv 0) rfl) (nomark _))))) (pss_one (ps_bad R rfl (takes_of rfl rfl rfl rfl) rfl)) pss_nil), ?_⟩)
  · obtain ⟨a, dx, fs, i, n, rfl, _⟩ := h
    rfl
  · obtain ⟨a, dx, fs, c, n, rfl, ha, hl, kN, kS⟩ := h
    refine ⟨_, rfl, _, _, rfl, rfl, _, rfl, ite_b (fun z => iteT (kN ?_)) (fun z => ⟨_, rfl, fld_ok rfl ha T.cl T.cc hl ⟨_, _, rfl, rfl, _, rfl, ite_b (fun y => kN ?_) (fun y => kS ?_)⟩⟩)⟩
    · have := of_decide_eq_true z
      omega
    · have := of_decide_eq_true y
      omega
    · have := of_decide_eq_false z
      have := of_decide_eq_false y
      omega
theorem scReplace : FnScope ["self", "amounts", "amount"] ["self", "amounts"] (defScope sReplace) := ⟨rfl, rfl, rfl, by decide +kernel, rfl, by decide +kernel, by decide +kernel⟩
theorem ok_replace {f : Addr} {fd : FuncData} (F : Fun K "replace_amounts" "Circuit.replace_amounts" sReplace f fd) (b : Binds K fd ["self", "amounts"] []) (hm : Meth K C "replace_amounts" f) (T : Txt K C) (R : ErrOk K mg "TooLarge" e.tl) (G : Def0 P w K mg base "is_too_large" 1 ["fraction"] spTooLarge) :
    MthX P w K mg base C "replace_amounts" 2 ["self", "amounts"] (spReplace C e) := by
  refine mth_ok F scReplace (fun vs H Q E h => ?_) b hm (fun cdv A outer s H vs Q E hr h => ⟨_, pss_cons (ps_for (passes_of rfl) rfl (pi_list (pv 1)) (pg_name (i := 2) scReplace.nd rfl (Or.inl rfl))
      (pss_one (ps_if (pt_val (pe_def G hr rfl (pa_cons (pv 2) pa_nil))) (pss_one (ps_bad R rfl (takes_of rfl rfl rfl rfl) rfl)) pss_nil)))
    (pss_one (ps_fld (pv 0) (pv 1) rfl)), ?_⟩)
  · obtain ⟨a, dx, fs, l, qs, rfl, _⟩ := h
    rfl
  · obtain ⟨a, dx, fs, l, qs, rfl, ha, hlen, ⟨xs, hx, hal⟩, kN, kS⟩ := h
    have hxl := hal.length
    refine ⟨_, rfl, l, rfl, ⟨xs, SqL.of hx⟩, for_list (K := K) (a := l) (xs := xs) (fun i σ H' => ∃ u : Option V, σ = [some (.ref a), some (.ref l), u] ∧ H' = H ∧ (qs.take i).any tooLarge = false)
      ⟨none, rfl, rfl, rfl⟩ (fun i σ H' _ ⟨_, _, e2, _⟩ => by rw [e2]; exact SqL.of hx) ?_ ?_⟩
    · rintro i x σ H' hi ⟨u, rfl, rfl, hn⟩
      obtain ⟨q, hq, hf⟩ := hal.get' hi
      refine ⟨_, rfl, x, q, rfl, hf, _, rfl, ite_b (fun z => kN ?_) (fun z => ⟨_, rfl, rfl, ?_⟩)⟩
      · exact List.any_eq_true.mpr ⟨q, List.mem_of_getElem? hq, z⟩
      · obtain ⟨h1, h2⟩ := List.getElem?_eq_some_iff.mp hq
        rw [List.take_succ_eq_append_getElem h1, List.any_append, hn, h2, Bool.false_or]
        show (tooLarge q || false) = false
        rw [z]
        rfl
    · rintro σ H' ⟨u, rfl, rfl, hn⟩
      rw [hxl, List.take_length] at hn
      exact ⟨_, rfl, _, rfl, a, C, dx, fs, rfl, ha, T.cl, T.am, hlen, kS hn⟩
theorem scCkSteady : FnScope ["self", "cut"] ["self", "cut"] (defScope sCkSteady) := ⟨rfl, rfl, rfl, by decide +kernel, rfl, by decide +kernel, by decide +kernel⟩
theorem ok_ckSteady {f : Addr} {fd : FuncData} (F : Fun K "checked_steady_amounts" "Circuit.checked_steady_amounts" sCkSteady f fd) (b : Binds K fd ["self", "cut"] []) (hm : Meth K C "checked_steady_amounts" f) (T : Txt K C) (R : ErrOk K mg "NoSuchValue" e.nv)
    (MC : MthX P w K mg base C "check_cut" 1 ["self", "cut"] (spCkCut C e)) (GI : Def0 P w K mg base "is_steady" 1 ["breakage", "cut"] spIsSteady) (GS : Def0 P w K mg base "steady_amounts" 6 ["breakage", "feed", "cut"] spSteady) :
    MthX P w K mg base C "checked_steady_amounts" 7 ["self", "cut"] (spCkSteady C e) := by
  refine mth_ok F scCkSteady (fun vs H Q E h => ?_) b hm (fun cdv A outer s H vs Q E hr h => ⟨_, pss_cons (ps_expr (pe_mX (E := E) MC (pv 0) T.cl (hr.mono (by decide)) (passes_call (takes_of rfl rfl rfl rfl) (fun _ _ _ _ h => h)) (pa_cons (pv 1) pa_nil)))
    (pss_cons (ps_if (pt_not (pt_val (pe_def GI (hr.mono (by decide)) rfl (pa_cons (pe_fld (pv 0) rfl) (pa_cons (pv 1) pa_nil))))) (pss_one (ps_bad R rfl (takes_of rfl rfl rfl rfl) rfl)) pss_nil)
    (pss_one (ps_ret (pe_def GS hr rfl (pa_cons (pe_fld (pv 0) rfl) (pa_cons (pe_fld (pv 0) rfl) (pa_cons (pv 1) pa_nil))))))), ?_⟩)
  · obtain ⟨a, bl, s, k, c, rfl, _⟩ := h
    rfl
  · obtain ⟨a, bl, s, k, c, rfl, ⟨dx, fl, al, lo, re, cc⟩, g, k1, k2, k3⟩ := h
    have h5 := g.five
    have hfl := g.fl
    refine ⟨_, rfl, a, dx, _, rfl, cc.ob, cF_none (by decide +kernel), _, rfl, a, dx, _, c, _, rfl, cc.ob, cF_cc, k1, fun hc => ?_⟩
    refine ⟨_, rfl, a, C, dx, _, _, rfl, cc.ob, T.cl, T.br, cF_br, _, rfl, bl, s.breakage, c, rfl, cc.mat, g.shape, h5, by omega, fun H1 s1 => ⟨_, rfl, ite_b (fun z => k2 hc (by rw [Bool.not_eq_true'] at z; exact z) H1 s1) (fun z => ?_)⟩⟩
    have z : isSteady s.breakage c = true := by
      rw [Bool.not_eq_false'] at z
      exact z
    have c1 := cc.same s1
    exact ⟨_, rfl, a, C, dx, _, _, rfl, c1.ob, T.cl, T.br, cF_br, _, rfl, a, C, dx, _, _, rfl, c1.ob, T.cl, T.fe, cF_fe, _, rfl, bl, fl, s.breakage, s.feed, c, rfl, ⟨c1.mat, c1.ft, g.shape, hfl, by omega, g.fh⟩, hc.1, by omega, z, fun H2 p s2 f2 => k3 hc z H2 p (s1.trans s2) f2⟩
end
end Mill
namespace Mill
open PySem PySem.Spec PyProof.Rows L2

/-! ### all that the circuit leans on -/
structure Lib (P : Program) (w : World) (K : PySem.W.Frag) (mg : Str → Option Value) (base : Heap) : Prop where
  whole : Def0 P w K mg base "whole" 1 ["number"] spWhole
  low : Def0 P w K mg base "lowest_terms" 2 ["num", "den"] spLow
  plus : Def0 P w K mg base "plus" 3 ["left", "right"] spPlus
  scaled : Def0 P w K mg base "scaled" 3 ["fraction", "num", "den"] spScaled
  total : Def0 P w K mg base "total" 4 ["fractions"] spTotal
  atLeast : Def0 P w K mg base "is_at_least" 1 ["fraction", "bound"] spAtLeast
  tooLarge : Def0 P w K mg base "is_too_large" 1 ["fraction"] spTooLarge
  unbroken : Def0 P w K mg base "unbroken_matrix" 1 ["class_count"] spUnbroken
  withFeed : Def0 P w K mg base "with_feed" 4 ["amounts", "feed"] spWithFeed
  pass1 : Def0 P w K mg base "after_pass" 6 ["breakage", "amounts"] spPass
  passN : Def0 P w K mg base "after_passes" 7 ["breakage", "amounts", "passes"] spPasses
  under : Def0 P w K mg base "undersize_of" 2 ["amounts", "cut"] spUnder
  over : Def0 P w K mg base "oversize_of" 2 ["amounts", "cut"] spOver
  isSteady : Def0 P w K mg base "is_steady" 1 ["breakage", "cut"] spIsSteady
  steady : Def0 P w K mg base "steady_amounts" 6 ["breakage", "feed", "cut"] spSteady
  rounds : Def0 P w K mg base "after_rounds" 7 ["breakage", "feed", "cut", "rounds"] spRounds
  isRow : Def0 P w K mg base "is_row" 1 ["numbers", "count"] spIsRow
  flat : Def0 P w K mg base "flat" 1 ["fractions"] spFlat
  written : Def0 P w K mg base "written" 2 ["amounts"] spWritten
  nLen : mg "len" = none
  nList : mg "list" = none
  nSum : mg "sum" = none
  nRange : mg "range" = none
structure Sys (P : Program) (w : World) (K : PySem.W.Frag) (mg : Str → Option Value) (base : Heap) (C : Addr) (e : Errs) : Prop where
  T : Txt K C
  bad : ErrOk K mg "BadArgument" e.ba
  none : ErrOk K mg "NothingThere" e.nt
  noval : ErrOk K mg "NoSuchValue" e.nv
  ckClass : MthX P w K mg base C "check_size_class" 1 ["self", "size_class"] (spCkClass C e)
  ckCut : MthX P w K mg base C "check_cut" 1 ["self", "cut"] (spCkCut C e)
  replace : MthX P w K mg base C "replace_amounts" 2 ["self", "amounts"] (spReplace C e)
  ckSteady : MthX P w K mg base C "checked_steady_amounts" 7 ["self", "cut"] (spCkSteady C e)

/-! ### small answers -/
theorem cat_ok {H : Hp} {p1 p2 : Addr} {xs zs : List V} {Q : VK} (h1 : H p1 = some (.lst xs)) (h2 : H p2 = some (.lst zs)) (hl : xs.length + zs.length ≤ 1000) (k : ∀ p, H p = Option.none → Q (.ref p) (upd H p (.lst (xs ++ zs)))) : rCat (.ref p1) (.ref p2) H Q :=
  ⟨p1, p2, xs, zs, rfl, rfl, h1, h2, line5 hl, k⟩
theorem one_line : (1 : Nat) ≤ sizeLine := by decide
theorem sq_of {K : PySem.W.Frag} {H : Hp} {a : Addr} {ns : List Nat} (h : IntsAt H a ns) : SqL K H a ((ns.map fun (x : Nat) => (x : Int)).map V.int) := by
  have := SqL.of (K := K) h
  rw [natV_map] at this
  exact this
theorem isum : ∀ ns : List Nat, (ns.map fun (x : Nat) => (x : Int)).sum = ((ns.sum : Nat) : Int)
  | [] => rfl
  | a :: l => by
    rw [List.map_cons, List.sum_cons, isum l, List.sum_cons, Int.natCast_add]
theorem bd5 {k : Nat} {s : Kp408.Circuit} (g : Good k s) (hk : k ≤ 60) : Bd 1000 s.amounts := g.am.mono (by omega)
theorem sm_lo {k : Nat} {s : Kp408.Circuit} (g : Good k s) (hk : k ≤ 60) : Sm 4000 s.loaded := (g.bd.sm List.mem_cons_self).mono (by omega)
theorem sm_re {k : Nat} {s : Kp408.Circuit} (g : Good k s) (hk : k ≤ 60) : Sm 4000 s.removed := (g.bd.sm (List.mem_cons_of_mem _ List.mem_cons_self)).mono (by omega)
theorem al5 {k : Nat} {s : Kp408.Circuit} (g : Good k s) : s.amounts.length ≤ 5 := by
  have := g.al
  have := g.five
  omega
theorem Circ.ma {C : Addr} {H : Hp} {a bl dx fl al : Addr} {lo re : V} {s : Kp408.Circuit} (c : Circ C H a bl dx fl al lo re s) {k : Nat} (g : Good k s) (hk : k ≤ 60) : MA H bl al s.breakage s.amounts 1000 := ⟨c.mat, c.am, g.shape, g.al, al5 g, bd5 g hk⟩
theorem Circ.mf {C : Addr} {H : Hp} {a bl dx fl al : Addr} {lo re : V} {s : Kp408.Circuit} (c : Circ C H a bl dx fl al lo re s) {k : Nat} (g : Good k s) : MF H bl fl s.breakage s.feed := by
  have h1 := g.fl
  have h2 := g.five
  exact ⟨c.mat, c.ft, g.shape, h1, by omega, g.fh⟩
theorem wl_of {qs : List Rat} : Kp408.withinLimit qs = !qs.any tooLarge := by
  unfold Kp408.withinLimit
  rw [List.not_any_eq_all_not]
  refine congrArg (fun f => qs.all f) (funext fun q => ?_)
  unfold tooLarge Kp408.numberLimit
  rw [Bool.not_or]
  refine congr (congrArg and ?_) ?_
  · rw [Bool.eq_iff_iff, Bool.not_eq_true', decide_eq_true_iff, decide_eq_false_iff_not]
    exact Int.not_le.symm
  · rw [Bool.eq_iff_iff, Bool.not_eq_true', decide_eq_true_iff, decide_eq_false_iff_not]
    exact Int.not_le.symm
theorem ic_true {s : Kp408.Circuit} {i : Nat} (h : i < s.breakage.length) : Kp408.isClass s i = true := decide_eq_true h
theorem ic_false {s : Kp408.Circuit} {i : Nat} (h : ¬ i < s.breakage.length) : Kp408.isClass s i = false := decide_eq_false h
theorem vc_true {s : Kp408.Circuit} {c : Nat} (h : 1 ≤ c ∧ c < s.breakage.length) : Kp408.validCut s c = true := by
  unfold Kp408.validCut Kp408.classCount
  rw [decide_eq_true h.1, decide_eq_true h.2] <;> rfl
theorem vc_false {s : Kp408.Circuit} {c : Nat} (h : ¬ (1 ≤ c ∧ c < s.breakage.length)) : Kp408.validCut s c = false := by
  unfold Kp408.validCut Kp408.classCount
  by_cases h1 : 1 ≤ c
  · rw [decide_eq_true h1, decide_eq_false (fun z => h ⟨h1, z⟩)] <;> rfl
  · rw [decide_eq_false h1] <;> rfl
theorem am_int {qs : List Rat} : Kp408.amountsResult qs = ⟨((qs.length : Nat) : Int), flatL qs⟩ := rfl

abbrev sInitC : Stmt := inClass (top 32) 0
abbrev sSetB : Stmt := inClass (top 32) 5
abbrev sGetB : Stmt := inClass (top 32) 6
abbrev sSetF : Stmt := inClass (top 32) 7
abbrev sLoad : Stmt := inClass (top 32) 8
abbrev sGrind : Stmt := inClass (top 32) 9
abbrev sRemove : Stmt := inClass (top 32) 10
abbrev sGetA : Stmt := inClass (top 32) 11
abbrev sUpTo : Stmt := inClass (top 32) 12
abbrev sPreview : Stmt := inClass (top 32) 13
def freshC (n : Nat) : Kp408.Circuit := ⟨(List.range n).map fun i => List.replicate i 0 ++ [100], List.replicate n 0, List.replicate n 0, 0, 0, 0⟩
theorem freshC_len (n : Nat) : (freshC n).breakage.length = n := by
  show ((List.range n).map fun i => List.replicate i 0 ++ [100]).length = n
  rw [List.length_map, List.length_range]
def spInitC (C : Addr) (e : Errs) : Sp := fun vs H Q E => ∃ p dx, ∃ n : Nat, vs = [.ref p, natV n] ∧ H p = some (.ins C dx []) ∧ (¬ (2 ≤ n ∧ n ≤ 5) → E (.ref e.ba) none H) ∧
  (2 ≤ n ∧ n ≤ 5 → ∀ H' bl, CircAt C H' p bl (freshC n) → H bl = none → Off p H H' → Q .non H')
def spSetB (C : Addr) (e : Errs) : Sp := fun vs H Q E => ∃ i l ns, IntsAt H l ns ∧ spM C e [natV i, .ref l] (.setBreakage i ns) vs H Q E
def spSetF (C : Addr) (e : Errs) : Sp := fun vs H Q E => ∃ l ns, IntsAt H l ns ∧ spM C e [.ref l] (.setFeed ns) vs H Q E
theorem Off.trans {D : Addr} {H H1 H2 : Hp} (a : Off D H H1) (b : Off D H1 H2) : Off D H H2 := fun c o hc e => b c o hc (a c o hc e)
section
variable {P : Program} {w : World} {K : PySem.W.Frag} {mg : Str → Option Value} {base : Heap} {C : Addr} {e : Errs}
theorem scInitC : FnScope ["self", "class_count"] ["self", "class_count"] (defScope sInitC) := ⟨rfl, rfl, rfl, by decide +kernel, rfl, by decide +kernel, by decide +kernel⟩
theorem ok_initC {f : Addr} {fd : FuncData} (F : Fun K "__init__" "Circuit.__init__" sInitC f fd) (L : Lib P w K mg base) (T : Txt K C) (R : ErrOk K mg "BadArgument" e.ba) : FnOk P w K mg base (L2.CX P w) 2 f fd ["self", "class_count"] (spInitC C e) := by
  refine F.okX scInitC (fun vs H Q E h => ?_) (fun cdv A outer s H vs Q E hr h => ⟨_, pss_cons (ps_if (PW.pt (pw_or (pt_cmpR op_lt (pv 1) pe_int (nomark _)) (pw_or1 (pt_cmpR op_gt (pv 1) pe_int (nomark _))))) (pss_one (ps_bad R rfl (takes_of rfl rfl rfl rfl) rfl)) pss_nil)
    (pss_cons (ps_fld (pv 0) (pv 1) rfl)
    (pss_cons (ps_fld (pv 0) (pe_def L.unbroken hr rfl (pa_cons (pv 1) pa_nil)) rfl)
    (pss_cons (ps_fld (pv 0) (pe_op op_rep (pe_lst (pa_cons pe_int pa_nil)) (pv 1)) rfl)
    (pss_cons (ps_fld (pv 0) (pe_op op_rep (pe_lst (pa_cons (pe_def L.whole hr rfl (pa_cons pe_int pa_nil)) pa_nil)) (pv 1)) rfl)
    (pss_cons (ps_fld (pv 0) (pe_def L.whole hr rfl (pa_cons pe_int pa_nil)) rfl)
    (pss_cons (ps_fld (pv 0) (pe_def L.whole hr rfl (pa_cons pe_int pa_nil)) rfl)
    (pss_one (ps_fld (pv 0) pe_int rfl)))))))), ?_⟩)
  · obtain ⟨p, dx, n, rfl, _⟩ := h
    rfl
  · obtain ⟨p, dx, n, rfl, hp, kN, kS⟩ := h
    refine ⟨_, rfl, _, _, rfl, rfl, _, rfl, ite_b (fun z => iteT (kN fun y => by have := of_decide_eq_true z; omega)) (fun z => ⟨_, rfl, _, _, rfl, rfl, _, rfl, ite_b (fun y => kN fun x => by have := of_decide_eq_true y; omega) (fun y => ?_)⟩)⟩
    have hn : 2 ≤ n ∧ n ≤ 5 := by
      have := of_decide_eq_false z
      have := of_decide_eq_false y
      omega
    have b63 := int63 (n := n) (by omega)
    -- class_count
    refine ⟨_, rfl, _, rfl, p, C, dx, [], rfl, hp, T.cl, T.cc, (by show 0 < 1000; decide), ?_⟩
    rw [cG1]
    have o1 : Off p H (upd H p (.ins C dx [("class_count", natV n)])) := Off.upd
    -- breakage
    refine ⟨_, rfl, n, rfl, hn.2, fun H2 m s2 nm hm => ⟨_, rfl, p, C, dx, _, rfl, s2 _ _ upd_same, T.cl, T.br, (by show 1 < 1000; decide), ?_⟩⟩
    have m0 : H m = none := by
      have hmp : m ≠ p := fun z => by
        rw [z, upd_same] at nm
        cases nm
      rw [upd_ne hmp] at nm
      exact nm
    rw [cG2]
    have o2 := o1.trans ((off_of s2).trans (Off.upd (o := .ins C dx [("class_count", natV n), ("breakage", .ref m)])))
    have hm2 := hm.offI (Off.upd (o := .ins C dx [("class_count", natV n), ("breakage", .ref m)])) (s2 _ _ upd_same)
    -- feed
    refine ⟨one_line, fun q1 hq1 => ⟨_, rfl, q1, _, _, rfl, rfl, upd_same, b63.1, b63.2, line5 (by show 1 * n ≤ 1000; omega), fun q2 hq2 => ?_⟩⟩
    have ef : (List.replicate ((n : Nat) : Int).toNat [V.int 0]).flatten = (List.replicate n 0).map natV := by
      rw [rep_flat, Int.toNat_natCast, List.map_replicate]
      rfl
    rw [ef]
    have s3 := (same_new (o := .lst [V.int 0]) hq1).trans (same_new (o := .lst ((List.replicate n 0).map natV)) hq2)
    refine ⟨_, rfl, p, C, dx, _, rfl, s3 _ _ upd_same, T.cl, T.fe, (by show 2 < 1000; decide), ?_⟩
    rw [cG3]
    have hi3 : IntsAt (upd (upd (upd H2 p (.ins C dx [("class_count", natV n), ("breakage", .ref m)])) q1 (.lst [V.int 0])) q2 (.lst ((List.replicate n 0).map natV))) q2 (List.replicate n 0) := upd_same
    have hi4 := hi3.offI (Off.upd (o := .ins C dx [("class_count", natV n), ("breakage", .ref m), ("feed", .ref q2)])) (s3 _ _ upd_same)
    have hm4 := (hm2.same s3).offI (Off.upd (o := .ins C dx [("class_count", natV n), ("breakage", .ref m), ("feed", .ref q2)])) (s3 _ _ upd_same)
    have o4 := o2.trans ((off_of s3).trans (Off.upd (o := .ins C dx [("class_count", natV n), ("breakage", .ref m), ("feed", .ref q2)])))
    -- amounts
    refine ⟨0, rfl, fun H5 v5 s5 f5 => ⟨one_line, fun q3 hq3 => ⟨_, rfl, q3, _, _, rfl, rfl, upd_same, b63.1, b63.2, line5 (by show 1 * n ≤ 1000; omega), fun q4 hq4 => ?_⟩⟩⟩
    have ea : (List.replicate ((n : Nat) : Int).toNat [v5]).flatten = List.replicate n v5 := by rw [rep_flat, Int.toNat_natCast]
    rw [ea]
    have s6 := (same_new (o := .lst [v5]) hq3).trans (same_new (o := .lst (List.replicate n v5)) hq4)
    have s56 := s5.trans s6
    refine ⟨_, rfl, p, C, dx, _, rfl, s56 _ _ upd_same, T.cl, T.am, (by show 3 < 1000; decide), ?_⟩
    rw [cG4]
    have fa6 : FrsAt (upd (upd H5 q3 (.lst [v5])) q4 (.lst (List.replicate n v5))) q4 (List.replicate n ((0 : Nat) : Rat)) := ⟨_, upd_same, Al.rep (f5.same s6) n⟩
    have o7 : Off p _ _ := Off.upd (D := p) (H := upd (upd H5 q3 (.lst [v5])) q4 (.lst (List.replicate n v5))) (o := .ins C dx [("class_count", natV n), ("breakage", .ref m), ("feed", .ref q2), ("amounts", .ref q4)])
    have i7 := s56 _ _ (upd_same (H := upd (upd (upd H2 p (.ins C dx [("class_count", natV n), ("breakage", .ref m)])) q1 (.lst [V.int 0])) q2 (.lst ((List.replicate n 0).map natV))) (a := p) (o := .ins C dx [("class_count", natV n), ("breakage", .ref m), ("feed", .ref q2)]))
    have hm7 := (hm4.same s56).offI o7 i7
    have hi7 := (hi4.same s56).offI o7 i7
    have fa7 := fa6.offI o7 i7
    have oo7 := o4.trans ((off_of s56).trans o7)
    -- loaded
    refine ⟨0, rfl, fun H8 v8 s8 f8 => ⟨_, rfl, p, C, dx, _, rfl, s8 _ _ upd_same, T.cl, T.lo, (by show 4 < 1000; decide), ?_⟩⟩
    rw [cG5]
    have i8 := s8 _ _ (upd_same (H := upd (upd H5 q3 (.lst [v5])) q4 (.lst (List.replicate n v5))) (a := p) (o := .ins C dx [("class_count", natV n), ("breakage", .ref m), ("feed", .ref q2), ("amounts", .ref q4)]))
    have o9 : Off p _ _ := Off.upd (D := p) (H := H8) (o := .ins C dx [("class_count", natV n), ("breakage", .ref m), ("feed", .ref q2), ("amounts", .ref q4), ("loaded", v8)])
    have hm9 := (hm7.same s8).offI o9 i8
    have hi9 := (hi7.same s8).offI o9 i8
    have fa9 := (fa7.same s8).offI o9 i8
    have fl9 := f8.offI o9 i8
    have oo9 := oo7.trans ((off_of s8).trans o9)
    -- removed
    refine ⟨0, rfl, fun H10 v10 s10 f10 => ⟨_, rfl, p, C, dx, _, rfl, s10 _ _ upd_same, T.cl, T.re, (by show 5 < 1000; decide), ?_⟩⟩
    rw [cG6]
    have i10 := s10 _ _ (upd_same (H := H8) (a := p) (o := .ins C dx [("class_count", natV n), ("breakage", .ref m), ("feed", .ref q2), ("amounts", .ref q4), ("loaded", v8)]))
    have o11 : Off p _ _ := Off.upd (D := p) (H := H10) (o := .ins C dx [("class_count", natV n), ("breakage", .ref m), ("feed", .ref q2), ("amounts", .ref q4), ("loaded", v8), ("removed", v10)])
    have hm11 := (hm9.same s10).offI o11 i10
    have hi11 := (hi9.same s10).offI o11 i10
    have fa11 := (fa9.same s10).offI o11 i10
    have fl11 := (fl9.same s10).offI o11 i10
    have fr11 := f10.offI o11 i10
    have oo11 := oo9.trans ((off_of s10).trans o11)
    -- pass_count
    refine ⟨_, rfl, p, C, dx, _, rfl, upd_same, T.cl, T.pc, (by show 6 < 1000; decide), ?_⟩
    rw [cG7]
    have o12 : Off p _ _ := Off.upd (D := p) (H := upd H10 p (.ins C dx [("class_count", natV n), ("breakage", .ref m), ("feed", .ref q2), ("amounts", .ref q4), ("loaded", v8), ("removed", v10)])) (o := .ins C dx [("class_count", natV n), ("breakage", .ref m), ("feed", .ref q2), ("amounts", .ref q4), ("loaded", v8), ("removed", v10), ("pass_count", .int 0)])
    refine kS hn _ m ⟨dx, q2, q4, v8, v10, ⟨?_, hm11.offI o12 upd_same, hi11.offI o12 upd_same, fa11.offI o12 upd_same, fl11.offI o12 upd_same, fr11.offI o12 upd_same⟩⟩ m0 (oo11.trans o12)
    rw [upd_same, freshC_len]
    rfl
end
end Mill
namespace Mill
open PySem PySem.Spec PyProof.Rows L2

/-! ### the matrix' own list is written -/
theorem head_ne {H : Hp} {m f : Addr} {vs : List V} {B : List (List Nat)} {ns : List Nat} (h1 : H m = some (.lst vs)) (h2 : Al (RowAt H) vs B) (hB : 0 < B.length) (hf : IntsAt H f ns) (hn : 0 < ns.length) : f ≠ m := by
  rintro rfl
  have e := hf.symm.trans h1
  cases h2 with
  | nil => simp at hB
  | cons r _ =>
    cases ns with
    | nil => simp at hn
    | cons n ns =>
      obtain ⟨a, rfl, _⟩ := r
      have e := HO.lst.inj (Option.some.inj e)
      have e := (List.cons.inj e).1
      cases e
theorem frs_ne {H : Hp} {m a : Addr} {vs : List V} {B : List (List Nat)} {qs : List Rat} (h1 : H m = some (.lst vs)) (h2 : Al (RowAt H) vs B) (hB : 0 < B.length) (ha : FrsAt H a qs) : a ≠ m := by
  rintro rfl
  obtain ⟨xs, h3, h4⟩ := ha
  have e := HO.lst.inj (Option.some.inj (h3.symm.trans h1))
  subst e
  cases h2 with
  | nil => simp at hB
  | cons r _ =>
    cases h4 with
    | cons q _ =>
      obtain ⟨x, rfl, hx⟩ := r
      obtain ⟨y, e, hy⟩ := q
      cases e
      have z := hx.symm.trans hy
      cases z
theorem al_mem {α β : Type} {R S : α → β → Prop} {l : List α} {m : List β} (h : Al R l m) (f : ∀ a b, b ∈ m → R a b → S a b) : Al S l m := by
  induction h with
  | nil => exact .nil
  | cons r _ ih => exact .cons (f _ _ List.mem_cons_self r) (ih fun a b hb => f a b (List.mem_cons_of_mem _ hb))
theorem Circ.setRow {C : Addr} {H : Hp} {a bl dx fl al : Addr} {lo re : V} {s : Kp408.Circuit} (c : Circ C H a bl dx fl al lo re s) {k : Nat} (g : Good k s) {i : Nat} {l : Addr} {ns : List Nat} {vs : List V} (hvs : H bl = some (.lst vs)) (hl : IntsAt H l ns) (hn : 0 < ns.length) :
    Circ C (upd H bl (.lst (vs.set i (.ref l)))) a bl dx fl al lo re { s with breakage := s.breakage.set i ns } := by
  obtain ⟨vs', h1, h2⟩ := c.mat
  have ev := HO.lst.inj (Option.some.inj (hvs.symm.trans h1))
  subst ev
  have two := g.two
  have so : Off bl H (upd H bl (.lst (vs.set i (.ref l)))) := Off.upd
  have hB : 0 < s.breakage.length := by omega
  have hfl := g.fl
  refine ⟨?_, ⟨_, upd_same, ?_⟩, so _ _ (head_ne h1 h2 hB c.ft (by omega)) c.ft, ?_, c.ld.off so h1, c.rm.off so h1⟩
  · have e := so _ _ (ne_of c.ob h1 (by intro z; cases z)) c.ob
    rw [e]
    show some (HO.ins C dx (cF s.breakage.length bl fl al lo re s.passes)) = some (HO.ins C dx (cF (s.breakage.set i ns).length bl fl al lo re s.passes))
    rw [List.length_set]
  · have keep : ∀ v row, row ∈ s.breakage → RowAt H v row → RowAt (upd H bl (.lst (vs.set i (.ref l)))) v row := fun v row hrow r => by
      obtain ⟨x, e, hx⟩ := r
      obtain ⟨j, hj⟩ := List.getElem?_of_mem hrow
      have := (g.shape j row hj).1
      exact ⟨x, e, so _ _ (head_ne h1 h2 hB hx (by omega)) hx⟩
    have h3 : Al (RowAt (upd H bl (.lst (vs.set i (.ref l))))) vs s.breakage := al_mem h2 keep
    exact h3.set ⟨l, rfl, so _ _ (head_ne h1 h2 hB hl hn) hl⟩ i
  · obtain ⟨xs, h3, h4⟩ := c.am
    exact ⟨xs, so _ _ (frs_ne h1 h2 hB ⟨xs, h3, h4⟩) h3, h4.mono fun _ _ r => r.off so h1⟩

section
variable {P : Program} {w : World} {K : PySem.W.Frag} {mg : Str → Option Value} {base : Heap} {C : Addr} {e : Errs}
theorem scSetB : FnScope ["self", "size_class", "percentages"] ["self", "size_class", "percentages"] (defScope sSetB) := ⟨rfl, rfl, rfl, by decide +kernel, rfl, by decide +kernel, by decide +kernel⟩
theorem ok_setB {f : Addr} {fd : FuncData} (F : Fun K "set_breakage" "Circuit.set_breakage" sSetB f fd) (b : Binds K fd ["self", "size_class", "percentages"] []) (hm : Meth K C "set_breakage" f) (L : Lib P w K mg base) (Y : Sys P w K mg base C e) :
    MthX P w K mg base C "set_breakage" 2 ["self", "size_class", "percentages"] (spSetB C e) := by
  refine mth_ok F scSetB (fun vs H Q E h => ?_) b hm (fun cdv A outer s H vs Q E hr h => ⟨_, pss_cons (ps_expr (pe_mX (E := E) Y.ckClass (pv 0) Y.T.cl hr (passes_call (takes_of rfl rfl rfl rfl) (fun _ _ _ _ h => h)) (pa_cons (pv 1) pa_nil)))
    (pss_cons (ps_if (PW.pt (pw_or (pt_not (pt_val (pe_def L.isRow hr rfl (pa_cons (pv 2) (pa_cons (pe_op op_add (pv 1) pe_int) pa_nil))))) (pw_or1 (pt_cmpR op_ne (pe_callB (cr_sum rfl) (by rfl) L.nSum boot_sum (pa_cons (pv 2) pa_nil)) pe_int (nomark _)))))
      (pss_one (ps_bad Y.bad rfl (takes_of rfl rfl rfl rfl) rfl)) pss_nil)
    (pss_cons (ps_asg (pe_callTy call_list_of (by rfl) L.nList boot_list (pa_cons (pv 2) pa_nil)) (pg_sub (pe_fld (pv 0) rfl) (pv 1) set_list))
    (pss_one (ps_ret (pe_lst (pa_cons pe_int pa_nil)))))), ?_⟩)
  · obtain ⟨i, l, ns, _, a, bl, s, k, rfl, _⟩ := h
    rfl
  · obtain ⟨i, l, ns, hns, a, bl, s, k, rfl, ⟨dx, fl, al, lo, re, c⟩, g, hk, W⟩ := h
    refine ⟨_, rfl, a, dx, _, rfl, c.ob, cF_none (by decide +kernel), _, rfl, a, dx, _, i, _, rfl, c.ob, cF_cc, fun z => W.bad (code := -2) ?_ (of_ns e) (Same.refl _), fun hi => ?_⟩
    · show (if Kp408.isClass s i = false then _ else _) = _
      rw [if_pos (ic_false z)]
    have e1 : Kp408.step (some s) (.setBreakage i ns) = if Kp408.validBreakage i ns = false then (some s, Kp408.single (-22)) else (some { s with breakage := s.breakage.set i ns }, Kp408.single 0) := by
      show (if Kp408.isClass s i = false then _ else _) = _
      rw [if_neg (fun q => by rw [ic_true hi] at q; cases q)]
    refine ⟨_, rfl, _, rfl, _, _, rfl, rfl, l, ns, i + 1, rfl, hns, Nat.succ_pos i, _, rfl, ite_b (fun z => iteT (W.bad (code := -22) ?_ (of_ba e) (Same.refl _))) (fun z => ⟨_, rfl, l, _, rfl, sq_of hns, rfl, _, rfl, ite_b (fun y => W.bad (code := -22) ?_ (of_ba e) (Same.refl _)) (fun y => ?_)⟩)⟩
    · rw [e1]
      refine if_pos ?_
      rw [Bool.not_eq_true'] at z
      unfold Kp408.validBreakage
      rw [z]
      rfl
    · rw [e1]
      refine if_pos ?_
      rw [isum] at y
      have hs : ¬ ns.sum = 100 := fun q => by
        rw [q] at y
        exact absurd y (by decide)
      unfold Kp408.validBreakage
      rw [show (ns.sum == 100) = false from beq_false_of_ne hs, Bool.and_false]
    · have hv : Kp408.validBreakage i ns = true := by
        rw [Bool.not_eq_false'] at z
        rw [isum, Bool.not_eq_false'] at y
        have hs : ns.sum = 100 := by
          have := V.int.inj (of_decide_eq_true y)
          omega
        unfold Kp408.validBreakage
        rw [z, hs]
        rfl
      have hlen : ns.length = i + 1 := by
        rw [Bool.not_eq_false', Bool.and_eq_true] at z
        exact of_decide_eq_true z.1
      obtain ⟨vs, hvs, hbl⟩ := c.mat
      have hvl := hbl.length
      refine ⟨_, rfl, l, _, rfl, .inl (SqL.of hns), fun p hp => ?_⟩
      have s1 := same_new (o := .lst (ns.map natV)) hp
      have c1 := c.same s1
      refine ⟨_, rfl, a, C, dx, _, _, rfl, c1.ob, Y.T.cl, Y.T.br, cF_br, _, rfl, bl, vs, _, i, rfl, rfl, s1 _ _ hvs, ixN_nat (by omega), one_line, fun p2 hp2 => ?_⟩
      have c2 := c1.setRow g (i := i) (ns := ns) (s1 _ _ hvs) (upd_same (H := H) (a := p) (o := .lst (ns.map natV))) (by omega)
      have s3 := same_new (o := .lst [V.int 0]) hp2
      refine W.ok (s' := { s with breakage := s.breakage.set i ns }) (n := 0) (ns := []) (by rw [e1, if_neg (fun q => by rw [hv] at q; cases q)]; rfl) (Int.le_refl 0) ⟨dx, fl, al, lo, re, c2.same s3⟩ upd_same ((Frame.of s1).trans (Frame.updM.trans (Frame.of s3))) (s1.free (fr_upd hp2))

theorem scGetB : FnScope ["self", "size_class"] ["self", "size_class"] (defScope sGetB) := ⟨rfl, rfl, rfl, by decide +kernel, rfl, by decide +kernel, by decide +kernel⟩
theorem ok_getB {f : Addr} {fd : FuncData} (F : Fun K "get_breakage" "Circuit.get_breakage" sGetB f fd) (b : Binds K fd ["self", "size_class"] []) (hm : Meth K C "get_breakage" f) (L : Lib P w K mg base) (Y : Sys P w K mg base C e) :
    MthX P w K mg base C "get_breakage" 2 ["self", "size_class"] (spM1 C e .getBreakage) := by
  refine mth_ok F scGetB (fun vs H Q E h => ?_) b hm (fun cdv A outer s H vs Q E hr h => ⟨_, pss_cons (ps_expr (pe_mX (E := E) Y.ckClass (pv 0) Y.T.cl hr (passes_call (takes_of rfl rfl rfl rfl) (fun _ _ _ _ h => h)) (pa_cons (pv 1) pa_nil)))
    (pss_one (ps_ret (pe_op op_cat (pe_lst (pa_cons (pe_op op_add (pv 1) pe_int) pa_nil)) (pe_ix (r := rIxL K) ix_list (pe_fld (pv 0) rfl) (pv 1) (fun _ _ => rfl))))), ?_⟩)
  · obtain ⟨i, a, bl, s, k, rfl, _⟩ := h
    rfl
  · obtain ⟨i, a, bl, s, k, rfl, ⟨dx, fl, al, lo, re, c⟩, g, hk, W⟩ := h
    refine ⟨_, rfl, a, dx, _, rfl, c.ob, cF_none (by decide +kernel), _, rfl, a, dx, _, i, _, rfl, c.ob, cF_cc, fun z => W.bad (code := -2) ?_ (of_ns e) (Same.refl _), fun hi => ?_⟩
    · show (some s, if Kp408.isClass s i = true then _ else _) = _
      rw [if_neg (fun q => by rw [ic_false z] at q; cases q)]
    have e1 : Kp408.step (some s) (.getBreakage i) = (some s, ⟨(((s.breakage.getD i []).length : Nat) : Int), (s.breakage.getD i []).map fun (x : Nat) => (x : Int)⟩) := by
      show (some s, if Kp408.isClass s i = true then _ else _) = _
      rw [if_pos (ic_true hi)]
    obtain ⟨vs, hvs, hbl⟩ := c.mat
    obtain ⟨row, hrow⟩ : ∃ row, s.breakage[i]? = some row := ⟨s.breakage[i], by rw [List.getElem?_eq_getElem]⟩
    obtain ⟨v, hv, ra, rfl, hra⟩ := hbl.get hrow
    have hrl := (g.shape i row hrow).1
    have eg : s.breakage.getD i [] = row := by rw [List.getD_eq_getElem?_getD, hrow]; rfl
    rw [eg] at e1
    have h5 := g.five
    refine ⟨_, rfl, _, _, rfl, rfl, one_line, fun p1 hp1 => ?_⟩
    have s1 := same_new (o := .lst [V.int ((i : Int) + 1)]) hp1
    refine ⟨_, rfl, a, C, dx, _, _, rfl, (c.same s1).ob, Y.T.cl, Y.T.br, cF_br, _, rfl, bl, vs, _, .ref ra, rfl, rfl, SqL.of (s1 _ _ hvs), at_of rfl hv, cat_ok upd_same (s1 _ _ hra) (by rw [List.length_map]; show 1 + row.length ≤ 1000; omega) fun p2 hp2 => ?_⟩
    refine W.read ⟨dx, fl, al, lo, re, c⟩ e1 (by omega) (s1.trans (same_new hp2)) ?_ (s1.free hp2)
    rw [upd_same, natV_map, List.map_cons, hrl]
    rfl

theorem scSetF : FnScope ["self", "feed", "old_total"] ["self", "feed"] (defScope sSetF) := ⟨rfl, rfl, rfl, by decide +kernel, rfl, by decide +kernel, by decide +kernel⟩
theorem ok_setF {f : Addr} {fd : FuncData} (F : Fun K "set_feed" "Circuit.set_feed" sSetF f fd) (b : Binds K fd ["self", "feed"] []) (hm : Meth K C "set_feed" f) (L : Lib P w K mg base) (Y : Sys P w K mg base C e) :
    MthX P w K mg base C "set_feed" 2 ["self", "feed"] (spSetF C e) := by
  refine mth_ok F scSetF (fun vs H Q E h => ?_) b hm (fun cdv A outer s H vs Q E hr h => ⟨_, pss_cons (ps_if (pt_not (pt_val (pe_def L.isRow hr rfl (pa_cons (pv 1) (pa_cons (pe_fld (pv 0) rfl) pa_nil))))) (pss_one (ps_bad Y.bad rfl (takes_of rfl rfl rfl rfl) rfl)) pss_nil)
    (pss_cons (ps_set (i := 2) scSetF.nd rfl (.inl rfl) (pe_callB (cr_sum rfl) (by rfl) L.nSum boot_sum (pa_cons (pe_fld (pv 0) rfl) pa_nil)))
    (pss_cons (ps_fld (pv 0) (pe_callTy call_list_of (by rfl) L.nList boot_list (pa_cons (pv 1) pa_nil)) rfl)
    (pss_one (ps_ret (pe_lst (pa_cons (pv 2) pa_nil)))))), ?_⟩)
  · obtain ⟨l, ns, _, a, bl, s, k, rfl, _⟩ := h
    rfl
  · obtain ⟨l, ns, hns, a, bl, s, k, rfl, ⟨dx, fl, al, lo, re, c⟩, g, hk, W⟩ := h
    have two := g.two
    refine ⟨_, rfl, _, rfl, a, C, dx, _, _, rfl, c.ob, Y.T.cl, Y.T.cc, cF_cc, l, ns, s.breakage.length, rfl, hns, by omega, _, rfl, ite_b (fun z => W.bad (code := -22) ?_ (of_ba e) (Same.refl _)) (fun z => ?_)⟩
    · show (if ns.length ≠ Kp408.classCount s ∨ ns.any (fun x => decide (100 < x)) = true then _ else _) = _
      refine if_pos ?_
      rw [Bool.not_eq_true'] at z
      by_cases hl : ns.length = s.breakage.length
      · refine .inr ?_
        rw [decide_eq_true hl, Bool.true_and] at z
        rw [List.any_eq_true]
        refine Classical.byContradiction fun hn => ?_
        have : (ns.all fun x => decide (x ≤ 100)) = true := List.all_eq_true.mpr fun x hx => decide_eq_true (Nat.not_lt.mp fun q => hn ⟨x, hx, decide_eq_true q⟩)
        rw [this] at z
        cases z
      · exact .inl hl
    · rw [Bool.not_eq_false', Bool.and_eq_true] at z
      have hl : ns.length = s.breakage.length := of_decide_eq_true z.1
      have h100 : ∀ x ∈ ns, x ≤ 100 := fun x hx => of_decide_eq_true (List.all_eq_true.mp z.2 x hx)
      have e1 : Kp408.step (some s) (.setFeed ns) = (some { s with feed := ns }, Kp408.single ((s.feed.sum : Nat) : Int)) := by
        show (if ns.length ≠ Kp408.classCount s ∨ ns.any (fun x => decide (100 < x)) = true then _ else _) = _
        refine if_neg ?_
        rintro (h | h)
        · exact h hl
        · obtain ⟨x, hx, h2⟩ := List.any_eq_true.mp h
          have := h100 x hx
          have := of_decide_eq_true h2
          omega
      refine ⟨_, rfl, a, C, dx, _, _, rfl, c.ob, Y.T.cl, Y.T.fe, cF_fe, fl, _, rfl, sq_of c.ft, ?_⟩
      rw [isum]
      refine ⟨_, rfl, l, _, rfl, .inl (SqL.of hns), fun p hp => ?_⟩
      have s1 := same_new (o := .lst (ns.map natV)) hp
      have c1 := c.same s1
      refine ⟨_, rfl, a, C, dx, _, rfl, c1.ob, Y.T.cl, Y.T.fe, (by show 7 < 1000; decide), ?_⟩
      have c2 := c1.put (s' := { s with feed := ns }) (fl' := p) (al' := al) (lo' := lo) (re' := re) (cF_put_fe (n := s.breakage.length) (bl := bl) (fl := fl) (al := al) (lo := lo) (re := re) (p := s.passes) (x := p)) rfl (upd_same (H := H) (a := p) (o := .lst (ns.map natV))) c1.am c1.ld c1.rm
      refine ⟨_, rfl, one_line, fun p2 hp2 => ?_⟩
      have s3 := same_new (o := .lst [V.int ((s.feed.sum : Nat) : Int)]) hp2
      exact W.ok e1 (by omega) ⟨dx, p, al, lo, re, c2.same s3⟩ upd_same ((Frame.of s1).trans (Frame.upd.trans (Frame.of s3))) (s1.free (fr_upd hp2))
end
end Mill
namespace Mill
open PySem PySem.Spec PyProof.Rows L2
section
variable {P : Program} {w : World} {K : PySem.W.Frag} {mg : Str → Option Value} {base : Heap} {C : Addr} {e : Errs}
theorem scLoad : FnScope ["self"] ["self"] (defScope sLoad) := ⟨rfl, rfl, rfl, by decide +kernel, rfl, by decide +kernel, by decide +kernel⟩
theorem ok_load {f : Addr} {fd : FuncData} (F : Fun K "load" "Circuit.load" sLoad f fd) (b : Binds K fd ["self"] []) (hm : Meth K C "load" f) (L : Lib P w K mg base) (Y : Sys P w K mg base C e) :
    MthX P w K mg base C "load" 8 ["self"] (spM C e [] .load) := by
  refine mth_ok F scLoad (fun vs H Q E h => ?_) b hm (fun cdv A outer s H vs Q E hr h => ⟨_, pss_cons (ps_expr (pe_mX (E := E) Y.replace (pv 0) Y.T.cl (hr.mono (by decide)) (passes_call (takes_of rfl rfl rfl rfl) (fun _ _ _ _ h => h))
      (pa_cons (pe_def L.withFeed (hr.mono (by decide)) rfl (pa_cons (pe_fld (pv 0) rfl) (pa_cons (pe_fld (pv 0) rfl) pa_nil))) pa_nil)))
    (pss_cons (ps_fld (pv 0) (pe_def L.plus (hr.mono (by decide)) rfl (pa_cons (pe_fld (pv 0) rfl) (pa_cons (pe_def L.whole (hr.mono (by decide)) rfl (pa_cons (pe_callB (cr_sum rfl) (by rfl) L.nSum boot_sum (pa_cons (pe_fld (pv 0) rfl) pa_nil)) pa_nil)) pa_nil))) rfl)
    (pss_one (ps_ret (pe_def L.written (hr.mono (by decide)) rfl (pa_cons (pe_fld (pv 0) rfl) pa_nil))))), ?_⟩)
  · obtain ⟨a, bl, s, k, rfl, _⟩ := h
    rfl
  · obtain ⟨a, bl, s, k, rfl, ⟨dx, fl, al, lo, re, c⟩, g, hk, W⟩ := h
    have h5 := al5 g
    have hal := g.al
    have hfl := g.fl
    have gl := g.load
    have e1 : Kp408.step (some s) .load = if Kp408.withinLimit (fed s.amounts s.feed) = true then (some { s with amounts := fed s.amounts s.feed, loaded := s.loaded + (Kp408.feedAmounts s).sum }, Kp408.amountsResult (fed s.amounts s.feed)) else (some s, Kp408.single (-75)) := by
      show (if Kp408.withinLimit (Kp408.addAmounts s.amounts (Kp408.feedAmounts s)) = true then _ else _) = _
      rw [fed_spec]
    have hfed : (fed s.amounts s.feed).length = s.amounts.length := fed_len (by omega)
    refine ⟨_, rfl, a, dx, _, rfl, c.ob, cF_none (by decide +kernel), _, rfl, a, C, dx, _, _, rfl, c.ob, Y.T.cl, Y.T.am, cF_am, _, rfl, a, C, dx, _, _, rfl, c.ob, Y.T.cl, Y.T.fe, cF_fe, al, fl, s.amounts, s.feed, 1000, rfl, c.am, c.ft, by omega, by omega, g.fh, bd5 g hk, by omega, fun H1 p s1 f1 => ?_⟩
    have c1 := c.same s1
    refine ⟨a, dx, _, p, _, rfl, c1.ob, (by show 7 < 1000; decide), f1, fun z => W.bad (code := -75) ?_ (of_tl e) s1, fun z => ?_⟩
    · rw [e1, if_neg (fun q => by rw [wl_of, z] at q; cases q)]
    have e2 := e1.trans (if_pos (by rw [wl_of, z]; rfl))
    have c2 := c1.put (s' := { s with amounts := fed s.amounts s.feed }) (fl' := fl) (al' := p) (lo' := lo) (re' := re) (cF_put_am (n := s.breakage.length) (bl := bl) (fl := fl) (al := al) (lo := lo) (re := re) (p := s.passes) (x := p)) rfl c1.ft f1 c1.ld c1.rm
    refine ⟨_, rfl, a, C, dx, _, _, rfl, c2.ob, Y.T.cl, Y.T.lo, cF_lo, _, rfl, a, C, dx, _, _, rfl, c2.ob, Y.T.cl, Y.T.fe, cF_fe, fl, _, rfl, sq_of c2.ft, s.feed.sum, congrArg (fun z => [V.int z]) (isum s.feed), fun H3 v3 s3 f3 => ?_⟩
    have hsum := g.feedSum
    refine ⟨lo, v3, s.loaded, ((s.feed.sum : Nat) : Rat), rfl, c2.ld.same s3, f3, sm_lo g hk, nat_sm (Nat.lt_of_le_of_lt hsum (Nat.lt_of_lt_of_le (by decide : 500 < 2 ^ 9) (pow_le (by decide)))) (by decide), fun H4 v4 s4 f4 => ?_⟩
    have c4 := c2.same (s3.trans s4)
    refine ⟨_, rfl, a, C, dx, _, rfl, c4.ob, Y.T.cl, Y.T.lo, (by show 7 < 1000; decide), ?_⟩
    rw [← feed_sum] at f4
    have c5 := c4.put (s' := { s with amounts := fed s.amounts s.feed, loaded := s.loaded + (Kp408.feedAmounts s).sum }) (fl' := fl) (al' := p) (lo' := v4) (re' := re) (cF_put_lo (n := s.breakage.length) (bl := bl) (fl := fl) (al := p) (lo := lo) (re := re) (p := s.passes) (x := v4)) rfl c4.ft c4.am f4 c4.rm
    refine ⟨_, rfl, a, C, dx, _, _, rfl, c5.ob, Y.T.cl, Y.T.am, cF_am, p, _, rfl, c5.am, (by show (fed s.amounts s.feed).length ≤ 1000; omega), fun H6 p6 s6 n6 h6 => ?_⟩
    exact W.ok e2 (by omega) ⟨dx, fl, p, v4, re, c5.same s6⟩ h6 ((Frame.of s1).trans (Frame.upd.trans ((Frame.of (s3.trans s4)).trans (Frame.upd.trans (Frame.of s6))))) (s1.free (fr_upd (s3.free (s4.free (fr_upd n6)))))

theorem scGrind : FnScope ["self"] ["self"] (defScope sGrind) := ⟨rfl, rfl, rfl, by decide +kernel, rfl, by decide +kernel, by decide +kernel⟩
theorem ok_grind {f : Addr} {fd : FuncData} (F : Fun K "grind" "Circuit.grind" sGrind f fd) (b : Binds K fd ["self"] []) (hm : Meth K C "grind" f) (L : Lib P w K mg base) (Y : Sys P w K mg base C e) :
    MthX P w K mg base C "grind" 8 ["self"] (spM C e [] .grind) := by
  refine mth_ok F scGrind (fun vs H Q E h => ?_) b hm (fun cdv A outer s H vs Q E hr h => ⟨_, pss_cons (ps_expr (pe_mX (E := E) Y.replace (pv 0) Y.T.cl (hr.mono (by decide)) (passes_call (takes_of rfl rfl rfl rfl) (fun _ _ _ _ h => h))
      (pa_cons (pe_def L.pass1 (hr.mono (by decide)) rfl (pa_cons (pe_fld (pv 0) rfl) (pa_cons (pe_fld (pv 0) rfl) pa_nil))) pa_nil)))
    (pss_cons (ps_fld (pv 0) (pe_op op_add (pe_fld (pv 0) rfl) pe_int) rfl)
    (pss_one (ps_ret (pe_def L.written (hr.mono (by decide)) rfl (pa_cons (pe_fld (pv 0) rfl) pa_nil))))), ?_⟩)
  · obtain ⟨a, bl, s, k, rfl, _⟩ := h
    rfl
  · obtain ⟨a, bl, s, k, rfl, ⟨dx, fl, al, lo, re, c⟩, g, hk, W⟩ := h
    have h5 := al5 g
    have hal := g.al
    have e1 : Kp408.step (some s) .grind = if Kp408.withinLimit (pass s.breakage s.amounts) = true then (some { s with amounts := pass s.breakage s.amounts, passes := s.passes + 1 }, Kp408.amountsResult (pass s.breakage s.amounts)) else (some s, Kp408.single (-75)) := by
      show (if Kp408.withinLimit (Kp408.ground s s.amounts) = true then _ else _) = _
      rw [ground_pass g.shape hal]
    have hlen : (pass s.breakage s.amounts).length = s.amounts.length := pass_len _ _
    refine ⟨_, rfl, a, dx, _, rfl, c.ob, cF_none (by decide +kernel), _, rfl, a, C, dx, _, _, rfl, c.ob, Y.T.cl, Y.T.br, cF_br, _, rfl, a, C, dx, _, _, rfl, c.ob, Y.T.cl, Y.T.am, cF_am, bl, al, s.breakage, s.amounts, 1000, rfl, c.ma g hk, by omega, fun H1 p s1 f1 => ?_⟩
    have c1 := c.same s1
    refine ⟨a, dx, _, p, _, rfl, c1.ob, (by show 7 < 1000; decide), f1, fun z => W.bad (code := -75) ?_ (of_tl e) s1, fun z => ?_⟩
    · rw [e1, if_neg (fun q => by rw [wl_of, z] at q; cases q)]
    have e2 := e1.trans (if_pos (by rw [wl_of, z]; rfl))
    have c2 := c1.put (s' := { s with amounts := pass s.breakage s.amounts }) (fl' := fl) (al' := p) (lo' := lo) (re' := re) (cF_put_am (n := s.breakage.length) (bl := bl) (fl := fl) (al := al) (lo := lo) (re := re) (p := s.passes) (x := p)) rfl c1.ft f1 c1.ld c1.rm
    refine ⟨_, rfl, a, C, dx, _, _, rfl, c2.ob, Y.T.cl, Y.T.pc, cF_pc, _, _, rfl, rfl, _, rfl, a, C, dx, _, rfl, c2.ob, Y.T.cl, Y.T.pc, (by show 7 < 1000; decide), ?_⟩
    have c5 := c2.put (s' := { s with amounts := pass s.breakage s.amounts, passes := s.passes + 1 }) (fl' := fl) (al' := p) (lo' := lo) (re' := re) (cF_put_pc (n := s.breakage.length) (bl := bl) (fl := fl) (al := p) (lo := lo) (re := re) (p := s.passes) (x := s.passes + 1)) rfl c2.ft c2.am c2.ld c2.rm
    refine ⟨_, rfl, a, C, dx, _, _, rfl, c5.ob, Y.T.cl, Y.T.am, cF_am, p, _, rfl, c5.am, (by show (pass s.breakage s.amounts).length ≤ 1000; omega), fun H6 p6 s6 n6 h6 => ?_⟩
    exact W.ok e2 (by omega) ⟨dx, fl, p, lo, re, c5.same s6⟩ h6 ((Frame.of s1).trans (Frame.upd.trans (Frame.upd.trans (Frame.of s6)))) (s1.free (fr_upd (fr_upd n6)))

theorem scGetA : FnScope ["self"] ["self"] (defScope sGetA) := ⟨rfl, rfl, rfl, by decide +kernel, rfl, by decide +kernel, by decide +kernel⟩
theorem ok_getA {f : Addr} {fd : FuncData} (F : Fun K "get_amounts" "Circuit.get_amounts" sGetA f fd) (b : Binds K fd ["self"] []) (hm : Meth K C "get_amounts" f) (L : Lib P w K mg base) (Y : Sys P w K mg base C e) :
    MthX P w K mg base C "get_amounts" 8 ["self"] (spM C e [] .getAmounts) := by
  refine mth_ok F scGetA (fun vs H Q E h => ?_) b hm (fun cdv A outer s H vs Q E hr h => ⟨_, pss_one (ps_ret (pe_def L.written (hr.mono (by decide)) rfl (pa_cons (pe_fld (pv 0) rfl) pa_nil))), ?_⟩)
  · obtain ⟨a, bl, s, k, rfl, _⟩ := h
    rfl
  · obtain ⟨a, bl, s, k, rfl, ⟨dx, fl, al, lo, re, c⟩, g, hk, W⟩ := h
    have h5 := al5 g
    refine ⟨_, rfl, a, C, dx, _, _, rfl, c.ob, Y.T.cl, Y.T.am, cF_am, al, _, rfl, c.am, by omega, fun H1 p s1 n1 h1 => ?_⟩
    exact W.read ⟨dx, fl, al, lo, re, c⟩ (n := ((s.amounts.length : Nat) : Int)) (ns := flatL s.amounts) rfl (by omega) s1 h1 n1

theorem scRemove : FnScope ["self", "cut", "taken"] ["self", "cut"] (defScope sRemove) := ⟨rfl, rfl, rfl, by decide +kernel, rfl, by decide +kernel, by decide +kernel⟩
theorem ok_remove {f : Addr} {fd : FuncData} (F : Fun K "remove_finer" "Circuit.remove_finer" sRemove f fd) (b : Binds K fd ["self", "cut"] []) (hm : Meth K C "remove_finer" f) (L : Lib P w K mg base) (Y : Sys P w K mg base C e) :
    MthX P w K mg base C "remove_finer" 8 ["self", "cut"] (spM1 C e .removeFiner) := by
  refine mth_ok F scRemove (fun vs H Q E h => ?_) b hm (fun cdv A outer s H vs Q E hr h => ⟨_, pss_cons (ps_expr (pe_mX (E := E) Y.ckCut (pv 0) Y.T.cl (hr.mono (by decide)) (passes_call (takes_of rfl rfl rfl rfl) (fun _ _ _ _ h => h)) (pa_cons (pv 1) pa_nil)))
    (pss_cons (ps_set (i := 2) scRemove.nd rfl (.inl rfl) (pe_def L.total (hr.mono (by decide)) rfl (pa_cons (pe_def L.under (hr.mono (by decide)) rfl (pa_cons (pe_fld (pv 0) rfl) (pa_cons (pv 1) pa_nil))) pa_nil)))
    (pss_cons (ps_fld (pv 0) (pe_def L.over (hr.mono (by decide)) rfl (pa_cons (pe_fld (pv 0) rfl) (pa_cons (pv 1) pa_nil))) rfl)
    (pss_cons (ps_fld (pv 0) (pe_def L.plus (hr.mono (by decide)) rfl (pa_cons (pe_fld (pv 0) rfl) (pa_cons (pv 2) pa_nil))) rfl)
    (pss_one (ps_ret (pe_op op_cat (pe_lst (pa_cons pe_int pa_nil)) (pe_def L.flat (hr.mono (by decide)) rfl (pa_cons (pe_lst (pa_cons (pv 2) pa_nil)) pa_nil)))))))), ?_⟩)
  · obtain ⟨n, a, bl, s, k, rfl, _⟩ := h
    rfl
  · obtain ⟨cut, a, bl, s, k, rfl, ⟨dx, fl, al, lo, re, c⟩, g, hk, W⟩ := h
    have h5 := al5 g
    have hal := g.al
    refine ⟨_, rfl, a, dx, _, rfl, c.ob, cF_none (by decide +kernel), _, rfl, a, dx, _, cut, _, rfl, c.ob, cF_cc, fun z => W.bad (code := -22) ?_ (of_ba e) (Same.refl _), fun hc => ?_⟩
    · show (if Kp408.validCut s cut = false then _ else _) = _
      rw [if_pos (vc_false z)]
    have e1 : Kp408.step (some s) (.removeFiner cut) = (some { s with amounts := over cut s.amounts, removed := s.removed + (under cut s.amounts).sum }, Kp408.fractionResult (under cut s.amounts).sum) := by
      show (if Kp408.validCut s cut = false then _ else (some { s with amounts := Kp408.oversize cut s.amounts, removed := s.removed + (Kp408.undersize cut s.amounts).sum }, Kp408.fractionResult (Kp408.undersize cut s.amounts).sum)) = _
      rw [if_neg (fun q => by rw [vc_true hc] at q; cases q), over_spec (by omega), under_spec]
    have hbu := (bd5 g hk).under (cut := cut)
    have hul : (under cut s.amounts).length = s.amounts.length := under_len (by omega)
    refine ⟨_, rfl, a, C, dx, _, _, rfl, c.ob, Y.T.cl, Y.T.am, cF_am, _, rfl, al, s.amounts, cut, rfl, c.am, by omega, by omega, fun H1 p1 s1 f1 => ⟨p1, _, 1000, rfl, f1, hbu, by omega, fun H2 v2 s2 f2 => ?_⟩⟩
    have c2 := c.same (s1.trans s2)
    refine ⟨_, rfl, a, C, dx, _, _, rfl, c2.ob, Y.T.cl, Y.T.am, cF_am, _, rfl, al, s.amounts, cut, rfl, c2.am, by omega, by omega, fun H3 p3 s3 f3 => ?_⟩
    have c3 := c2.same s3
    refine ⟨_, rfl, a, C, dx, _, rfl, c3.ob, Y.T.cl, Y.T.am, (by show 7 < 1000; decide), ?_⟩
    have c4 := c3.put (s' := { s with amounts := over cut s.amounts }) (fl' := fl) (al' := p3) (lo' := lo) (re' := re) (cF_put_am (n := s.breakage.length) (bl := bl) (fl := fl) (al := al) (lo := lo) (re := re) (p := s.passes) (x := p3)) rfl c3.ft f3 c3.ld c3.rm
    have f4 := (f2.same s3).offI (Off.upd (o := .ins C dx (putF "amounts" (.ref p3) (cF s.breakage.length bl fl al lo re s.passes)))) c3.ob
    refine ⟨_, rfl, a, C, dx, _, _, rfl, c4.ob, Y.T.cl, Y.T.re, cF_re, _, rfl, re, v2, s.removed, _, rfl, c4.rm, f4, sm_re g hk, (hbu.sum.sm List.mem_cons_self).mono (by omega), fun H5 v5 s5 f5 => ?_⟩
    have c5 := c4.same s5
    refine ⟨_, rfl, a, C, dx, _, rfl, c5.ob, Y.T.cl, Y.T.re, (by show 7 < 1000; decide), ?_⟩
    have c6 := c5.put (s' := { s with amounts := over cut s.amounts, removed := s.removed + (under cut s.amounts).sum }) (fl' := fl) (al' := p3) (lo' := lo) (re' := v5) (cF_put_re (n := s.breakage.length) (bl := bl) (fl := fl) (al := p3) (lo := lo) (re := re) (p := s.passes) (x := v5)) rfl c5.ft c5.am c5.ld f5
    have f6 := (f4.same s5).offI (Off.upd (o := .ins C dx (putF "removed" v5 (cF s.breakage.length bl fl p3 lo re s.passes)))) c5.ob
    refine ⟨one_line, fun p7 hp7 => ⟨_, rfl, one_line, fun p8 hp8 => ?_⟩⟩
    have s7 := same_new (o := .lst [V.int 0]) hp7
    have s8 := same_new (o := .lst [v2]) hp8
    refine ⟨p8, [(under cut s.amounts).sum], rfl, ⟨_, upd_same, .one (f6.same (s7.trans s8))⟩, (by show 1 ≤ 1000; decide), fun H9 p9 s9 h9 => cat_ok (s9 _ _ (s8 _ _ upd_same)) h9 (by show 1 + 2 ≤ 1000; decide) fun p10 hp10 => ?_⟩
    have s10 := same_new (o := .lst ([V.int 0] ++ (flatL [(under cut s.amounts).sum]).map V.int)) hp10
    exact W.ok e1 (Int.le_refl 0) ⟨dx, fl, p3, lo, v5, c6.same (s7.trans (s8.trans (s9.trans s10)))⟩ upd_same ((Frame.of (s1.trans (s2.trans s3))).trans (Frame.upd.trans ((Frame.of s5).trans (Frame.upd.trans (Frame.of (s7.trans (s8.trans (s9.trans s10)))))))) (s1.free (s2.free (s3.free (fr_upd (s5.free (fr_upd (s7.free (s8.free (s9.free hp10)))))))))

theorem scUpTo : FnScope ["self", "size_class"] ["self", "size_class"] (defScope sUpTo) := ⟨rfl, rfl, rfl, by decide +kernel, rfl, by decide +kernel, by decide +kernel⟩
theorem ok_upTo {f : Addr} {fd : FuncData} (F : Fun K "amount_up_to" "Circuit.amount_up_to" sUpTo f fd) (b : Binds K fd ["self", "size_class"] []) (hm : Meth K C "amount_up_to" f) (L : Lib P w K mg base) (Y : Sys P w K mg base C e) :
    MthX P w K mg base C "amount_up_to" 8 ["self", "size_class"] (spM1 C e .amountUpTo) := by
  refine mth_ok F scUpTo (fun vs H Q E h => ?_) b hm (fun cdv A outer s H vs Q E hr h => ⟨_, pss_cons (ps_expr (pe_mX (E := E) Y.ckClass (pv 0) Y.T.cl (hr.mono (by decide)) (passes_call (takes_of rfl rfl rfl rfl) (fun _ _ _ _ h => h)) (pa_cons (pv 1) pa_nil)))
    (pss_one (ps_ret (pe_op op_cat (pe_lst (pa_cons pe_int pa_nil)) (pe_def L.flat (hr.mono (by decide)) rfl (pa_cons (pe_lst (pa_cons (pe_def L.total (hr.mono (by decide)) rfl (pa_cons (pe_slice (r := rSlL K) sl_list (pe_fld (pv 0) rfl) po_none (po_some (pe_op op_add (pv 1) pe_int))) pa_nil)) pa_nil)) pa_nil))))), ?_⟩)
  · obtain ⟨n, a, bl, s, k, rfl, _⟩ := h
    rfl
  · obtain ⟨i, a, bl, s, k, rfl, ⟨dx, fl, al, lo, re, c⟩, g, hk, W⟩ := h
    have h5 := al5 g
    have hal := g.al
    refine ⟨_, rfl, a, dx, _, rfl, c.ob, cF_none (by decide +kernel), _, rfl, a, dx, _, i, _, rfl, c.ob, cF_cc, fun z => W.bad (code := -2) ?_ (of_ns e) (Same.refl _), fun hi => ?_⟩
    · show (some s, if Kp408.isClass s i = true then _ else _) = _
      rw [if_neg (fun q => by rw [ic_false z] at q; cases q)]
    have e1 : Kp408.step (some s) (.amountUpTo i) = (some s, Kp408.fractionResult (s.amounts.take (i + 1)).sum) := by
      show (some s, if Kp408.isClass s i = true then _ else _) = _
      rw [if_pos (ic_true hi)]
      rfl
    obtain ⟨xs, hx, hxa⟩ := c.am
    have hxl := hxa.length
    refine ⟨one_line, fun p1 hp1 => ?_⟩
    have s1 := same_new (o := .lst [V.int 0]) hp1
    have c1 := c.same s1
    refine ⟨_, rfl, a, C, dx, _, _, rfl, c1.ob, Y.T.cl, Y.T.am, cF_am, _, rfl, _, _, rfl, rfl, ((i + 1 : Nat) : Int), rfl, al, xs, rfl, SqL.of (s1 _ _ hx), fun p2 hp2 => ?_⟩
    rw [cut_to (xs := xs) (cut := i + 1) (by omega)]
    have s2 := same_new (o := .lst (xs.take (i + 1))) hp2
    have hb : Bd 1000 (s.amounts.take (i + 1)) := (bd5 g hk).sub fun p hp => List.mem_of_mem_take hp
    refine ⟨p2, s.amounts.take (i + 1), 1000, rfl, ⟨_, upd_same, (hxa.mono fun _ _ r => r.same (s1.trans s2)).take (i + 1)⟩, hb, by rw [List.length_take]; omega, fun H3 v3 s3 f3 => ⟨one_line, fun p4 hp4 => ?_⟩⟩
    have s4 := same_new (o := .lst [v3]) hp4
    refine ⟨p4, [(s.amounts.take (i + 1)).sum], rfl, ⟨_, upd_same, .one (f3.same s4)⟩, (by show 1 ≤ 1000; decide), fun H5 p5 s5 h5' => cat_ok ((s2.trans (s3.trans (s4.trans s5))) _ _ upd_same) h5' (by show 1 + 2 ≤ 1000; decide) fun p6 hp6 => ?_⟩
    exact W.read ⟨dx, fl, al, lo, re, c⟩ e1 (Int.le_refl 0) (s1.trans (s2.trans (s3.trans (s4.trans (s5.trans (same_new hp6)))))) upd_same (s1.free (s2.free (s3.free (s4.free (s5.free hp6)))))

theorem scPreview : FnScope ["self", "passes"] ["self", "passes"] (defScope sPreview) := ⟨rfl, rfl, rfl, by decide +kernel, rfl, by decide +kernel, by decide +kernel⟩
theorem ok_preview {f : Addr} {fd : FuncData} (F : Fun K "preview_grind" "Circuit.preview_grind" sPreview f fd) (b : Binds K fd ["self", "passes"] []) (hm : Meth K C "preview_grind" f) (L : Lib P w K mg base) (Y : Sys P w K mg base C e) :
    MthX P w K mg base C "preview_grind" 8 ["self", "passes"] (spM1 C e .previewGrind) := by
  refine mth_ok F scPreview (fun vs H Q E h => ?_) b hm (fun cdv A outer s H vs Q E hr h => ⟨_, pss_cons (ps_if (pt_cmpR op_gt (pv 1) pe_int (nomark _)) (pss_one (ps_bad Y.bad rfl (takes_of rfl rfl rfl rfl) rfl)) pss_nil)
    (pss_one (ps_ret (pe_def L.written (hr.mono (by decide)) rfl (pa_cons (pe_def L.passN hr rfl (pa_cons (pe_fld (pv 0) rfl) (pa_cons (pe_fld (pv 0) rfl) (pa_cons (pv 1) pa_nil)))) pa_nil)))), ?_⟩)
  · obtain ⟨n, a, bl, s, k, rfl, _⟩ := h
    rfl
  · obtain ⟨n, a, bl, s, k, rfl, ⟨dx, fl, al, lo, re, c⟩, g, hk, W⟩ := h
    have h5 := al5 g
    have hal := g.al
    refine ⟨_, rfl, _, _, rfl, rfl, _, rfl, ite_b (fun z => W.bad (code := -22) ?_ (of_ba e) (Same.refl _)) (fun z => ?_)⟩
    · show (some s, if 12 < n then _ else _) = _
      rw [if_pos (by have := of_decide_eq_true z; omega)]
    · have hn : n ≤ 12 := by
        have := of_decide_eq_false z
        omega
      have e1 : Kp408.step (some s) (.previewGrind n) = (some s, Kp408.amountsResult (passes s.breakage n s.amounts)) := by
        show (some s, if 12 < n then _ else _) = _
        rw [if_neg (by omega), groundTimes_passes g.shape n _ hal]
      refine ⟨_, rfl, a, C, dx, _, _, rfl, c.ob, Y.T.cl, Y.T.br, cF_br, _, rfl, a, C, dx, _, _, rfl, c.ob, Y.T.cl, Y.T.am, cF_am, _, rfl, bl, al, s.breakage, s.amounts, 1000, n, rfl, c.ma g hk, hn, by omega, fun H1 p1 s1 f1 => ?_⟩
      refine ⟨p1, _, rfl, f1, by rw [passes_len]; omega, fun H2 p2 s2 n2 h2 => ?_⟩
      exact W.read ⟨dx, fl, al, lo, re, c⟩ e1 (by omega) (s1.trans s2) h2 (s1.free n2)
end
end Mill
namespace Mill
open PySem PySem.Spec PyProof.Rows L2
abbrev sHasSt : Stmt := inClass (top 32) 14
abbrev sStIn : Stmt := inClass (top 32) 15
abbrev sStPr : Stmt := inClass (top 32) 16
abbrev sStLo : Stmt := inClass (top 32) 17
abbrev sRatio : Stmt := inClass (top 32) 18
abbrev sSimul : Stmt := inClass (top 32) 19
abbrev sTotals : Stmt := inClass (top 32) 20
abbrev sGetF : Stmt := inClass (top 32) 23
theorem st_ba {s : Kp408.Circuit} {c : Nat} {f : Unit → Kp408.Ans} (h : ¬ (1 ≤ c ∧ c < s.breakage.length)) : Kp408.steadyResult s c f = Kp408.single (-22) := if_pos (vc_false h)
theorem st_nv {s : Kp408.Circuit} {c : Nat} {f : Unit → Kp408.Ans} (h : 1 ≤ c ∧ c < s.breakage.length) (z : isSteady s.breakage c = false) : Kp408.steadyResult s c f = Kp408.single (-33) :=
  (if_neg (fun q => by rw [vc_true h] at q; cases q)).trans (if_pos (by rw [isSteady_spec]; exact z))
theorem st_ok {s : Kp408.Circuit} {c : Nat} {f : Unit → Kp408.Ans} (h : 1 ≤ c ∧ c < s.breakage.length) (z : isSteady s.breakage c = true) : Kp408.steadyResult s c f = f () :=
  (if_neg (fun q => by rw [vc_true h] at q; cases q)).trans (if_neg (fun q => by rw [isSteady_spec, z] at q; cases q))
theorem st_in {k : Nat} {s : Kp408.Circuit} (g : Good k s) {c : Nat} (h : 1 ≤ c ∧ c < s.breakage.length) (z : isSteady s.breakage c = true) : Kp408.steadyInput s c = steady s.breakage s.feed c := steady_is g.fl (isSteady_all z) (Nat.le_of_lt h.2)
theorem st_bd {k : Nat} {s : Kp408.Circuit} (g : Good k s) {c : Nat} (z : isSteady s.breakage c = true) : Bd 200 (steady s.breakage s.feed c) := by
  have h1 := g.fl
  have h2 := g.five
  exact steady_bd g.shape g.fh (by omega) (fun j a b => isSteady_all z j a (by omega))
theorem st_len (s : Kp408.Circuit) (c : Nat) : (steady s.breakage s.feed c).length = s.feed.length := steady_len _ _ _
section
variable {P : Program} {w : World} {K : PySem.W.Frag} {mg : Str → Option Value} {base : Heap} {C : Addr} {e : Errs}
theorem scHasSt : FnScope ["self", "cut"] ["self", "cut"] (defScope sHasSt) := ⟨rfl, rfl, rfl, by decide +kernel, rfl, by decide +kernel, by decide +kernel⟩
theorem ok_hasSt {f : Addr} {fd : FuncData} (F : Fun K "has_steady_state" "Circuit.has_steady_state" sHasSt f fd) (b : Binds K fd ["self", "cut"] []) (hm : Meth K C "has_steady_state" f) (L : Lib P w K mg base) (Y : Sys P w K mg base C e) :
    MthX P w K mg base C "has_steady_state" 8 ["self", "cut"] (spM1 C e .hasSteadyState) := by
  refine mth_ok F scHasSt (fun vs H Q E h => ?_) b hm (fun cdv A outer s H vs Q E hr h => ⟨_, pss_cons (ps_expr (pe_mX (E := E) Y.ckCut (pv 0) Y.T.cl (hr.mono (by decide)) (passes_call (takes_of rfl rfl rfl rfl) (fun _ _ _ _ h => h)) (pa_cons (pv 1) pa_nil)))
    (pss_one (ps_ret (pe_lst (pa_cons (pe_ifExp (pt_val (pe_def L.isSteady (hr.mono (by decide)) rfl (pa_cons (pe_fld (pv 0) rfl) (pa_cons (pv 1) pa_nil)))) pe_int pe_int) pa_nil)))), ?_⟩)
  · obtain ⟨n, a, bl, s, k, rfl, _⟩ := h
    rfl
  · obtain ⟨cut, a, bl, s, k, rfl, ⟨dx, fl, al, lo, re, c⟩, g, hk, W⟩ := h
    have h5 := g.five
    refine ⟨_, rfl, a, dx, _, rfl, c.ob, cF_none (by decide +kernel), _, rfl, a, dx, _, cut, _, rfl, c.ob, cF_cc, fun z => W.bad (code := -22) ?_ (of_ba e) (Same.refl _), fun hc => ?_⟩
    · show (some s, if Kp408.validCut s cut = true then _ else _) = _
      rw [if_neg (fun q => by rw [vc_false z] at q; cases q)]
    have e1 : Kp408.step (some s) (.hasSteadyState cut) = (some s, Kp408.boolResult (isSteady s.breakage cut)) := by
      show (some s, if Kp408.validCut s cut = true then _ else _) = _
      rw [if_pos (vc_true hc), isSteady_spec]
    refine ⟨_, rfl, a, C, dx, _, _, rfl, c.ob, Y.T.cl, Y.T.br, cF_br, _, rfl, bl, s.breakage, cut, rfl, c.mat, g.shape, h5, by omega, fun H1 s1 => ⟨_, rfl, ite_b (fun z => ⟨one_line, fun p hp => ?_⟩) (fun z => ⟨one_line, fun p hp => ?_⟩)⟩⟩
    · rw [z] at e1
      exact W.read ⟨dx, fl, al, lo, re, c⟩ (n := 1) (ns := []) e1 (by decide) (s1.trans (same_new hp)) upd_same (s1.free hp)
    · rw [z] at e1
      exact W.read ⟨dx, fl, al, lo, re, c⟩ (n := 0) (ns := []) e1 (by decide) (s1.trans (same_new hp)) upd_same (s1.free hp)

theorem scStIn : FnScope ["self", "cut"] ["self", "cut"] (defScope sStIn) := ⟨rfl, rfl, rfl, by decide +kernel, rfl, by decide +kernel, by decide +kernel⟩
theorem ok_stIn {f : Addr} {fd : FuncData} (F : Fun K "steady_input" "Circuit.steady_input" sStIn f fd) (b : Binds K fd ["self", "cut"] []) (hm : Meth K C "steady_input" f) (L : Lib P w K mg base) (Y : Sys P w K mg base C e) :
    MthX P w K mg base C "steady_input" 8 ["self", "cut"] (spM1 C e .steadyInput) := by
  refine mth_ok F scStIn (fun vs H Q E h => ?_) b hm (fun cdv A outer s H vs Q E hr h => ⟨_, pss_one (ps_ret (pe_def L.written (hr.mono (by decide)) rfl (pa_cons (pe_mX (E := E) Y.ckSteady (pv 0) Y.T.cl hr (passes_call (takes_of rfl rfl rfl rfl) (fun _ _ _ _ h => h)) (pa_cons (pv 1) pa_nil)) pa_nil))), ?_⟩)
  · obtain ⟨n, a, bl, s, k, rfl, _⟩ := h
    rfl
  · obtain ⟨cut, a, bl, s, k, rfl, ⟨dx, fl, al, lo, re, c⟩, g, hk, W⟩ := h
    have h5 := g.five
    have hfl := g.fl
    have e0 : Kp408.step (some s) (.steadyInput cut) = (some s, Kp408.steadyResult s cut fun _ => Kp408.amountsResult (Kp408.steadyInput s cut)) := rfl
    refine ⟨_, rfl, a, dx, _, rfl, c.ob, cF_none (by decide +kernel), _, rfl, a, bl, s, k, cut, rfl, ⟨dx, fl, al, lo, re, c⟩, g, fun z => W.bad (code := -22) (by rw [e0, st_ba z]) (of_ba e) (Same.refl _), fun hc z H1 s1 => W.bad (code := -33) (by rw [e0, st_nv hc z]) (of_nv e) s1, fun hc z H1 p1 s1 f1 => ?_⟩
    have hl := st_len s cut
    rw [st_ok hc z, st_in g hc z] at e0
    refine ⟨p1, _, rfl, f1, by omega, fun H2 p2 s2 n2 h2 => ?_⟩
    exact W.read ⟨dx, fl, al, lo, re, c⟩ e0 (by omega) (s1.trans s2) h2 (s1.free n2)

theorem scStPr : FnScope ["self", "cut", "ground"] ["self", "cut"] (defScope sStPr) := ⟨rfl, rfl, rfl, by decide +kernel, rfl, by decide +kernel, by decide +kernel⟩
theorem ok_stPr {f : Addr} {fd : FuncData} (F : Fun K "steady_product" "Circuit.steady_product" sStPr f fd) (b : Binds K fd ["self", "cut"] []) (hm : Meth K C "steady_product" f) (L : Lib P w K mg base) (Y : Sys P w K mg base C e) :
    MthX P w K mg base C "steady_product" 8 ["self", "cut"] (spM1 C e .steadyProduct) := by
  refine mth_ok F scStPr (fun vs H Q E h => ?_) b hm (fun cdv A outer s H vs Q E hr h => ⟨_, pss_cons (ps_set (i := 2) scStPr.nd rfl (.inl rfl) (pe_def L.pass1 (hr.mono (by decide)) rfl (pa_cons (pe_fld (pv 0) rfl) (pa_cons (pe_mX (E := E) Y.ckSteady (pv 0) Y.T.cl hr (passes_call (takes_of rfl rfl rfl rfl) (fun _ _ _ _ h => h)) (pa_cons (pv 1) pa_nil)) pa_nil))))
    (pss_one (ps_ret (pe_def L.written (hr.mono (by decide)) rfl (pa_cons (pe_def L.under (hr.mono (by decide)) rfl (pa_cons (pv 2) (pa_cons (pv 1) pa_nil))) pa_nil)))), ?_⟩)
  · obtain ⟨n, a, bl, s, k, rfl, _⟩ := h
    rfl
  · obtain ⟨cut, a, bl, s, k, rfl, ⟨dx, fl, al, lo, re, c⟩, g, hk, W⟩ := h
    have h5 := g.five
    have hfl := g.fl
    have e0 : Kp408.step (some s) (.steadyProduct cut) = (some s, Kp408.steadyResult s cut fun _ => Kp408.amountsResult (Kp408.steadyProduct s cut)) := rfl
    refine ⟨_, rfl, a, C, dx, _, _, rfl, c.ob, Y.T.cl, Y.T.br, cF_br, _, rfl, a, dx, _, rfl, c.ob, cF_none (by decide +kernel), _, rfl, a, bl, s, k, cut, rfl, ⟨dx, fl, al, lo, re, c⟩, g, fun z => W.bad (code := -22) (by rw [e0, st_ba z]) (of_ba e) (Same.refl _), fun hc z H1 s1 => W.bad (code := -33) (by rw [e0, st_nv hc z]) (of_nv e) s1, fun hc z H1 p1 s1 f1 => ?_⟩
    have hl := st_len s cut
    have ep : Kp408.steadyProduct s cut = under cut (pass s.breakage (steady s.breakage s.feed cut)) := by
      unfold Kp408.steadyProduct
      rw [st_in g hc z, ground_pass g.shape (by omega), under_spec]
    rw [st_ok hc z, ep] at e0
    have hpl : (pass s.breakage (steady s.breakage s.feed cut)).length = s.feed.length := by rw [pass_len, hl]
    refine ⟨bl, p1, s.breakage, _, 200, rfl, ⟨(c.same s1).mat, f1, g.shape, by omega, by omega, st_bd g z⟩, by omega, fun H2 p2 s2 f2 => ?_⟩
    refine ⟨_, rfl, _, rfl, p2, _, cut, rfl, f2, by omega, by omega, fun H3 p3 s3 f3 => ?_⟩
    have hul : (under cut (pass s.breakage (steady s.breakage s.feed cut))).length = s.feed.length := by rw [under_len (by omega), hpl]
    refine ⟨p3, _, rfl, f3, by omega, fun H4 p4 s4 n4 h4 => ?_⟩
    exact W.read ⟨dx, fl, al, lo, re, c⟩ e0 (by omega) (s1.trans (s2.trans (s3.trans s4))) h4 (s1.free (s2.free (s3.free n4)))

theorem scStLo : FnScope ["self", "cut"] ["self", "cut"] (defScope sStLo) := ⟨rfl, rfl, rfl, by decide +kernel, rfl, by decide +kernel, by decide +kernel⟩
theorem ok_stLo {f : Addr} {fd : FuncData} (F : Fun K "steady_load" "Circuit.steady_load" sStLo f fd) (b : Binds K fd ["self", "cut"] []) (hm : Meth K C "steady_load" f) (L : Lib P w K mg base) (Y : Sys P w K mg base C e) :
    MthX P w K mg base C "steady_load" 8 ["self", "cut"] (spM1 C e .steadyLoad) := by
  refine mth_ok F scStLo (fun vs H Q E h => ?_) b hm (fun cdv A outer s H vs Q E hr h => ⟨_, pss_one (ps_ret (pe_op op_cat (pe_lst (pa_cons pe_int pa_nil)) (pe_def L.flat (hr.mono (by decide)) rfl (pa_cons (pe_lst (pa_cons (pe_def L.total (hr.mono (by decide)) rfl
      (pa_cons (pe_mX (E := E) Y.ckSteady (pv 0) Y.T.cl hr (passes_call (takes_of rfl rfl rfl rfl) (fun _ _ _ _ h => h)) (pa_cons (pv 1) pa_nil)) pa_nil)) pa_nil)) pa_nil)))), ?_⟩)
  · obtain ⟨n, a, bl, s, k, rfl, _⟩ := h
    rfl
  · obtain ⟨cut, a, bl, s, k, rfl, ⟨dx, fl, al, lo, re, c⟩, g, hk, W⟩ := h
    have h5 := g.five
    have hfl := g.fl
    have e0 : Kp408.step (some s) (.steadyLoad cut) = (some s, Kp408.steadyResult s cut fun _ => Kp408.fractionResult (Kp408.steadyInput s cut).sum) := rfl
    refine ⟨one_line, fun p0 hp0 => ?_⟩
    have s0 := same_new (o := .lst [V.int 0]) hp0
    have c0 := c.same s0
    refine ⟨_, rfl, a, dx, _, rfl, c0.ob, cF_none (by decide +kernel), _, rfl, a, bl, s, k, cut, rfl, ⟨dx, fl, al, lo, re, c0⟩, g, fun z => W.bad (code := -22) (by rw [e0, st_ba z]) (of_ba e) s0, fun hc z H1 s1 => W.bad (code := -33) (by rw [e0, st_nv hc z]) (of_nv e) (s0.trans s1), fun hc z H1 p1 s1 f1 => ?_⟩
    have hl := st_len s cut
    rw [st_ok hc z, st_in g hc z] at e0
    refine ⟨p1, _, 200, rfl, f1, st_bd g z, by omega, fun H2 v2 s2 f2 => ⟨one_line, fun p3 hp3 => ?_⟩⟩
    have s3 := same_new (o := .lst [v2]) hp3
    refine ⟨p3, [(steady s.breakage s.feed cut).sum], rfl, ⟨_, upd_same, .one (f2.same s3)⟩, (by show 1 ≤ 1000; decide), fun H4 p4 s4 h4 => cat_ok ((s1.trans (s2.trans (s3.trans s4))) _ _ upd_same) h4 (by show 1 + 2 ≤ 1000; decide) fun p5 hp5 => ?_⟩
    exact W.read ⟨dx, fl, al, lo, re, c⟩ e0 (Int.le_refl 0) (s0.trans (s1.trans (s2.trans (s3.trans (s4.trans (same_new hp5)))))) upd_same (s0.free (s1.free (s2.free (s3.free (s4.free hp5)))))

theorem scRatio : FnScope ["self", "cut", "carried", "fed"] ["self", "cut"] (defScope sRatio) := ⟨rfl, rfl, rfl, by decide +kernel, rfl, by decide +kernel, by decide +kernel⟩
theorem ok_ratio {f : Addr} {fd : FuncData} (F : Fun K "load_ratio" "Circuit.load_ratio" sRatio f fd) (b : Binds K fd ["self", "cut"] []) (hm : Meth K C "load_ratio" f) (L : Lib P w K mg base) (Y : Sys P w K mg base C e) :
    MthX P w K mg base C "load_ratio" 8 ["self", "cut"] (spM1 C e .loadRatio) := by
  refine mth_ok F scRatio (fun vs H Q E h => ?_) b hm (fun cdv A outer s H vs Q E hr h => ⟨_, pss_cons (ps_set (i := 2) scRatio.nd rfl (.inl rfl) (pe_def L.total (hr.mono (by decide)) rfl (pa_cons (pe_mX (E := E) Y.ckSteady (pv 0) Y.T.cl hr (passes_call (takes_of rfl rfl rfl rfl) (fun _ _ _ _ h => h)) (pa_cons (pv 1) pa_nil)) pa_nil)))
    (pss_cons (ps_set (i := 3) scRatio.nd rfl (.inl rfl) (pe_callB (cr_sum rfl) (by rfl) L.nSum boot_sum (pa_cons (pe_fld (pv 0) rfl) pa_nil)))
    (pss_cons (ps_if (pt_cmpR op_eq (pv 3) pe_int (nomark _)) (pss_one (ps_bad Y.none rfl (takes_of rfl rfl rfl rfl) rfl)) pss_nil)
    (pss_one (ps_ret (pe_op op_cat (pe_lst (pa_cons pe_int pa_nil)) (pe_def L.flat (hr.mono (by decide)) rfl (pa_cons (pe_lst (pa_cons (pe_def L.scaled (hr.mono (by decide)) rfl (pa_cons (pv 2) (pa_cons pe_int (pa_cons (pv 3) pa_nil)))) pa_nil)) pa_nil))))))), ?_⟩)
  · obtain ⟨n, a, bl, s, k, rfl, _⟩ := h
    rfl
  · obtain ⟨cut, a, bl, s, k, rfl, ⟨dx, fl, al, lo, re, c⟩, g, hk, W⟩ := h
    have h5 := g.five
    have hfl := g.fl
    have e0 : Kp408.step (some s) (.loadRatio cut) = (some s, Kp408.steadyResult s cut fun _ => if s.feed.sum = 0 then Kp408.single (-6) else Kp408.fractionResult ((Kp408.steadyInput s cut).sum / ((s.feed.sum : Nat) : Rat))) := rfl
    refine ⟨_, rfl, a, dx, _, rfl, c.ob, cF_none (by decide +kernel), _, rfl, a, bl, s, k, cut, rfl, ⟨dx, fl, al, lo, re, c⟩, g, fun z => W.bad (code := -22) (by rw [e0, st_ba z]) (of_ba e) (Same.refl _), fun hc z H1 s1 => W.bad (code := -33) (by rw [e0, st_nv hc z]) (of_nv e) s1, fun hc z H1 p1 s1 f1 => ?_⟩
    have hl := st_len s cut
    rw [st_ok hc z, st_in g hc z] at e0
    refine ⟨p1, _, 200, rfl, f1, st_bd g z, by omega, fun H2 v2 s2 f2 => ?_⟩
    have s12 := s1.trans s2
    have c2 := c.same s12
    refine ⟨_, rfl, a, C, dx, _, _, rfl, c2.ob, Y.T.cl, Y.T.fe, cF_fe, fl, _, rfl, sq_of c2.ft, ?_⟩
    rw [isum]
    refine ⟨_, rfl, rfl, _, rfl, ite_b (fun y => W.bad (code := -6) ?_ (of_nt e) s12) (fun y => ⟨one_line, fun p3 hp3 => ?_⟩)⟩
    · have y := V.int.inj (of_decide_eq_true y)
      rw [e0, if_pos (by omega)]
    · have hne : ¬ s.feed.sum = 0 := fun q => by
        rw [q] at y
        exact absurd y (by decide)
      rw [if_neg hne] at e0
      have hsum := g.feedSum
      have s3 := same_new (o := .lst [V.int 0]) hp3
      refine ⟨_, rfl, _, rfl, v2, _, 1, s.feed.sum, rfl, f2.same s3, ((st_bd g z).sum.sm List.mem_cons_self).mono (by omega), Nat.one_lt_two_pow (by decide), by omega, Nat.lt_of_le_of_lt hsum (Nat.lt_of_lt_of_le (by decide : 500 < 2 ^ 9) (pow_le (by decide))), fun H4 v4 s4 f4 => ⟨one_line, fun p5 hp5 => ?_⟩⟩
      have s5 := same_new (o := .lst [v4]) hp5
      have eq : (steady s.breakage s.feed cut).sum * ((1 : Nat) : Rat) / ((s.feed.sum : Nat) : Rat) = (steady s.breakage s.feed cut).sum / ((s.feed.sum : Nat) : Rat) := by
        have h1 : ((1 : Nat) : Rat) = 1 := rfl
        rw [h1, Rat.mul_one]
      rw [eq] at f4
      refine ⟨p5, [(steady s.breakage s.feed cut).sum / ((s.feed.sum : Nat) : Rat)], rfl, ⟨_, upd_same, .one (f4.same s5)⟩, (by show 1 ≤ 1000; decide), fun H6 p6 s6 h6 => cat_ok ((s4.trans (s5.trans s6)) _ _ upd_same) h6 (by show 1 + 2 ≤ 1000; decide) fun p7 hp7 => ?_⟩
      exact W.read ⟨dx, fl, al, lo, re, c⟩ e0 (Int.le_refl 0) (s12.trans (s3.trans (s4.trans (s5.trans (s6.trans (same_new hp7)))))) upd_same (s12.free (s3.free (s4.free (s5.free (s6.free hp7)))))

theorem scSimul : FnScope ["self", "cut", "rounds"] ["self", "cut", "rounds"] (defScope sSimul) := ⟨rfl, rfl, rfl, by decide +kernel, rfl, by decide +kernel, by decide +kernel⟩
theorem ok_simul {f : Addr} {fd : FuncData} (F : Fun K "simulate_rounds" "Circuit.simulate_rounds" sSimul f fd) (b : Binds K fd ["self", "cut", "rounds"] []) (hm : Meth K C "simulate_rounds" f) (L : Lib P w K mg base) (Y : Sys P w K mg base C e) :
    MthX P w K mg base C "simulate_rounds" 8 ["self", "cut", "rounds"] (spM2 C e .simulateRounds) := by
  refine mth_ok F scSimul (fun vs H Q E h => ?_) b hm (fun cdv A outer s H vs Q E hr h => ⟨_, pss_cons (ps_expr (pe_mX (E := E) Y.ckCut (pv 0) Y.T.cl (hr.mono (by decide)) (passes_call (takes_of rfl rfl rfl rfl) (fun _ _ _ _ h => h)) (pa_cons (pv 1) pa_nil)))
    (pss_cons (ps_if (pt_cmpR op_gt (pv 2) pe_int (nomark _)) (pss_one (ps_bad Y.bad rfl (takes_of rfl rfl rfl rfl) rfl)) pss_nil)
    (pss_one (ps_ret (pe_op op_cat (pe_lst (pa_cons pe_int pa_nil)) (pe_def L.flat (hr.mono (by decide)) rfl (pa_cons (pe_def L.rounds hr rfl (pa_cons (pe_fld (pv 0) rfl) (pa_cons (pe_fld (pv 0) rfl) (pa_cons (pv 1) (pa_cons (pv 2) pa_nil))))) pa_nil)))))), ?_⟩)
  · obtain ⟨n, m, a, bl, s, k, rfl, _⟩ := h
    rfl
  · obtain ⟨cut, n, a, bl, s, k, rfl, ⟨dx, fl, al, lo, re, c⟩, g, hk, W⟩ := h
    have e0 : Kp408.step (some s) (.simulateRounds cut n) = (some s, if Kp408.validCut s cut = false ∨ 12 < n then Kp408.single (-22) else ⟨0, Kp408.fraction (Kp408.runRounds s cut n (Kp408.noMaterial s) 0).1.sum ++ Kp408.fraction (Kp408.runRounds s cut n (Kp408.noMaterial s) 0).2⟩) := rfl
    refine ⟨_, rfl, a, dx, _, rfl, c.ob, cF_none (by decide +kernel), _, rfl, a, dx, _, cut, _, rfl, c.ob, cF_cc, fun z => W.bad (code := -22) (by rw [e0, if_pos (.inl (vc_false z))]) (of_ba e) (Same.refl _), fun hc => ?_⟩
    refine ⟨_, rfl, _, _, rfl, rfl, _, rfl, ite_b (fun z => W.bad (code := -22) (by rw [e0, if_pos (.inr (by have := of_decide_eq_true z; omega))]) (of_ba e) (Same.refl _)) (fun z => ⟨one_line, fun p1 hp1 => ?_⟩)⟩
    have hn : n ≤ 12 := by
      have := of_decide_eq_false z
      omega
    rw [if_neg (by rintro (q | q); rw [vc_true hc] at q; cases q; omega), runRounds_is g.shape g.fl (Nat.le_of_lt hc.2)] at e0
    have s1 := same_new (o := .lst [V.int 0]) hp1
    have c1 := c.same s1
    refine ⟨_, rfl, a, C, dx, _, _, rfl, c1.ob, Y.T.cl, Y.T.br, cF_br, _, rfl, a, C, dx, _, _, rfl, c1.ob, Y.T.cl, Y.T.fe, cF_fe, _, rfl, _, rfl, bl, fl, s.breakage, s.feed, cut, n, rfl, c1.mf g, by omega, hn, fun H2 p2 s2 f2 => ?_⟩
    refine ⟨p2, _, rfl, f2, (by show 2 ≤ 1000; decide), fun H3 p3 s3 h3 => cat_ok ((s2.trans s3) _ _ upd_same) h3 (by show 1 + 4 ≤ 1000; decide) fun p4 hp4 => ?_⟩
    exact W.read ⟨dx, fl, al, lo, re, c⟩ e0 (Int.le_refl 0) (s1.trans (s2.trans (s3.trans (same_new hp4)))) upd_same (s1.free (s2.free (s3.free hp4)))

theorem scTotals : FnScope ["self"] ["self"] (defScope sTotals) := ⟨rfl, rfl, rfl, by decide +kernel, rfl, by decide +kernel, by decide +kernel⟩
theorem ok_totals {f : Addr} {fd : FuncData} (F : Fun K "totals" "Circuit.totals" sTotals f fd) (b : Binds K fd ["self"] []) (hm : Meth K C "totals" f) (L : Lib P w K mg base) (Y : Sys P w K mg base C e) :
    MthX P w K mg base C "totals" 8 ["self"] (spM C e [] .totals) := by
  refine mth_ok F scTotals (fun vs H Q E h => ?_) b hm (fun cdv A outer s H vs Q E hr h => ⟨_, pss_one (ps_ret (pe_op op_cat (pe_lst (pa_cons (pe_fld (pv 0) rfl) pa_nil)) (pe_def L.flat (hr.mono (by decide)) rfl (pa_cons (pe_lst (pa_cons (pe_fld (pv 0) rfl) (pa_cons (pe_fld (pv 0) rfl) (pa_cons (pe_def L.total (hr.mono (by decide)) rfl (pa_cons (pe_fld (pv 0) rfl) pa_nil)) pa_nil)))) pa_nil)))), ?_⟩)
  · obtain ⟨a, bl, s, k, rfl, _⟩ := h
    rfl
  · obtain ⟨a, bl, s, k, rfl, ⟨dx, fl, al, lo, re, c⟩, g, hk, W⟩ := h
    have h5 := al5 g
    refine ⟨_, rfl, a, C, dx, _, _, rfl, c.ob, Y.T.cl, Y.T.pc, cF_pc, one_line, fun p1 hp1 => ?_⟩
    have s1 := same_new (o := .lst [natV s.passes]) hp1
    have c1 := c.same s1
    refine ⟨_, rfl, a, C, dx, _, _, rfl, c1.ob, Y.T.cl, Y.T.lo, cF_lo, _, rfl, a, C, dx, _, _, rfl, c1.ob, Y.T.cl, Y.T.re, cF_re, _, rfl, a, C, dx, _, _, rfl, c1.ob, Y.T.cl, Y.T.am, cF_am, al, s.amounts, 1000, rfl, c1.am, bd5 g hk, by omega, fun H2 v2 s2 f2 => ⟨(by show 3 ≤ sizeLine; decide), fun p3 hp3 => ?_⟩⟩
    have s3 := same_new (o := .lst [lo, re, v2]) hp3
    have c3 := c1.same (s2.trans s3)
    refine ⟨p3, [s.loaded, s.removed, s.amounts.sum], rfl, ⟨_, upd_same, .cons c3.ld (.cons c3.rm (.one (f2.same s3)))⟩, (by show 3 ≤ 1000; decide), fun H4 p4 s4 h4 => cat_ok ((s2.trans (s3.trans s4)) _ _ upd_same) h4 (by show 1 + 6 ≤ 1000; decide) fun p5 hp5 => ?_⟩
    exact W.read ⟨dx, fl, al, lo, re, c⟩ (n := ((s.passes : Nat) : Int)) (ns := Kp408.fraction s.loaded ++ Kp408.fraction s.removed ++ Kp408.fraction s.amounts.sum) rfl (by omega) (s1.trans (s2.trans (s3.trans (s4.trans (same_new hp5))))) upd_same (s1.free (s2.free (s3.free (s4.free hp5))))

theorem scGetF : FnScope ["self"] ["self"] (defScope sGetF) := ⟨rfl, rfl, rfl, by decide +kernel, rfl, by decide +kernel, by decide +kernel⟩
theorem ok_getF {f : Addr} {fd : FuncData} (F : Fun K "get_feed" "Circuit.get_feed" sGetF f fd) (b : Binds K fd ["self"] []) (hm : Meth K C "get_feed" f) (L : Lib P w K mg base) (Y : Sys P w K mg base C e) :
    MthX P w K mg base C "get_feed" 8 ["self"] (spM C e [] .getFeed) := by
  refine mth_ok F scGetF (fun vs H Q E h => ?_) b hm (fun cdv A outer s H vs Q E hr h => ⟨_, pss_one (ps_ret (pe_op op_cat (pe_lst (pa_cons (pe_fld (pv 0) rfl) pa_nil)) (pe_fld (pv 0) rfl))), ?_⟩)
  · obtain ⟨a, bl, s, k, rfl, _⟩ := h
    rfl
  · obtain ⟨a, bl, s, k, rfl, ⟨dx, fl, al, lo, re, c⟩, g, hk, W⟩ := h
    have h5 := g.five
    have hfl := g.fl
    refine ⟨_, rfl, a, C, dx, _, _, rfl, c.ob, Y.T.cl, Y.T.cc, cF_cc, one_line, fun p1 hp1 => ?_⟩
    have s1 := same_new (o := .lst [natV s.breakage.length]) hp1
    have c1 := c.same s1
    refine ⟨_, rfl, a, C, dx, _, _, rfl, c1.ob, Y.T.cl, Y.T.fe, cF_fe, cat_ok upd_same c1.ft (by rw [List.length_map]; show 1 + s.feed.length ≤ 1000; omega) fun p2 hp2 => ?_⟩
    refine W.read ⟨dx, fl, al, lo, re, c⟩ (n := ((s.breakage.length : Nat) : Int)) (ns := s.feed.map fun (x : Nat) => (x : Int)) rfl (by omega) (s1.trans (same_new hp2)) ?_ (s1.free hp2)
    rw [upd_same, natV_map]
    rfl
end
end Mill
namespace Mill
open PySem PySem.Spec PyProof.Rows L2
abbrev sNeeded : Stmt := inClass (top 32) 21
abbrev sCoarse : Stmt := inClass (top 32) 22
/-! ### the first that will do -/
theorem find_at {p : Nat → Bool} : ∀ {l : List Nat} {i x : Nat}, l[i]? = some x → p x = true → (∀ j y, j < i → l[j]? = some y → p y = false) → l.find? p = some x
  | [], i, x, h, _, _ => by simp at h
  | a :: l, 0, x, h, hp, _ => by
    simp at h
    subst h
    rw [List.find?_cons, hp]
  | a :: l, i + 1, x, h, hp, hn => by
    rw [List.find?_cons, hn 0 a (by omega) rfl]
    exact find_at (l := l) (i := i) h hp fun j y hj e => hn (j + 1) y (by omega) e
theorem find_none {p : Nat → Bool} {l : List Nat} (h : ∀ (j y : Nat), l[j]? = some y → p y = false) : l.find? p = none := by
  rw [List.find?_eq_none]
  intro x hx
  obtain ⟨j, hj⟩ := List.getElem?_of_mem hx
  rw [h j x hj]
  exact Bool.false_ne_true
theorem down_get {n i : Nat} (hn : 1 ≤ n) : (((List.range n).drop 1).reverse)[i]? = if i < n - 1 then some (n - 1 - i) else none := by
  by_cases h : i < n - 1
  · rw [if_pos h, List.getElem?_reverse (by rw [List.length_drop, List.length_range]; exact h), List.getElem?_drop, List.length_drop, List.length_range, List.getElem?_range (by omega)]
    exact congrArg some (by omega)
  · rw [if_neg h, List.getElem?_eq_none (by rw [List.length_reverse, List.length_drop, List.length_range]; omega)]
theorem eqv_zero {q : Rat} : PyData.eqv (.tuple [.int q.num, .int ((q.den : Nat) : Int)]) (.tuple [.int ((0 : Nat) : Rat).num, .int ((((0 : Nat) : Rat).den : Nat) : Int)]) = decide (q = 0) := by
  have e : PyData.eqv (.tuple [.int q.num, .int ((q.den : Nat) : Int)]) (.tuple [.int ((0 : Nat) : Rat).num, .int ((((0 : Nat) : Rat).den : Nat) : Int)]) = ((q.num == 0) && ((((q.den : Nat) : Int) == 1) && true)) := by
    simp only [PyData.eqv, PyData.eqvAll]
    rfl
  rw [e, Bool.and_true, Bool.eq_iff_iff, Bool.and_eq_true, beq_iff_eq, beq_iff_eq, decide_eq_true_iff]
  constructor
  · rintro ⟨h, _⟩
    exact Rat.num_eq_zero.mp h
  · rintro rfl
    exact ⟨rfl, rfl⟩
section
variable {P : Program} {w : World} {K : PySem.W.Frag} {mg : Str → Option Value} {base : Heap} {C : Addr} {e : Errs}
theorem scNeeded : FnScope ["self", "num", "den", "present", "wanted", "ground", "passes"] ["self", "num", "den"] (defScope sNeeded) := ⟨rfl, rfl, rfl, by decide +kernel, rfl, by decide +kernel, by decide +kernel⟩
theorem ok_needed {f : Addr} {fd : FuncData} (F : Fun K "passes_needed" "Circuit.passes_needed" sNeeded f fd) (b : Binds K fd ["self", "num", "den"] []) (hm : Meth K C "passes_needed" f) (L : Lib P w K mg base) (Y : Sys P w K mg base C e) :
    MthX P w K mg base C "passes_needed" 8 ["self", "num", "den"] (spM2 C e .passesNeeded) := by
  refine mth_ok F scNeeded (fun vs H Q E h => ?_) b hm (fun cdv A outer s H vs Q E hr h => ⟨_, pss_cons (ps_if (PW.pt (pw_or (pt_cmpR op_lt (pv 2) pe_int (nomark _)) (pw_or (pt_cmpR op_gt (pv 2) pe_int (nomark _)) (pw_or1 (pt_cmpR op_gt (pv 1) (pv 2) (nomark _)))))) (pss_one (ps_bad Y.bad rfl (takes_of rfl rfl rfl rfl) rfl)) pss_nil)
    (pss_cons (ps_set (i := 3) scNeeded.nd rfl (.inl rfl) (pe_def L.total (hr.mono (by decide)) rfl (pa_cons (pe_fld (pv 0) rfl) pa_nil)))
    (pss_cons (ps_if (pt_cmpR (op_eqD hr.units) (pv 3) (pe_def L.whole (hr.mono (by decide)) rfl (pa_cons pe_int pa_nil)) (nomark _)) (pss_one (ps_bad Y.none rfl (takes_of rfl rfl rfl rfl) rfl)) pss_nil)
    (pss_cons (ps_set (i := 4) scNeeded.nd rfl (.inl rfl) (pe_def L.scaled (hr.mono (by decide)) rfl (pa_cons (pv 3) (pa_cons (pv 1) (pa_cons (pv 2) pa_nil)))))
    (pss_cons (ps_set (i := 5) scNeeded.nd rfl (.inl rfl) (pe_fld (pv 0) rfl))
    (pss_cons (ps_for (passes_of rfl) rfl (pi_range1 rfl L.nRange (pa_cons pe_int pa_nil)) (pg_name (i := 6) scNeeded.nd rfl (Or.inl rfl))
      (pss_cons (ps_if (pt_val (pe_def L.atLeast (hr.mono (by decide)) rfl (pa_cons (pe_ix (r := rIxL K) ix_list (pv 5) pe_int (fun _ _ => rfl)) (pa_cons (pv 4) pa_nil)))) (pss_one (ps_ret (pe_lst (pa_cons (pv 6) pa_nil)))) pss_nil)
      (pss_one (ps_set (i := 5) scNeeded.nd rfl (.inl rfl) (pe_def L.pass1 (hr.mono (by decide)) rfl (pa_cons (pe_fld (pv 0) rfl) (pa_cons (pv 5) pa_nil)))))))
    (pss_one (ps_bad Y.noval rfl (takes_of rfl rfl rfl rfl) rfl))))))), ?_⟩)
  · obtain ⟨n, m, a, bl, s, k, rfl, _⟩ := h
    rfl
  · obtain ⟨n, d, a, bl, s, k, rfl, ⟨dx, fl, al, lo, re, c⟩, g, hk, W⟩ := h
    have h5 := al5 g
    have hal := g.al
    have two := g.two
    have e0 : Kp408.step (some s) (.passesNeeded n d) = (some s, if d < 1 ∨ 100 < d ∨ d < n then Kp408.single (-22) else if s.amounts.sum = 0 then Kp408.single (-6) else
        match (List.range 13).find? (fun passes => decide (((n : Rat) / (d : Rat)) * s.amounts.sum ≤ Kp408.amountUpTo (Kp408.groundTimes s passes s.amounts) 0)) with
        | none => Kp408.single (-33)
        | some passes => Kp408.single (passes : Nat)) := rfl
    refine ⟨_, rfl, _, _, rfl, rfl, _, rfl, ite_b (fun z => iteT (W.bad (code := -22) (by rw [e0, if_pos (by have := of_decide_eq_true z; omega)]) (of_ba e) (Same.refl _)))
      (fun z => ⟨_, rfl, _, _, rfl, rfl, _, rfl, ite_b (fun y => iteT (W.bad (code := -22) (by rw [e0, if_pos (by have := of_decide_eq_true y; omega)]) (of_ba e) (Same.refl _)))
        (fun y => ⟨_, rfl, _, rfl, _, _, rfl, rfl, _, rfl, ite_b (fun x => W.bad (code := -22) (by rw [e0, if_pos (by have := of_decide_eq_true x; omega)]) (of_ba e) (Same.refl _)) (fun x => ?_)⟩)⟩)⟩
    have hd : 1 ≤ d ∧ d ≤ 100 ∧ n ≤ d := by
      have := of_decide_eq_false z
      have := of_decide_eq_false y
      have := of_decide_eq_false x
      omega
    rw [if_neg (by omega)] at e0
    refine ⟨_, rfl, a, C, dx, _, _, rfl, c.ob, Y.T.cl, Y.T.am, cF_am, al, s.amounts, 1000, rfl, c.am, bd5 g hk, by omega, fun H1 v1 s1 f1 => ?_⟩
    refine ⟨_, rfl, 0, rfl, fun H2 v2 s2 f2 => ?_⟩
    have f12 := f1.same s2
    obtain ⟨t1, rfl, ht1⟩ := id f12
    obtain ⟨t2, rfl, ht2⟩ := id f2
    refine ⟨_, _, .tup (SqT.of ht1) (.cons (.int _) (.cons (.int _) .nil)), .tup (SqT.of ht2) (.cons (.int _) (.cons (.int _) .nil)), rfl, rfl, _, rfl, ?_⟩
    rw [eqv_zero]
    have s12 := s1.trans s2
    refine ite_b (fun u => W.bad (code := -6) (by rw [e0, if_pos (of_decide_eq_true u)]) (of_nt e) s12) (fun u => ?_)
    rw [if_neg (of_decide_eq_false u)] at e0
    have hsb := (bd5 g hk).sum
    have hn7 : n < 2 ^ 7 := by omega
    have hd7 : d < 2 ^ 7 := by omega
    have hwb : Sm 4000 (s.amounts.sum * ((n : Nat) : Rat) / ((d : Nat) : Rat)) := ((hsb.scale (n := n) (e := d) hn7 hd.1 hd7).sm List.mem_cons_self).mono (by omega)
    have p7 : (2 : Nat) ^ 7 < 2 ^ 4000 := Nat.pow_lt_pow_right (by decide) (by decide)
    refine ⟨_, rfl, _, rfl, _, rfl, .ref t1, _, n, d, rfl, f12, (hsb.sm List.mem_cons_self).mono (by omega), Nat.lt_trans hn7 p7, hd.1, Nat.lt_trans hd7 p7, fun H3 v3 s3 f3 => ?_⟩
    have s13 := s12.trans s3
    have c3 := c.same s13
    refine ⟨_, rfl, a, C, dx, _, _, rfl, c3.ob, Y.T.cl, Y.T.am, cF_am, ?_⟩
    refine ⟨13, rfl, by decide, by decide, ?_⟩
    have bridge : ∀ i, decide (s.amounts.sum * ((n : Nat) : Rat) / ((d : Nat) : Rat) ≤ (passes s.breakage i s.amounts).getD 0 0) = decide (((n : Rat) / (d : Rat)) * s.amounts.sum ≤ Kp408.amountUpTo (Kp408.groundTimes s i s.amounts) 0) := fun i => by
      have e1 : Kp408.amountUpTo (Kp408.groundTimes s i s.amounts) 0 = (passes s.breakage i s.amounts).getD 0 0 := by
        rw [groundTimes_passes g.shape i _ hal]
        unfold Kp408.amountUpTo
        have hl : (passes s.breakage i s.amounts).length = s.amounts.length := passes_len _ _ _
        cases h : passes s.breakage i s.amounts with
        | nil => rw [h, List.length_nil] at hl; omega
        | cons q qs =>
          show ([q] : List Rat).sum = q
          exact sum_one q
      have e2 : s.amounts.sum * ((n : Nat) : Rat) / ((d : Nat) : Rat) = ((n : Rat) / (d : Rat)) * s.amounts.sum := by
        rw [Rat.div_def, Rat.div_def, Rat.mul_comm s.amounts.sum, Rat.mul_assoc, Rat.mul_comm s.amounts.sum, ← Rat.mul_assoc]
      rw [e1, e2]
    refine for_range (lo := 0) (n := 13) (fun i σ H' => ∃ (p : Addr) (u : Option V), σ = [some (.ref a), some (natV n), some (natV d), some (.ref t1), some v3, some (.ref p), u] ∧ Same H3 H' ∧ FrsAt H' p (passes s.breakage i s.amounts) ∧
      ∀ j, j < i → decide (((n : Rat) / (d : Rat)) * s.amounts.sum ≤ Kp408.amountUpTo (Kp408.groundTimes s j s.amounts) 0) = false) ⟨al, none, rfl, Same.refl _, c3.am, fun j hj => absurd hj (Nat.not_lt_zero j)⟩ ?_ ?_
    · rintro i σ H4 hi ⟨p, u, rfl, s4, f4, hno⟩
      obtain ⟨xs, hx, hxa⟩ := id f4
      have hpl : (passes s.breakage i s.amounts).length = s.amounts.length := passes_len _ _ _
      obtain ⟨q, hq⟩ : ∃ q, (passes s.breakage i s.amounts)[0]? = some q := ⟨(passes s.breakage i s.amounts)[0]'(by omega), by rw [List.getElem?_eq_getElem]⟩
      obtain ⟨v0, hv0, f0⟩ := hxa.get hq
      have hpb := passes_bd g.shape (bd5 g hk) h5 i
      refine ⟨_, rfl, p, xs, _, v0, rfl, rfl, SqL.of hx, at_of rfl hv0, _, rfl, v0, v3, q, _, rfl, f0, f3.same s4, (hpb.sm (List.mem_of_getElem? hq)).mono (by omega), hwb, _, rfl, ?_⟩
      have br := bridge i
      rw [getD_of hq] at br
      rw [br]
      refine ite_b (fun y => ⟨_, rfl, one_line, fun p5 hp5 => ?_⟩) (fun y => ?_)
      · have e9 : (List.range 13).find? (fun passes => decide (((n : Rat) / (d : Rat)) * s.amounts.sum ≤ Kp408.amountUpTo (Kp408.groundTimes s passes s.amounts) 0)) = some i :=
          find_at (i := i) (List.getElem?_range hi) y fun j z hj e => by
            rw [List.getElem?_range (by omega)] at e
            cases e
            exact hno j hj
        rw [e9] at e0
        refine W.read ⟨dx, fl, al, lo, re, c⟩ (n := ((i : Nat) : Int)) (ns := []) e0 (by omega) (s13.trans (s4.trans (same_new hp5))) ?_ (s13.free (s4.free hp5))
        rw [upd_same]
        exact congrArg (fun z => some (HO.lst [V.int z])) (Int.zero_add _)
      · have c4 := c3.same s4
        refine ⟨_, rfl, a, C, dx, _, _, rfl, c4.ob, Y.T.cl, Y.T.br, cF_br, _, rfl, bl, p, s.breakage, _, 1000 + 12 * i, rfl, ⟨c4.mat, f4, g.shape, by omega, by omega, hpb⟩, by omega, fun H5 p5 s5 f5 => ⟨p5, _, rfl, s4.trans s5, f5, fun j hj => ?_⟩⟩
        by_cases hji : j = i
        · rw [hji]
          exact y
        · exact hno j (by omega)
    · rintro σ H4 ⟨p, u, rfl, s4, f4, hno⟩
      have e9 : (List.range 13).find? (fun passes => decide (((n : Rat) / (d : Rat)) * s.amounts.sum ≤ Kp408.amountUpTo (Kp408.groundTimes s passes s.amounts) 0)) = none :=
        find_none fun j y e => by
          have hj : j < 13 := by
            have := (List.getElem?_eq_some_iff.mp e).1
            rw [List.length_range] at this
            exact this
          rw [List.getElem?_range hj] at e
          cases e
          exact hno j hj
      rw [e9] at e0
      exact W.bad (code := -33) e0 (of_nv e) (s13.trans s4)

theorem scCoarse : FnScope ["self", "num", "den", "bound", "cut"] ["self", "num", "den"] (defScope sCoarse) := ⟨rfl, rfl, rfl, by decide +kernel, rfl, by decide +kernel, by decide +kernel⟩
theorem st_in' {k : Nat} {s : Kp408.Circuit} (g : Good k s) {c : Nat} (h : c ≤ s.breakage.length) (z : isSteady s.breakage c = true) : Kp408.steadyInput s c = steady s.breakage s.feed c := steady_is g.fl (isSteady_all z) h
theorem st_bd' {k : Nat} {s : Kp408.Circuit} (g : Good k s) {c : Nat} (z : isSteady s.breakage c = true) : Bd 200 (steady s.breakage s.feed c) := by
  have h1 := g.fl
  have h2 := g.five
  exact steady_bd g.shape g.fh (by omega) (fun j a b => isSteady_all z j a (by omega))
theorem ok_coarse {f : Addr} {fd : FuncData} (F : Fun K "coarsest_cut" "Circuit.coarsest_cut" sCoarse f fd) (b : Binds K fd ["self", "num", "den"] []) (hm : Meth K C "coarsest_cut" f) (L : Lib P w K mg base) (Y : Sys P w K mg base C e) :
    MthX P w K mg base C "coarsest_cut" 8 ["self", "num", "den"] (spM2 C e .coarsestCut) := by
  refine mth_ok F scCoarse (fun vs H Q E h => ?_) b hm (fun cdv A outer s H vs Q E hr h => ⟨_, pss_cons (ps_if (PW.pt (pw_or (pt_cmpR op_gt (pv 1) pe_int (nomark _)) (pw_or (pt_cmpR op_lt (pv 2) pe_int (nomark _)) (pw_or1 (pt_cmpR op_gt (pv 2) pe_int (nomark _)))))) (pss_one (ps_bad Y.bad rfl (takes_of rfl rfl rfl rfl) rfl)) pss_nil)
    (pss_cons (ps_set (i := 3) scCoarse.nd rfl (.inl rfl) (pe_def L.low (hr.mono (by decide)) rfl (pa_cons (pv 1) (pa_cons (pv 2) pa_nil))))
    (pss_cons (ps_for (passes_of rfl) rfl (pi_range3 rfl L.nRange (pa_cons (pe_op op_sub (pe_fld (pv 0) rfl) pe_int) (pa_cons pe_int (pa_cons (pe_un un_neg pe_int) pa_nil)))) (pg_name (i := 4) scCoarse.nd rfl (Or.inl rfl))
      (pss_one (ps_if (pt_val (pe_def L.isSteady (hr.mono (by decide)) rfl (pa_cons (pe_fld (pv 0) rfl) (pa_cons (pv 4) pa_nil))))
        (pss_one (ps_if (pt_val (pe_def L.atLeast (hr.mono (by decide)) rfl (pa_cons (pv 3) (pa_cons (pe_def L.total (hr.mono (by decide)) rfl (pa_cons (pe_def L.steady (hr.mono (by decide)) rfl (pa_cons (pe_fld (pv 0) rfl) (pa_cons (pe_fld (pv 0) rfl) (pa_cons (pv 4) pa_nil)))) pa_nil)) pa_nil)))) (pss_one (ps_ret (pe_lst (pa_cons (pv 4) pa_nil)))) pss_nil)) pss_nil)))
    (pss_one (ps_bad Y.noval rfl (takes_of rfl rfl rfl rfl) rfl)))), ?_⟩)
  · obtain ⟨n, m, a, bl, s, k, rfl, _⟩ := h
    rfl
  · obtain ⟨n, d, a, bl, s, k, rfl, ⟨dx, fl, al, lo, re, c⟩, g, hk, W⟩ := h
    have h5 := g.five
    have two := g.two
    have hfl := g.fl
    have e0 : Kp408.step (some s) (.coarsestCut n d) = (some s, if 999 < n ∨ d < 1 ∨ 99 < d then Kp408.single (-22) else
        match (((List.range (Kp408.classCount s)).drop 1).reverse).find? (fun cut => Kp408.hasSteadyState s cut && decide ((Kp408.steadyInput s cut).sum ≤ (n : Rat) / (d : Rat))) with
        | none => Kp408.single (-33)
        | some cut => Kp408.single (cut : Nat)) := rfl
    refine ⟨_, rfl, _, _, rfl, rfl, _, rfl, ite_b (fun z => iteT (W.bad (code := -22) (by rw [e0, if_pos (by have := of_decide_eq_true z; omega)]) (of_ba e) (Same.refl _)))
      (fun z => ⟨_, rfl, _, _, rfl, rfl, _, rfl, ite_b (fun y => iteT (W.bad (code := -22) (by rw [e0, if_pos (by have := of_decide_eq_true y; omega)]) (of_ba e) (Same.refl _)))
        (fun y => ⟨_, rfl, _, _, rfl, rfl, _, rfl, ite_b (fun x => W.bad (code := -22) (by rw [e0, if_pos (by have := of_decide_eq_true x; omega)]) (of_ba e) (Same.refl _)) (fun x => ?_)⟩)⟩)⟩
    have hd : n ≤ 999 ∧ 1 ≤ d ∧ d ≤ 99 := by
      have := of_decide_eq_false z
      have := of_decide_eq_false y
      have := of_decide_eq_false x
      omega
    rw [if_neg (by omega)] at e0
    have p7 : (2 : Nat) ^ 7 < 2 ^ 8900 := Nat.pow_lt_pow_right (by decide) (by decide)
    refine ⟨_, rfl, _, rfl, n, d, rfl, hd.2.1, Nat.lt_trans (by omega : d < 2 ^ 7) p7, fun H1 v1 s1 f1 => ?_⟩
    have hbs : Sm 4000 (mkRat (n : Int) d) := by
      have : OkD d 10 (mkRat (n : Int) d) := ⟨n, by omega, by rw [frac_eq, Rat.div_mul_cancel (nat_ne hd.2.1)]⟩
      exact (this.sm hd.2.1 (by omega)).mono (by decide)
    have c1 := c.same s1
    have b1 := int62 (n := s.breakage.length - 1) (by omega)
    have e1 : ((s.breakage.length : Nat) : Int) - 1 = ((s.breakage.length - 1 : Nat) : Int) := by omega
    refine ⟨_, rfl, a, C, dx, _, _, rfl, c1.ob, Y.T.cl, Y.T.cc, cF_cc, _, _, rfl, rfl, _, rfl, _, _, _, s.breakage.length - 1, rfl, ?_, ?_⟩
    · rw [e1]
      have := RgC.neg b1.1 b1.2 (by decide : (-(2 ^ 62) : Int) ≤ 0) (by decide : (0 : Int) < 2 ^ 62)
      rw [show (((s.breakage.length - 1 : Nat) : Int) - 0).toNat = s.breakage.length - 1 by omega] at this
      exact this
    have bridge : ∀ ct, ct ≤ s.breakage.length → (Kp408.hasSteadyState s ct && decide ((Kp408.steadyInput s ct).sum ≤ (n : Rat) / (d : Rat))) = (isSteady s.breakage ct && decide ((steady s.breakage s.feed ct).sum ≤ mkRat (n : Int) d)) := fun ct hct => by
      rw [isSteady_spec, frac_eq]
      cases h : isSteady s.breakage ct with
      | false => rfl
      | true => rw [st_in' g hct h]
    refine for_rangeC (n := s.breakage.length - 1) (fun i σ H' => ∃ (u : Option V), σ = [some (.ref a), some (natV n), some (natV d), some v1, u] ∧ Same H1 H' ∧
      ∀ j, j < i → (isSteady s.breakage (s.breakage.length - 1 - j) && decide ((steady s.breakage s.feed (s.breakage.length - 1 - j)).sum ≤ mkRat (n : Int) d)) = false) ⟨none, rfl, Same.refl _, fun j hj => absurd hj (Nat.not_lt_zero j)⟩ ?_ ?_
    · rintro i σ H2 hi ⟨u, rfl, s2, hno⟩
      have ei : ((s.breakage.length : Nat) : Int) - 1 + ((i : Nat) : Int) * (-1) = ((s.breakage.length - 1 - i : Nat) : Int) := by omega
      rw [ei]
      generalize hct : s.breakage.length - 1 - i = ct at hno ⊢
      have c2 := c1.same s2
      have next : (isSteady s.breakage ct && decide ((steady s.breakage s.feed ct).sum ≤ mkRat (n : Int) d)) = false → ∀ j, j < i + 1 → (isSteady s.breakage (s.breakage.length - 1 - j) && decide ((steady s.breakage s.feed (s.breakage.length - 1 - j)).sum ≤ mkRat (n : Int) d)) = false := fun y j hj => by
        by_cases hji : j = i
        · rw [hji, hct]
          exact y
        · exact hno j (by omega)
      refine ⟨_, rfl, a, C, dx, _, _, rfl, c2.ob, Y.T.cl, Y.T.br, cF_br, _, rfl, bl, s.breakage, ct, rfl, c2.mat, g.shape, h5, by omega, fun H3 s3 => ⟨_, rfl, ite_b (fun y => ?_) (fun y => ⟨_, rfl, s2.trans s3, next (by rw [y]; rfl)⟩)⟩⟩
      have c3 := c2.same s3
      have hl : (steady s.breakage s.feed ct).length = s.feed.length := steady_len _ _ _
      refine ⟨_, rfl, _, rfl, a, C, dx, _, _, rfl, c3.ob, Y.T.cl, Y.T.br, cF_br, _, rfl, a, C, dx, _, _, rfl, c3.ob, Y.T.cl, Y.T.fe, cF_fe, _, rfl, bl, fl, s.breakage, s.feed, ct, rfl, c3.mf g, by omega, by omega, y, fun H4 p4 s4 f4 => ?_⟩
      refine ⟨p4, _, 200, rfl, f4, st_bd' g y, by omega, fun H5 v5 s5 f5 => ?_⟩
      refine ⟨v1, v5, _, _, rfl, f1.same (s2.trans (s3.trans (s4.trans s5))), f5, hbs, ((st_bd' g y).sum.sm List.mem_cons_self).mono (by omega), _, rfl, ite_b (fun x => ⟨_, rfl, one_line, fun p6 hp6 => ?_⟩) (fun x => ⟨_, rfl, s2.trans (s3.trans (s4.trans s5)), next (by rw [x, Bool.and_false])⟩)⟩
      have e9 : (((List.range (Kp408.classCount s)).drop 1).reverse).find? (fun cut => Kp408.hasSteadyState s cut && decide ((Kp408.steadyInput s cut).sum ≤ (n : Rat) / (d : Rat))) = some ct :=
        find_at (i := i) (by show (((List.range s.breakage.length).drop 1).reverse)[i]? = _; rw [down_get (by omega), if_pos hi, hct]) (by
          show (Kp408.hasSteadyState s ct && decide ((Kp408.steadyInput s ct).sum ≤ (n : Rat) / (d : Rat))) = true
          rw [bridge ct (by omega), y, x]
          rfl) fun j z hj e => by
            have e : (((List.range s.breakage.length).drop 1).reverse)[j]? = some z := e
            rw [down_get (by omega), if_pos (by omega)] at e
            cases e
            show (Kp408.hasSteadyState s _ && decide ((Kp408.steadyInput s _).sum ≤ (n : Rat) / (d : Rat))) = false
            rw [bridge _ (by omega)]
            exact hno j hj
      rw [e9] at e0
      exact W.read ⟨dx, fl, al, lo, re, c⟩ (n := ((ct : Nat) : Int)) (ns := []) e0 (by omega) (s1.trans (s2.trans (s3.trans (s4.trans (s5.trans (same_new hp6)))))) upd_same (s1.free (s2.free (s3.free (s4.free (s5.free hp6)))))
    · rintro σ H2 ⟨u, rfl, s2, hno⟩
      have e9 : (((List.range (Kp408.classCount s)).drop 1).reverse).find? (fun cut => Kp408.hasSteadyState s cut && decide ((Kp408.steadyInput s cut).sum ≤ (n : Rat) / (d : Rat))) = none :=
        find_none fun j z e => by
          have e : (((List.range s.breakage.length).drop 1).reverse)[j]? = some z := e
          rw [down_get (by omega)] at e
          by_cases hj : j < s.breakage.length - 1
          · rw [if_pos hj] at e
            cases e
            show (Kp408.hasSteadyState s _ && decide ((Kp408.steadyInput s _).sum ≤ (n : Rat) / (d : Rat))) = false
            rw [bridge _ (by omega)]
            exact hno j hj
          · rw [if_neg hj] at e
            cases e
      rw [e9] at e0
      exact W.bad (code := -33) e0 (of_nv e) (s1.trans s2)
end
end Mill
namespace Mill
open PySem PySem.Spec PyProof.Rows L2
abbrev sRead : Stmt := top 36
/-! ### reading.py -/
/-- a call in the heap: its number, its arguments, its row; its lists are such as N says -/
def CallAt (N : Addr → Prop) (H : Hp) (v : V) (c : List (List Int)) : Prop := ∃ t al, ∃ (p : Int) (xs : List Int), v = .ref t ∧ N al ∧ H t = some (.tup [.int p, .ref al]) ∧
  ((c = [p :: xs] ∧ H al = some (.lst (xs.map V.int))) ∨ ∃ (rl : Addr) (row : List Int), N rl ∧ c = [p :: xs, row] ∧ H al = some (.lst (xs.map V.int ++ [.ref rl])) ∧ H rl = some (.lst (row.map V.int)))
theorem CallAt.same {N : Addr → Prop} {H H' : Hp} (s : Same H H') {v : V} {c : List (List Int)} (h : CallAt N H v c) : CallAt N H' v c := by
  obtain ⟨t, al, p, xs, e, n, ht, h⟩ := h
  refine ⟨t, al, p, xs, e, n, s _ _ ht, ?_⟩
  rcases h with ⟨e1, h1⟩ | ⟨rl, row, n1, e1, h1, h2⟩
  · exact .inl ⟨e1, s _ _ h1⟩
  · exact .inr ⟨rl, row, n1, e1, s _ _ h1, s _ _ h2⟩
theorem CallAt.off {N : Addr → Prop} {D : Addr} {H H' : Hp} {vs : List V} (s : Off D H H') (hD : H D = some (.lst vs)) (hN : ∀ b, N b → b ≠ D) {v : V} {c : List (List Int)} (h : CallAt N H v c) : CallAt N H' v c := by
  obtain ⟨t, al, p, xs, e, n, ht, h⟩ := h
  refine ⟨t, al, p, xs, e, n, s _ _ (ne_of ht hD (by intro z; cases z)) ht, ?_⟩
  rcases h with ⟨e1, h1⟩ | ⟨rl, row, n1, e1, h1, h2⟩
  · exact .inl ⟨e1, s _ _ (hN _ n) h1⟩
  · exact .inr ⟨rl, row, n1, e1, s _ _ (hN _ n) h1, s _ _ (hN _ n1) h2⟩
/-- not the new list, and new -/
def Nw (D : Addr) (H : Hp) (b : Addr) : Prop := b ≠ D ∧ H b = none
def spRead (K : PySem.W.Frag) : Sp := fun vs H Q _ => ∃ a ns raw f, vs = [.ref a] ∧ SqL K H a (ns.map V.int) ∧ ns.length ≤ 660 ∧ PyFlat.calls PyKp408.shape f ns = some raw ∧
  ∀ H' p vs, Same H H' → H p = none → H' p = some (.lst vs) → Al (CallAt (Nw p H) H') vs raw → (∀ c ∈ raw, Shaped c) → Q (.ref p) H'
/-- the module's two tables -/
structure Tabs (K : PySem.W.Frag) (mg : Str → Option Value) : Prop where
  w : ∃ t, mg "WHOLE_ARGUMENTS" = some (.ref t) ∧ ∀ H, SqT K H t (wargs.map V.int)
  r : ∃ t, mg "CALLS_WITH_ROW" = some (.ref t) ∧ ∀ H, SqT K H t [.int 1, .int 3]
theorem in_rows {p : Int} : inV (.int p) [.int 1, .int 3] = decide (p = 1 ∨ p = 3) := by
  have e : inV (.int p) [.int 1, .int 3] = (((1 : Int) == p) || (((3 : Int) == p) || false)) := rfl
  rw [e, Bool.or_false, Bool.eq_iff_iff, Bool.or_eq_true, beq_iff_eq, beq_iff_eq, decide_eq_true_iff]
  constructor
  · rintro (h | h)
    · exact .inl h.symm
    · exact .inr h.symm
  · rintro (h | h)
    · exact .inl h.symm
    · exact .inr h.symm
theorem cut_ints {ns : List Int} {i j : Nat} (h : i ≤ j) (h2 : j ≤ ns.length) : cutV (ns.map V.int) (some (i : Int)) (some (j : Int)) = ((ns.drop i).take (j - i)).map V.int := by
  rw [cut_at h (by rw [List.length_map]; exact h2), List.map_take, List.map_drop]
/-- what holds between two calls read -/
def rdInv (a D : Addr) (H : Hp) (ns : List Int) (raw : List (List (List Int))) : L2.St → Hp → Prop := fun σ H' => ∃ (i f' : Nat) (done rest : List (List (List Int))) (ws : List V) (u3 u4 u5 u6 : Option V),
  σ = [some (.ref a), some (.ref D), some (natV i), u3, u4, u5, u6] ∧ Same H H' ∧ i ≤ ns.length ∧ done.length ≤ i ∧ H' D = some (.lst ws) ∧ Al (CallAt (Nw D H) H') ws done ∧ raw = done ++ rest ∧ (∀ c ∈ done, Shaped c) ∧ PyFlat.calls PyKp408.shape f' (ns.drop i) = some rest
def rdM (ns : List Int) : L2.St → Nat := fun σ => match σ with
  | [_, _, some (.int i), _, _, _, _] => ns.length - i.toNat
  | _ => 0
section
variable {P : Program} {w : World} {K : PySem.W.Frag} {mg : Str → Option Value} {base : Heap}
theorem scRead : FnScope ["calls", "found", "place", "number", "behind", "arguments", "row"] ["calls"] (defScope sRead) := ⟨rfl, rfl, rfl, by decide +kernel, rfl, by decide +kernel, by decide +kernel⟩
theorem ok_read {f : Addr} {fd : FuncData} (F : Fun K "read_calls" "read_calls" sRead f fd) (b : Binds K fd ["calls"] []) (hm : mg "read_calls" = some (.ref f)) (nL : mg "len" = none) (T : Tabs K mg) : Def0 P w K mg base "read_calls" 1 ["calls"] (spRead K) := by
  obtain ⟨tW, gW, qW⟩ := T.w
  obtain ⟨tR, gR, qR⟩ := T.r
  refine def_ok F scRead (fun vs H Q E h => ?_) b hm (fun cdv A outer s H vs Q E hr h => ⟨_, pss_cons (ps_set (i := 1) scRead.nd rfl (.inl rfl) (pe_lst pa_nil))
    (pss_cons (ps_set (i := 2) scRead.nd rfl (.inl rfl) pe_int)
    (pss_cons (ps_while PassesOwn.never (pt_cmpR op_lt (pv 2) (pe_callB call_len_seq (by rfl) nL boot_len (pa_cons (pv 0) pa_nil)) (nomark _))
      (pss_cons (ps_set (i := 3) scRead.nd rfl (.inl rfl) (pe_ix (r := rIxL K) ix_list (pv 0) (pv 2) (fun _ _ => rfl)))
      (pss_cons (ps_set (i := 4) scRead.nd rfl (.inl rfl) (pe_op op_add (pe_op op_add (pv 2) pe_int) (pe_ix (r := rIxT K) ix_tup (pe_glob (v := .ref tW) rfl gW rfl) (pv 3) (fun _ _ => rfl))))
      (pss_cons (ps_set (i := 5) scRead.nd rfl (.inl rfl) (pe_slice (r := rSlL K) sl_list (pv 0) (po_some (pe_op op_add (pv 2) pe_int)) (po_some (pv 4))))
      (pss_cons (ps_if (pt_cmpR op_in_seq (pv 3) (pe_glob (v := .ref tR) rfl gR rfl) (by rfl))
        (pss_cons (ps_set (i := 6) scRead.nd rfl (.inl rfl) (pe_op op_add (pv 4) pe_int))
        (pss_cons (ps_set (i := 4) scRead.nd rfl (.inl rfl) (pe_op op_add (pv 6) (pe_ix (r := rIxL K) ix_list (pv 0) (pv 4) (fun _ _ => rfl))))
        (pss_one (ps_expr (pe_bm PySem.F.plainAttrs_list PySem.F.slot_list_append PySem.F.type_list_append mt_append (pv 5) (pa_cons (pe_slice (r := rSlL K) sl_list (pv 0) (po_some (pv 6)) (po_some (pv 4))) pa_nil)))))) pss_nil)
      (pss_cons (ps_expr (pe_bm PySem.F.plainAttrs_list PySem.F.slot_list_append PySem.F.type_list_append mt_append (pv 1) (pa_cons (pe_tup (pa_cons (pv 3) (pa_cons (pv 5) pa_nil))) pa_nil)))
      (pss_one (ps_set (i := 2) scRead.nd rfl (.inl rfl) (pv 4)))))))))
    (pss_one (ps_ret (pv 1))))), ?_⟩)
  · obtain ⟨a, ns, raw, f, rfl, _⟩ := h
    rfl
  · obtain ⟨a, ns, raw, f0, rfl, hS, hlen, hraw, k⟩ := h
    refine ⟨Nat.zero_le _, fun D hD => ?_⟩
    have s0 := same_new (o := .lst []) hD
    refine while_by (rdInv a D H ns raw) (fun σ _ => rdM ns σ)
      ⟨0, f0, [], raw, [], none, none, none, none, rfl, s0, Nat.zero_le _, Nat.le_refl _, upd_same, .nil, rfl, (fun c hc => by cases hc), hraw⟩ ?_ ?_
    · rintro σ H1 ⟨i, f', done, rest, ws, u3, u4, u5, u6, rfl, s1, hi, hdl, hD1, hal, hre, hsh, hcs⟩
      have q1 := s1.seq hS
      refine ⟨_, rfl, _, rfl, a, _, rfl, .inl q1, _, _, rfl, rfl, _, rfl, ite_b (fun z => ?_) (fun z => ?_)⟩
      · have hlt : i < ns.length := by
          have := of_decide_eq_true z
          rw [List.length_map] at this
          omega
        obtain ⟨p, n, f2, c, cs', hp, ⟨kk, hkk⟩, hin, rfl, hsc, hcase⟩ := read_step hcs hlt
        obtain ⟨j, rfl, hj20, hw⟩ := shape_w hkk
        have hn2 : n ≤ 2 := by
          have hm : ∀ x ∈ wargs, x ≤ 2 := by decide
          have := hm _ (List.mem_of_getElem? hw)
          omega
        have hpv : (ns.map V.int)[i]? = some (.int (j : Int)) := by rw [List.getElem?_map, hp]; rfl
        have hwv : (wargs.map V.int)[j]? = some (.int (n : Int)) := by rw [List.getElem?_map, hw]; rfl
        refine ⟨_, rfl, _, rfl, a, _, _, _, rfl, rfl, q1, at_of rfl hpv, ?_⟩
        refine ⟨_, rfl, _, _, rfl, rfl, _, rfl, tW, _, _, _, rfl, rfl, qW _, at_of rfl hwv, _, _, rfl, rfl, ?_⟩
        refine ⟨_, rfl, _, rfl, _, _, rfl, rfl, _, rfl, _, rfl, _, rfl, a, _, rfl, q1, fun al hal1 => ?_⟩
        have ec : cutV (ns.map V.int) (some ((i : Int) + 1)) (some ((i : Int) + 1 + (n : Int))) = ((ns.drop (i + 1)).take n).map V.int := by
          have := cut_ints (ns := ns) (i := i + 1) (j := i + 1 + n) (by omega) hin
          rw [Nat.add_sub_cancel_left] at this
          exact this
        rw [ec]
        have s2 := same_new (o := .lst (((ns.drop (i + 1)).take n).map V.int)) hal1
        have hD2 := s2 _ _ hD1
        have alD : al ≠ D := fun z => by rw [z, hD1] at hal1; cases hal1
        have q2 := (s1.trans s2).seq hS
        refine ⟨_, rfl, tR, _, rfl, .inr (qR _), rfl, rfl, _, rfl, ?_⟩
        have er : (if false = true then !inV (V.int (j : Int)) [V.int 1, V.int 3] else inV (V.int (j : Int)) [V.int 1, V.int 3]) = decide ((j : Int) = 1 ∨ (j : Int) = 3) := in_rows
        have wl : ws.length ≤ 660 := by
          have := hal.length
          omega
        -- what closes a turn, from the heap in which the arguments stand
        have fin : ∀ (H3 : Hp) (m : Nat) (u6' : Option V), Same H1 H3 → i + 1 ≤ m → m ≤ ns.length → PyFlat.calls PyKp408.shape f2 (ns.drop m) = some cs' →
            (∀ t, H3 t = none → CallAt (Nw D H) (upd H3 t (.tup [.int (j : Int), .ref al])) (.ref t) c) →
            ∀ rt bk ct, tSeq (tDrop (tBM K "list" rAppend (tVar 1) (tCons (tTup (tCons (tVar 3) (tCons (tVar 5) tNil))) tNil))) (tAsg (tVar 4) (gName 2))
              { nx := fun σ' H' => rdInv a D H ns raw σ' H' ∧ rdM ns σ' < ns.length - i, rt := rt, bk := bk, ct := ct } [some (.ref a), some (.ref D), some (natV i), some (.int (j : Int)), some (natV m), some (.ref al), u6'] H3 := by
          intro H3 m u6' s3 hm1 hm2 hcs2 hcall rt bk ct
          have hD3 := s3 _ _ hD1
          refine ⟨_, rfl, .inl ⟨rfl, _, .inl (.inl hD3)⟩, _, rfl, _, rfl, (by show 2 ≤ sizeLine; decide), fun t ht => ?_⟩
          have s4 := same_new (o := .tup [.int (j : Int), .ref al]) ht
          have hD4 := s4 _ _ hD3
          refine ⟨D, ws, _, rfl, rfl, hD4, (by rw [sizeLine_eq]; omega), ⟨_, rfl, ⟨m, f2, done ++ [c], cs', ws ++ [.ref t], _, _, _, _, rfl, same_upd hD (s1.trans (s3.trans s4)), hm2, (by rw [List.length_append]; show done.length + 1 ≤ m; omega), upd_same, ?_, (by rw [hre, List.append_assoc]; rfl), ?_, hcs2⟩, ?_⟩⟩
          · exact ((hal.mono fun _ _ r => (r.same (s3.trans s4)).off Off.upd hD4 (fun _ z => z.1))).append (.one ((hcall t ht).off Off.upd hD4 (fun _ z => z.1)))
          · intro c' hc'
            rcases List.mem_append.mp hc' with h | h
            · exact hsh c' h
            · rw [List.mem_singleton.mp h]
              exact hsc
          · show ns.length - ((m : Nat) : Int).toNat < ns.length - i
            rw [Int.toNat_natCast]
            omega
        rw [er]
        refine ite_b (fun y => ?_) (fun y => ?_)
        · have y2 := of_decide_eq_true y
          rcases hcase with ⟨hno, _⟩ | ⟨_, m, hm, hm2, rfl, hcs2⟩
          · exact absurd y2 hno
          · have hmv : (ns.map V.int)[i + 1 + n]? = some (.int (m : Int)) := by rw [List.getElem?_map, hm]; rfl
            refine ⟨_, rfl, _, _, rfl, rfl, ?_⟩
            refine ⟨_, rfl, _, rfl, _, rfl, a, _, _, _, rfl, rfl, q2, at_of (j := i + 1 + n) rfl hmv, _, _, rfl, rfl, ?_⟩
            refine ⟨_, rfl, .inl ⟨rfl, _, .inl (.inl upd_same)⟩, _, rfl, _, rfl, _, rfl, _, rfl, _, rfl, a, _, rfl, q2, fun rl hrl => ?_⟩
            have ec2 : cutV (ns.map V.int) (some ((i : Int) + 1 + (n : Int) + 1)) (some ((i : Int) + 1 + (n : Int) + 1 + (m : Int))) = ((ns.drop (i + 1 + n + 1)).take m).map V.int := by
              have := cut_ints (ns := ns) (i := i + 1 + n + 1) (j := i + 1 + n + 1 + m) (by omega) hm2
              rw [Nat.add_sub_cancel_left] at this
              exact this
            rw [ec2]
            have s3 := same_new (o := .lst (((ns.drop (i + 1 + n + 1)).take m).map V.int)) hrl
            have rlD : rl ≠ D := fun z => by rw [z, hD2] at hrl; cases hrl
            have rlal : rl ≠ al := fun z => by rw [z, upd_same] at hrl; cases hrl
            refine ⟨al, ((ns.drop (i + 1)).take n).map V.int, .ref rl, rfl, rfl, s3 _ _ upd_same, (by rw [List.length_map, List.length_take, sizeLine_eq]; omega), ?_⟩
            refine fin _ (i + 1 + n + 1 + m) _ (same_upd hal1 (s2.trans s3)) (by omega) hm2 hcs2 (fun t ht => ?_) _ _ _
            have s4 := same_new (o := .tup [.int (j : Int), .ref al]) ht
            refine ⟨t, al, (j : Int), (ns.drop (i + 1)).take n, rfl, ⟨alD, s1.free hal1⟩, upd_same, .inr ⟨rl, (ns.drop (i + 1 + n + 1)).take m, ⟨rlD, s1.free (s2.free hrl)⟩, rfl, s4 _ _ upd_same, s4 _ _ ?_⟩⟩
            rw [upd_ne rlal, upd_same]
        · have y2 := of_decide_eq_false y
          rcases hcase with ⟨_, rfl, hcs2⟩ | ⟨hyes, _⟩
          · refine fin _ (i + 1 + n) _ s2 (by omega) hin hcs2 (fun t ht => ?_) _ _ _
            exact ⟨t, al, (j : Int), (ns.drop (i + 1)).take n, rfl, ⟨alD, s1.free hal1⟩, upd_same, .inl ⟨rfl, (same_new ht) _ _ upd_same⟩⟩
          · exact absurd hyes y2
      · have hge : i = ns.length := by
          have := of_decide_eq_false z
          rw [List.length_map] at this
          omega
        rw [hge, List.drop_length] at hcs
        have hr : rest = [] := by
          cases f' with
          | zero => exact (Option.some.inj hcs).symm
          | succ f' => exact (Option.some.inj hcs).symm
        rw [hr, List.append_nil] at hre
        rw [← hre] at hal hsh
        exact ⟨_, rfl, k H1 D ws s1 hD hD1 hal hsh⟩
    · rintro σ H' Q1 Q2 hq h
      obtain ⟨v, h1, v2, h2, p, ys, h3, h4, i, j, h5, h6, c, h7, h8⟩ := h
      exact ⟨v, h1, v2, h2, p, ys, h3, h4, i, j, h5, h6, c, h7, hq _ _ h8⟩
end
end Mill
namespace Mill
open Kp408
/-! ### the state's bounds go on -/
theorem good_step {k : Nat} {st : State} {x : Call} (h : ∀ s, st = some s → Good k s) : ∀ s', (Kp408.step st x).1 = some s' → Good (k + 1) s' := by
  intro s' hs
  cases x with
  | create n =>
    have e : Kp408.step st (.create n) = if n < 2 ∨ 5 < n then (st, single (-22)) else (some ⟨(List.range n).map fun i => List.replicate i 0 ++ [100], List.replicate n 0, List.replicate n 0, 0, 0, 0⟩, single 0) := by
      cases st <;> rfl
    rw [e] at hs
    by_cases c : n < 2 ∨ 5 < n
    · rw [if_pos c] at hs
      exact (h s' hs).mono (Nat.le_succ k)
    · rw [if_neg c] at hs
      cases hs
      exact Good.create (by omega) (by omega)
  | setBreakage i l =>
    cases st with
    | none => cases hs
    | some s =>
      have g := h s rfl
      have hs : (if isClass s i = false then (some s, single (-2)) else if validBreakage i l = false then (some s, single (-22)) else (some { s with breakage := s.breakage.set i l }, single 0) : State × Ans).1 = some s' := hs
      split at hs
      · cases hs; exact g.mono (Nat.le_succ k)
      · split at hs
        · cases hs; exact g.mono (Nat.le_succ k)
        · rename_i h2
          cases hs
          refine (g.setBreakage ?_).mono (Nat.le_succ k)
          cases hv : validBreakage i l with
          | true => rfl
          | false => exact absurd hv h2
  | setFeed l =>
    cases st with
    | none => cases hs
    | some s =>
      have g := h s rfl
      have hs : (if l.length ≠ classCount s ∨ l.any (fun x => decide (100 < x)) = true then (some s, single (-22)) else (some { s with feed := l }, single (s.feed.sum : Nat)) : State × Ans).1 = some s' := hs
      split at hs
      · cases hs; exact g.mono (Nat.le_succ k)
      · rename_i h2
        cases hs
        refine (g.setFeed (Classical.not_not.mp fun q => h2 (.inl q)) fun n hn => Nat.not_lt.mp fun q => h2 (.inr (List.any_eq_true.mpr ⟨n, hn, decide_eq_true q⟩))).mono (Nat.le_succ k)
  | load =>
    cases st with
    | none => cases hs
    | some s =>
      have g := h s rfl
      have hs : (if withinLimit (addAmounts s.amounts (feedAmounts s)) then (some { s with amounts := addAmounts s.amounts (feedAmounts s), loaded := s.loaded + (feedAmounts s).sum }, amountsResult (addAmounts s.amounts (feedAmounts s))) else (some s, single (-75)) : State × Ans).1 = some s' := hs
      split at hs
      · cases hs
        rw [fed_spec]
        exact g.load
      · cases hs; exact g.mono (Nat.le_succ k)
  | grind =>
    cases st with
    | none => cases hs
    | some s =>
      have g := h s rfl
      have hs : (if withinLimit (ground s s.amounts) then (some { s with amounts := ground s s.amounts, passes := s.passes + 1 }, amountsResult (ground s s.amounts)) else (some s, single (-75)) : State × Ans).1 = some s' := hs
      split at hs
      · cases hs
        rw [ground_pass g.shape g.al]
        exact g.grind
      · cases hs; exact g.mono (Nat.le_succ k)
  | removeFiner c =>
    cases st with
    | none => cases hs
    | some s =>
      have g := h s rfl
      have hs : (if validCut s c = false then (some s, single (-22)) else (some { s with amounts := oversize c s.amounts, removed := s.removed + (undersize c s.amounts).sum }, fractionResult (undersize c s.amounts).sum) : State × Ans).1 = some s' := hs
      split at hs
      · cases hs; exact g.mono (Nat.le_succ k)
      · rename_i h2
        cases hs
        have hc : c ≤ s.breakage.length := by
          cases hv : validCut s c with
          | false => exact absurd hv h2
          | true =>
            unfold validCut at hv
            rw [Bool.and_eq_true] at hv
            exact Nat.le_of_lt (of_decide_eq_true hv.2)
        rw [over_spec (by rw [g.al]; exact hc), under_spec]
        exact g.remove hc
  | _ =>
    cases st with
    | none => cases hs
    | some s =>
      have e : some s = some s' := hs
      rw [← Option.some.inj e]
      exact (h s rfl).mono (Nat.le_succ k)
/-- the number of a call as it is read -/
def numOf : List (List Int) → Int
  | (p :: _) :: _ => p
  | _ => 0
theorem afterC_take {cs : List (List (List Int))} {i : Nat} {c : List (List Int)} {s : State} (h : cs[i]? = some c) : afterC s (cs.take (i + 1)) = (Kp408Neutral.step (afterC s (cs.take i)) c).1 := by
  obtain ⟨hi, e⟩ := List.getElem?_eq_some_iff.mp h
  rw [List.take_succ_eq_append_getElem hi, afterC_app, e]
  rfl
theorem toldOf_take {cs : List (List (List Int))} {i : Nat} {c : List (List Int)} (h : cs[i]? = some c) :
    toldOf (cs.take (i + 1)) = toldOf (cs.take i) ++ ((((Kp408Neutral.step (afterC Kp408Neutral.start (cs.take i)) c).2.length : Nat) : Int) :: (Kp408Neutral.step (afterC Kp408Neutral.start (cs.take i)) c).2) := by
  obtain ⟨hi, e⟩ := List.getElem?_eq_some_iff.mp h
  rw [List.take_succ_eq_append_getElem hi, e, toldOf_snoc]
theorem toldOf_prefix (cs : List (List (List Int))) (i : Nat) : (toldOf (cs.take i)).length ≤ (toldOf cs).length := by
  have := toldOf_le (cs.take i) (cs.drop i)
  rw [List.take_append_drop] at this
  exact this
/-- one call, asked -/
theorem step_req {c : List (List Int)} {x : Call} (hc : Kp408Neutral.callOf (PyKp408.whole c) = some x) (st : State) : Kp408Neutral.step st (PyKp408.whole c) = ((Kp408.step st x).1, (Kp408.step st x).2.num :: (Kp408.step st x).2.nums) := by
  unfold Kp408Neutral.step
  rw [hc]
end Mill
namespace Mill
open PySem PySem.Spec PyProof.Rows L2

/-! ### the calls on a circuit, all nineteen -/
theorem MthX.mono {P : Program} {w : World} {K : PySem.W.Frag} {mg : Str → Option Value} {base : Heap} {C : Addr} {m : Str} {j k : Nat} {ps : List Str} {sp : Sp} (h : MthX P w K mg base C m j ps sp) (hk : j ≤ k) : MthX P w K mg base C m k ps sp := by
  obtain ⟨f, fd, h1, h2, h3⟩ := h
  exact ⟨f, fd, h1, h2, h3.mono hk⟩
structure Mths (P : Program) (w : World) (K : PySem.W.Frag) (mg : Str → Option Value) (base : Heap) (C : Addr) (e : Errs) : Prop where
  setB : MthX P w K mg base C "set_breakage" 8 ["self", "size_class", "percentages"] (spSetB C e)
  getB : MthX P w K mg base C "get_breakage" 8 ["self", "size_class"] (spM1 C e .getBreakage)
  setF : MthX P w K mg base C "set_feed" 8 ["self", "feed"] (spSetF C e)
  load : MthX P w K mg base C "load" 8 ["self"] (spM C e [] .load)
  grind : MthX P w K mg base C "grind" 8 ["self"] (spM C e [] .grind)
  remove : MthX P w K mg base C "remove_finer" 8 ["self", "cut"] (spM1 C e .removeFiner)
  getA : MthX P w K mg base C "get_amounts" 8 ["self"] (spM C e [] .getAmounts)
  upTo : MthX P w K mg base C "amount_up_to" 8 ["self", "size_class"] (spM1 C e .amountUpTo)
  preview : MthX P w K mg base C "preview_grind" 8 ["self", "passes"] (spM1 C e .previewGrind)
  hasSt : MthX P w K mg base C "has_steady_state" 8 ["self", "cut"] (spM1 C e .hasSteadyState)
  stIn : MthX P w K mg base C "steady_input" 8 ["self", "cut"] (spM1 C e .steadyInput)
  stPr : MthX P w K mg base C "steady_product" 8 ["self", "cut"] (spM1 C e .steadyProduct)
  stLo : MthX P w K mg base C "steady_load" 8 ["self", "cut"] (spM1 C e .steadyLoad)
  ratio : MthX P w K mg base C "load_ratio" 8 ["self", "cut"] (spM1 C e .loadRatio)
  simul : MthX P w K mg base C "simulate_rounds" 8 ["self", "cut", "rounds"] (spM2 C e .simulateRounds)
  totals : MthX P w K mg base C "totals" 8 ["self"] (spM C e [] .totals)
  needed : MthX P w K mg base C "passes_needed" 8 ["self", "num", "den"] (spM2 C e .passesNeeded)
  coarse : MthX P w K mg base C "coarsest_cut" 8 ["self", "num", "den"] (spM2 C e .coarsestCut)
  getF : MthX P w K mg base C "get_feed" 8 ["self"] (spM C e [] .getFeed)
/-- the arguments of a call, in the heap -/
def ArgsAt (H : Hp) (al : Addr) (c : List (List Int)) : Prop := ∃ (p : Int) (xs : List Int),
  (c = [p :: xs] ∧ H al = some (.lst (xs.map V.int))) ∨ ∃ (rl : Addr) (row : List Int), c = [p :: xs, row] ∧ H al = some (.lst (xs.map V.int ++ [.ref rl])) ∧ H rl = some (.lst (row.map V.int))
theorem ArgsAt.same {H H' : Hp} (s : Same H H') {al : Addr} {c : List (List Int)} (h : ArgsAt H al c) : ArgsAt H' al c := by
  obtain ⟨p, xs, h | ⟨rl, row, e, h1, h2⟩⟩ := h
  · exact ⟨p, xs, .inl ⟨h.1, s _ _ h.2⟩⟩
  · exact ⟨p, xs, .inr ⟨rl, row, e, s _ _ h1, s _ _ h2⟩⟩
theorem args1 {H : Hp} {al : Addr} {p : Int} {xs : List Int} (h : ArgsAt H al [p :: xs]) : H al = some (.lst (xs.map V.int)) := by
  obtain ⟨p', xs', ⟨e, h⟩ | ⟨rl, row, e, _⟩⟩ := h
  · cases e
    exact h
  · cases e
theorem args2 {H : Hp} {al : Addr} {p : Int} {xs row : List Int} (h : ArgsAt H al [p :: xs, row]) : ∃ rl, H al = some (.lst (xs.map V.int ++ [.ref rl])) ∧ H rl = some (.lst (row.map V.int)) := by
  obtain ⟨p', xs', ⟨e, h⟩ | ⟨rl, row, e, h1, h2⟩⟩ := h
  · cases e
  · cases e
    exact ⟨rl, h1, h2⟩
theorem nats_row {H : Hp} {rl : Addr} {l : List Nat} (h : H rl = some (.lst ((l.map fun (x : Nat) => (x : Int)).map V.int))) : IntsAt H rl l := by
  rw [← natV_map] at h
  exact h
theorem if_ne {i j : Int} (h : i ≠ j) {A B : Prop} (k : B) : if decide (V.int i = V.int j) = true then A else B := by
  rw [decide_eq_false (fun z => h (V.int.inj z))]
  exact iteF k
theorem if_eq {i : Int} {A B : Prop} (k : A) : if decide (V.int i = V.int i) = true then A else B := by
  rw [decide_eq_true rfl]
  exact iteT k
def spAsk (C : Addr) (e : Errs) (lo hi : Int) : Sp := fun vs H Q E => ∃ a al bl s k c x, vs = [.ref a, .int (numOf c), .ref al] ∧ ArgsAt H al c ∧ Req c x ∧ lo ≤ numOf c ∧ numOf c ≤ hi ∧ CircAt C H a bl s ∧ Good k s ∧ k ≤ 60 ∧ Wish C e H a bl s (Kp408.step (some s) x) Q E
abbrev sAsk1 : Stmt := top 38
abbrev sAsk10 : Stmt := top 39
def DefX (P : Program) (w : World) (K : PySem.W.Frag) (mg : Str → Option Value) (base : Heap) (x : Str) (k : Nat) (ps : List Str) (sp : Sp) : Prop :=
  ∃ (f : Addr) (fd : FuncData), mg x = some (.ref f) ∧ PySem.W.keepIn K (.ref f) = true ∧ Binds K fd ps [] ∧ FnOk P w K mg base (L2.CX P w) k f fd ps sp
section
variable {X : Cx} {k : Nat} {ps : List Str} {sp : Sp} {x : Str} {p pos : Pos} {e : Expr} {es : List Expr} {t : TA} {E : XK}
theorem pe_defX (D : DefX X.prog X.w X.K X.mg X.base x k ps sp) (hr : Room k X.A) (hg : Gl X x) (hx : Passes (L2.CX X.prog X.w) X E) (ha : PA X (e :: es) t) (hdb : (x == ("__debug__" : Str)) = false := by decide) (he : starEach (e :: es) X.env = (false, eval e X.env) :: starEach es X.env := by rfl) (hpl : (backTo pos (starEach es X.env)).any (·.1) = false := by rfl) :
    PE X (.Call (.Name x p) (e :: es) [] pos) (tCall sp [] E t) := by
  obtain ⟨f, fd, h1, h2, h3, h4⟩ := D
  exact pe_call h4 hr hg h1 h2 h3 .nil hx ha hdb he hpl
end
section
variable {P : Program} {w : World} {K : PySem.W.Frag} {mg : Str → Option Value} {base : Heap} {C : Addr} {e : Errs}
theorem defX_ok {x qual : Str} {st : Stmt} {f : Addr} {fd : FuncData} {N ps : List Str} {k : Nat} {sp : Sp} (F : Fun K x qual st f fd) (S : FnScope N ps (defScope st)) (len : ∀ vs H Q E, sp vs H Q E → vs.length = ps.length) (b : Binds K fd ps []) (hm : mg x = some (.ref f))
    (hbody : ∀ (cdv : Value) (A : Around) (outer : List Env) (s : Shared) (H : Hp) (vs : List V) (Q : VK) (E : XK), Room k (A.deeper (envOfC qual (defScope st) s.heap.objs.size f cdv)) → sp vs H Q E →
      ∃ t, PSs (cxOf (L2.CX P w) P w K mg base N qual (defScope st) f cdv A outer s H E) (defBody st) t ∧ t { nx := fun _ H' => Q .non H', rt := Q } (start N vs) H) : DefX P w K mg base x (k + 1) ps sp :=
  ⟨f, fd, hm, F.kp, b, F.okX S len hbody⟩
theorem scask1 : FnScope ["circuit", "number", "arguments"] ["circuit", "number", "arguments"] (defScope sAsk1) := ⟨rfl, rfl, rfl, by decide +kernel, rfl, by decide +kernel, by decide +kernel⟩
theorem ok_ask1 {f : Addr} {fd : FuncData} (F : Fun K "ask_1_to_9" "ask_1_to_9" sAsk1 f fd) (b : Binds K fd ["circuit", "number", "arguments"] []) (hm : mg "ask_1_to_9" = some (.ref f)) (cl : Cls K C) (M : Mths P w K mg base C e) : DefX P w K mg base "ask_1_to_9" 9 ["circuit", "number", "arguments"] (spAsk C e 1 9) := by
  refine defX_ok F scask1 (fun vs H Q E h => ?_) b hm (fun cdv A outer s H vs Q E hr h => ⟨_, pss_cons (ps_if (pt_cmpR op_eq (pv 1) pe_int (nomark _)) (pss_one (ps_ret (pe_mX (E := E) M.setB (pv 0) cl hr (passes_call (takes_of rfl rfl rfl rfl) (fun _ _ _ _ h => h)) (pa_cons (pe_ix (r := rIxL K) ix_list (pv 2) pe_int (fun _ _ => rfl)) (pa_cons (pe_ix (r := rIxL K) ix_list (pv 2) pe_int (fun _ _ => rfl)) pa_nil))))) pss_nil)
      (pss_cons (ps_if (pt_cmpR op_eq (pv 1) pe_int (nomark _)) (pss_one (ps_ret (pe_mX (E := E) M.getB (pv 0) cl hr (passes_call (takes_of rfl rfl rfl rfl) (fun _ _ _ _ h => h)) (pa_cons (pe_ix (r := rIxL K) ix_list (pv 2) pe_int (fun _ _ => rfl)) pa_nil)))) pss_nil)
      (pss_cons (ps_if (pt_cmpR op_eq (pv 1) pe_int (nomark _)) (pss_one (ps_ret (pe_mX (E := E) M.setF (pv 0) cl hr (passes_call (takes_of rfl rfl rfl rfl) (fun _ _ _ _ h => h)) (pa_cons (pe_ix (r := rIxL K) ix_list (pv 2) pe_int (fun _ _ => rfl)) pa_nil)))) pss_nil)
      (pss_cons (ps_if (pt_cmpR op_eq (pv 1) pe_int (nomark _)) (pss_one (ps_ret (pe_mX0 (E := E) M.load (pv 0) cl hr (passes_call (takes_of rfl rfl rfl rfl) (fun _ _ _ _ h => h))))) pss_nil)
      (pss_cons (ps_if (pt_cmpR op_eq (pv 1) pe_int (nomark _)) (pss_one (ps_ret (pe_mX0 (E := E) M.grind (pv 0) cl hr (passes_call (takes_of rfl rfl rfl rfl) (fun _ _ _ _ h => h))))) pss_nil)
      (pss_cons (ps_if (pt_cmpR op_eq (pv 1) pe_int (nomark _)) (pss_one (ps_ret (pe_mX (E := E) M.remove (pv 0) cl hr (passes_call (takes_of rfl rfl rfl rfl) (fun _ _ _ _ h => h)) (pa_cons (pe_ix (r := rIxL K) ix_list (pv 2) pe_int (fun _ _ => rfl)) pa_nil)))) pss_nil)
      (pss_cons (ps_if (pt_cmpR op_eq (pv 1) pe_int (nomark _)) (pss_one (ps_ret (pe_mX0 (E := E) M.getA (pv 0) cl hr (passes_call (takes_of rfl rfl rfl rfl) (fun _ _ _ _ h => h))))) pss_nil)
      (pss_cons (ps_if (pt_cmpR op_eq (pv 1) pe_int (nomark _)) (pss_one (ps_ret (pe_mX (E := E) M.upTo (pv 0) cl hr (passes_call (takes_of rfl rfl rfl rfl) (fun _ _ _ _ h => h)) (pa_cons (pe_ix (r := rIxL K) ix_list (pv 2) pe_int (fun _ _ => rfl)) pa_nil)))) pss_nil)
      (pss_one (ps_ret (pe_mX (E := E) M.preview (pv 0) cl hr (passes_call (takes_of rfl rfl rfl rfl) (fun _ _ _ _ h => h)) (pa_cons (pe_ix (r := rIxL K) ix_list (pv 2) pe_int (fun _ _ => rfl)) pa_nil))))))))))), ?_⟩)
  · obtain ⟨a, al, bl, s, k, c, x, rfl, _⟩ := h
    rfl
  · obtain ⟨a, al, bl, s, k, c, x, rfl, hA, hq, hlo, hhi, hc, g, hk, W⟩ := h
    obtain ⟨dx, fl, am, l0, r0, cc⟩ := id hc
    cases hq with
    | create i =>
      exact absurd (show (1 : Int) ≤ 0 from hlo) (by decide)
    | setBreakage i l h8 =>
      obtain ⟨rl, hl, hrow⟩ := args2 hA
      exact ⟨_, rfl, rfl, _, rfl, if_eq ⟨_, rfl, a, dx, _, rfl, cc.ob, cF_none (by decide +kernel), _, rfl, al, _, _, _, rfl, rfl, SqL.of hl, at_of (j := 0) rfl rfl, _, rfl, al, _, _, _, rfl, rfl, SqL.of hl, at_of (j := 1) rfl rfl, i, rl, l, nats_row hrow, a, bl, s, k, rfl, hc, g, hk, W⟩⟩
    | getBreakage i =>
      have hl := args1 hA
      exact ⟨_, rfl, rfl, _, rfl, if_ne (show (2 : Int) ≠ 1 by decide) ⟨_, rfl, rfl, _, rfl, if_eq ⟨_, rfl, a, dx, _, rfl, cc.ob, cF_none (by decide +kernel), _, rfl, al, _, _, _, rfl, rfl, SqL.of hl, at_of (j := 0) rfl rfl, i, a, bl, s, k, rfl, hc, g, hk, W⟩⟩⟩
    | setFeed l h8 =>
      obtain ⟨rl, hl, hrow⟩ := args2 hA
      exact ⟨_, rfl, rfl, _, rfl, if_ne (show (3 : Int) ≠ 1 by decide) ⟨_, rfl, rfl, _, rfl, if_ne (show (3 : Int) ≠ 2 by decide) ⟨_, rfl, rfl, _, rfl, if_eq ⟨_, rfl, a, dx, _, rfl, cc.ob, cF_none (by decide +kernel), _, rfl, al, _, _, _, rfl, rfl, SqL.of hl, at_of (j := 0) rfl rfl, rl, l, nats_row hrow, a, bl, s, k, rfl, hc, g, hk, W⟩⟩⟩⟩
    | load  =>
      exact ⟨_, rfl, rfl, _, rfl, if_ne (show (4 : Int) ≠ 1 by decide) ⟨_, rfl, rfl, _, rfl, if_ne (show (4 : Int) ≠ 2 by decide) ⟨_, rfl, rfl, _, rfl, if_ne (show (4 : Int) ≠ 3 by decide) ⟨_, rfl, rfl, _, rfl, if_eq ⟨_, rfl, a, dx, _, rfl, cc.ob, cF_none (by decide +kernel), a, bl, s, k, rfl, hc, g, hk, W⟩⟩⟩⟩⟩
    | grind  =>
      exact ⟨_, rfl, rfl, _, rfl, if_ne (show (5 : Int) ≠ 1 by decide) ⟨_, rfl, rfl, _, rfl, if_ne (show (5 : Int) ≠ 2 by decide) ⟨_, rfl, rfl, _, rfl, if_ne (show (5 : Int) ≠ 3 by decide) ⟨_, rfl, rfl, _, rfl, if_ne (show (5 : Int) ≠ 4 by decide) ⟨_, rfl, rfl, _, rfl, if_eq ⟨_, rfl, a, dx, _, rfl, cc.ob, cF_none (by decide +kernel), a, bl, s, k, rfl, hc, g, hk, W⟩⟩⟩⟩⟩⟩
    | removeFiner i =>
      have hl := args1 hA
      exact ⟨_, rfl, rfl, _, rfl, if_ne (show (6 : Int) ≠ 1 by decide) ⟨_, rfl, rfl, _, rfl, if_ne (show (6 : Int) ≠ 2 by decide) ⟨_, rfl, rfl, _, rfl, if_ne (show (6 : Int) ≠ 3 by decide) ⟨_, rfl, rfl, _, rfl, if_ne (show (6 : Int) ≠ 4 by decide) ⟨_, rfl, rfl, _, rfl, if_ne (show (6 : Int) ≠ 5 by decide) ⟨_, rfl, rfl, _, rfl, if_eq ⟨_, rfl, a, dx, _, rfl, cc.ob, cF_none (by decide +kernel), _, rfl, al, _, _, _, rfl, rfl, SqL.of hl, at_of (j := 0) rfl rfl, i, a, bl, s, k, rfl, hc, g, hk, W⟩⟩⟩⟩⟩⟩⟩
    | getAmounts  =>
      exact ⟨_, rfl, rfl, _, rfl, if_ne (show (7 : Int) ≠ 1 by decide) ⟨_, rfl, rfl, _, rfl, if_ne (show (7 : Int) ≠ 2 by decide) ⟨_, rfl, rfl, _, rfl, if_ne (show (7 : Int) ≠ 3 by decide) ⟨_, rfl, rfl, _, rfl, if_ne (show (7 : Int) ≠ 4 by decide) ⟨_, rfl, rfl, _, rfl, if_ne (show (7 : Int) ≠ 5 by decide) ⟨_, rfl, rfl, _, rfl, if_ne (show (7 : Int) ≠ 6 by decide) ⟨_, rfl, rfl, _, rfl, if_eq ⟨_, rfl, a, dx, _, rfl, cc.ob, cF_none (by decide +kernel), a, bl, s, k, rfl, hc, g, hk, W⟩⟩⟩⟩⟩⟩⟩⟩
    | amountUpTo i =>
      have hl := args1 hA
      exact ⟨_, rfl, rfl, _, rfl, if_ne (show (8 : Int) ≠ 1 by decide) ⟨_, rfl, rfl, _, rfl, if_ne (show (8 : Int) ≠ 2 by decide) ⟨_, rfl, rfl, _, rfl, if_ne (show (8 : Int) ≠ 3 by decide) ⟨_, rfl, rfl, _, rfl, if_ne (show (8 : Int) ≠ 4 by decide) ⟨_, rfl, rfl, _, rfl, if_ne (show (8 : Int) ≠ 5 by decide) ⟨_, rfl, rfl, _, rfl, if_ne (show (8 : Int) ≠ 6 by decide) ⟨_, rfl, rfl, _, rfl, if_ne (show (8 : Int) ≠ 7 by decide) ⟨_, rfl, rfl, _, rfl, if_eq ⟨_, rfl, a, dx, _, rfl, cc.ob, cF_none (by decide +kernel), _, rfl, al, _, _, _, rfl, rfl, SqL.of hl, at_of (j := 0) rfl rfl, i, a, bl, s, k, rfl, hc, g, hk, W⟩⟩⟩⟩⟩⟩⟩⟩⟩
    | previewGrind i =>
      have hl := args1 hA
      exact ⟨_, rfl, rfl, _, rfl, if_ne (show (9 : Int) ≠ 1 by decide) ⟨_, rfl, rfl, _, rfl, if_ne (show (9 : Int) ≠ 2 by decide) ⟨_, rfl, rfl, _, rfl, if_ne (show (9 : Int) ≠ 3 by decide) ⟨_, rfl, rfl, _, rfl, if_ne (show (9 : Int) ≠ 4 by decide) ⟨_, rfl, rfl, _, rfl, if_ne (show (9 : Int) ≠ 5 by decide) ⟨_, rfl, rfl, _, rfl, if_ne (show (9 : Int) ≠ 6 by decide) ⟨_, rfl, rfl, _, rfl, if_ne (show (9 : Int) ≠ 7 by decide) ⟨_, rfl, rfl, _, rfl, if_ne (show (9 : Int) ≠ 8 by decide) ⟨_, rfl, a, dx, _, rfl, cc.ob, cF_none (by decide +kernel), _, rfl, al, _, _, _, rfl, rfl, SqL.of hl, at_of (j := 0) rfl rfl, i, a, bl, s, k, rfl, hc, g, hk, W⟩⟩⟩⟩⟩⟩⟩⟩⟩
    | hasSteadyState i =>
      exact absurd (show (10 : Int) ≤ 9 from hhi) (by decide)
    | steadyInput i =>
      exact absurd (show (11 : Int) ≤ 9 from hhi) (by decide)
    | steadyProduct i =>
      exact absurd (show (12 : Int) ≤ 9 from hhi) (by decide)
    | steadyLoad i =>
      exact absurd (show (13 : Int) ≤ 9 from hhi) (by decide)
    | loadRatio i =>
      exact absurd (show (14 : Int) ≤ 9 from hhi) (by decide)
    | simulateRounds i j =>
      exact absurd (show (15 : Int) ≤ 9 from hhi) (by decide)
    | totals  =>
      exact absurd (show (16 : Int) ≤ 9 from hhi) (by decide)
    | passesNeeded i j =>
      exact absurd (show (17 : Int) ≤ 9 from hhi) (by decide)
    | coarsestCut i j =>
      exact absurd (show (18 : Int) ≤ 9 from hhi) (by decide)
    | getFeed  =>
      exact absurd (show (19 : Int) ≤ 9 from hhi) (by decide)
theorem scask10 : FnScope ["circuit", "number", "arguments"] ["circuit", "number", "arguments"] (defScope sAsk10) := ⟨rfl, rfl, rfl, by decide +kernel, rfl, by decide +kernel, by decide +kernel⟩
theorem ok_ask10 {f : Addr} {fd : FuncData} (F : Fun K "ask_10_to_19" "ask_10_to_19" sAsk10 f fd) (b : Binds K fd ["circuit", "number", "arguments"] []) (hm : mg "ask_10_to_19" = some (.ref f)) (cl : Cls K C) (M : Mths P w K mg base C e) : DefX P w K mg base "ask_10_to_19" 9 ["circuit", "number", "arguments"] (spAsk C e 10 19) := by
  refine defX_ok F scask10 (fun vs H Q E h => ?_) b hm (fun cdv A outer s H vs Q E hr h => ⟨_, pss_cons (ps_if (pt_cmpR op_eq (pv 1) pe_int (nomark _)) (pss_one (ps_ret (pe_mX (E := E) M.hasSt (pv 0) cl hr (passes_call (takes_of rfl rfl rfl rfl) (fun _ _ _ _ h => h)) (pa_cons (pe_ix (r := rIxL K) ix_list (pv 2) pe_int (fun _ _ => rfl)) pa_nil)))) pss_nil)
      (pss_cons (ps_if (pt_cmpR op_eq (pv 1) pe_int (nomark _)) (pss_one (ps_ret (pe_mX (E := E) M.stIn (pv 0) cl hr (passes_call (takes_of rfl rfl rfl rfl) (fun _ _ _ _ h => h)) (pa_cons (pe_ix (r := rIxL K) ix_list (pv 2) pe_int (fun _ _ => rfl)) pa_nil)))) pss_nil)
      (pss_cons (ps_if (pt_cmpR op_eq (pv 1) pe_int (nomark _)) (pss_one (ps_ret (pe_mX (E := E) M.stPr (pv 0) cl hr (passes_call (takes_of rfl rfl rfl rfl) (fun _ _ _ _ h => h)) (pa_cons (pe_ix (r := rIxL K) ix_list (pv 2) pe_int (fun _ _ => rfl)) pa_nil)))) pss_nil)
      (pss_cons (ps_if (pt_cmpR op_eq (pv 1) pe_int (nomark _)) (pss_one (ps_ret (pe_mX (E := E) M.stLo (pv 0) cl hr (passes_call (takes_of rfl rfl rfl rfl) (fun _ _ _ _ h => h)) (pa_cons (pe_ix (r := rIxL K) ix_list (pv 2) pe_int (fun _ _ => rfl)) pa_nil)))) pss_nil)
      (pss_cons (ps_if (pt_cmpR op_eq (pv 1) pe_int (nomark _)) (pss_one (ps_ret (pe_mX (E := E) M.ratio (pv 0) cl hr (passes_call (takes_of rfl rfl rfl rfl) (fun _ _ _ _ h => h)) (pa_cons (pe_ix (r := rIxL K) ix_list (pv 2) pe_int (fun _ _ => rfl)) pa_nil)))) pss_nil)
      (pss_cons (ps_if (pt_cmpR op_eq (pv 1) pe_int (nomark _)) (pss_one (ps_ret (pe_mX (E := E) M.simul (pv 0) cl hr (passes_call (takes_of rfl rfl rfl rfl) (fun _ _ _ _ h => h)) (pa_cons (pe_ix (r := rIxL K) ix_list (pv 2) pe_int (fun _ _ => rfl)) (pa_cons (pe_ix (r := rIxL K) ix_list (pv 2) pe_int (fun _ _ => rfl)) pa_nil))))) pss_nil)
      (pss_cons (ps_if (pt_cmpR op_eq (pv 1) pe_int (nomark _)) (pss_one (ps_ret (pe_mX0 (E := E) M.totals (pv 0) cl hr (passes_call (takes_of rfl rfl rfl rfl) (fun _ _ _ _ h => h))))) pss_nil)
      (pss_cons (ps_if (pt_cmpR op_eq (pv 1) pe_int (nomark _)) (pss_one (ps_ret (pe_mX (E := E) M.needed (pv 0) cl hr (passes_call (takes_of rfl rfl rfl rfl) (fun _ _ _ _ h => h)) (pa_cons (pe_ix (r := rIxL K) ix_list (pv 2) pe_int (fun _ _ => rfl)) (pa_cons (pe_ix (r := rIxL K) ix_list (pv 2) pe_int (fun _ _ => rfl)) pa_nil))))) pss_nil)
      (pss_cons (ps_if (pt_cmpR op_eq (pv 1) pe_int (nomark _)) (pss_one (ps_ret (pe_mX (E := E) M.coarse (pv 0) cl hr (passes_call (takes_of rfl rfl rfl rfl) (fun _ _ _ _ h => h)) (pa_cons (pe_ix (r := rIxL K) ix_list (pv 2) pe_int (fun _ _ => rfl)) (pa_cons (pe_ix (r := rIxL K) ix_list (pv 2) pe_int (fun _ _ => rfl)) pa_nil))))) pss_nil)
      (pss_one (ps_ret (pe_mX0 (E := E) M.getF (pv 0) cl hr (passes_call (takes_of rfl rfl rfl rfl) (fun _ _ _ _ h => h))))))))))))), ?_⟩)
  · obtain ⟨a, al, bl, s, k, c, x, rfl, _⟩ := h
    rfl
  · obtain ⟨a, al, bl, s, k, c, x, rfl, hA, hq, hlo, hhi, hc, g, hk, W⟩ := h
    obtain ⟨dx, fl, am, l0, r0, cc⟩ := id hc
    cases hq with
    | create i =>
      exact absurd (show (10 : Int) ≤ 0 from hlo) (by decide)
    | setBreakage i l h8 =>
      exact absurd (show (10 : Int) ≤ 1 from hlo) (by decide)
    | getBreakage i =>
      exact absurd (show (10 : Int) ≤ 2 from hlo) (by decide)
    | setFeed l h8 =>
      exact absurd (show (10 : Int) ≤ 3 from hlo) (by decide)
    | load  =>
      exact absurd (show (10 : Int) ≤ 4 from hlo) (by decide)
    | grind  =>
      exact absurd (show (10 : Int) ≤ 5 from hlo) (by decide)
    | removeFiner i =>
      exact absurd (show (10 : Int) ≤ 6 from hlo) (by decide)
    | getAmounts  =>
      exact absurd (show (10 : Int) ≤ 7 from hlo) (by decide)
    | amountUpTo i =>
      exact absurd (show (10 : Int) ≤ 8 from hlo) (by decide)
    | previewGrind i =>
      exact absurd (show (10 : Int) ≤ 9 from hlo) (by decide)
    | hasSteadyState i =>
      have hl := args1 hA
      exact ⟨_, rfl, rfl, _, rfl, if_eq ⟨_, rfl, a, dx, _, rfl, cc.ob, cF_none (by decide +kernel), _, rfl, al, _, _, _, rfl, rfl, SqL.of hl, at_of (j := 0) rfl rfl, i, a, bl, s, k, rfl, hc, g, hk, W⟩⟩
    | steadyInput i =>
      have hl := args1 hA
      exact ⟨_, rfl, rfl, _, rfl, if_ne (show (11 : Int) ≠ 10 by decide) ⟨_, rfl, rfl, _, rfl, if_eq ⟨_, rfl, a, dx, _, rfl, cc.ob, cF_none (by decide +kernel), _, rfl, al, _, _, _, rfl, rfl, SqL.of hl, at_of (j := 0) rfl rfl, i, a, bl, s, k, rfl, hc, g, hk, W⟩⟩⟩
    | steadyProduct i =>
      have hl := args1 hA
      exact ⟨_, rfl, rfl, _, rfl, if_ne (show (12 : Int) ≠ 10 by decide) ⟨_, rfl, rfl, _, rfl, if_ne (show (12 : Int) ≠ 11 by decide) ⟨_, rfl, rfl, _, rfl, if_eq ⟨_, rfl, a, dx, _, rfl, cc.ob, cF_none (by decide +kernel), _, rfl, al, _, _, _, rfl, rfl, SqL.of hl, at_of (j := 0) rfl rfl, i, a, bl, s, k, rfl, hc, g, hk, W⟩⟩⟩⟩
    | steadyLoad i =>
      have hl := args1 hA
      exact ⟨_, rfl, rfl, _, rfl, if_ne (show (13 : Int) ≠ 10 by decide) ⟨_, rfl, rfl, _, rfl, if_ne (show (13 : Int) ≠ 11 by decide) ⟨_, rfl, rfl, _, rfl, if_ne (show (13 : Int) ≠ 12 by decide) ⟨_, rfl, rfl, _, rfl, if_eq ⟨_, rfl, a, dx, _, rfl, cc.ob, cF_none (by decide +kernel), _, rfl, al, _, _, _, rfl, rfl, SqL.of hl, at_of (j := 0) rfl rfl, i, a, bl, s, k, rfl, hc, g, hk, W⟩⟩⟩⟩⟩
    | loadRatio i =>
      have hl := args1 hA
      exact ⟨_, rfl, rfl, _, rfl, if_ne (show (14 : Int) ≠ 10 by decide) ⟨_, rfl, rfl, _, rfl, if_ne (show (14 : Int) ≠ 11 by decide) ⟨_, rfl, rfl, _, rfl, if_ne (show (14 : Int) ≠ 12 by decide) ⟨_, rfl, rfl, _, rfl, if_ne (show (14 : Int) ≠ 13 by decide) ⟨_, rfl, rfl, _, rfl, if_eq ⟨_, rfl, a, dx, _, rfl, cc.ob, cF_none (by decide +kernel), _, rfl, al, _, _, _, rfl, rfl, SqL.of hl, at_of (j := 0) rfl rfl, i, a, bl, s, k, rfl, hc, g, hk, W⟩⟩⟩⟩⟩⟩
    | simulateRounds i j =>
      have hl := args1 hA
      exact ⟨_, rfl, rfl, _, rfl, if_ne (show (15 : Int) ≠ 10 by decide) ⟨_, rfl, rfl, _, rfl, if_ne (show (15 : Int) ≠ 11 by decide) ⟨_, rfl, rfl, _, rfl, if_ne (show (15 : Int) ≠ 12 by decide) ⟨_, rfl, rfl, _, rfl, if_ne (show (15 : Int) ≠ 13 by decide) ⟨_, rfl, rfl, _, rfl, if_ne (show (15 : Int) ≠ 14 by decide) ⟨_, rfl, rfl, _, rfl, if_eq ⟨_, rfl, a, dx, _, rfl, cc.ob, cF_none (by decide +kernel), _, rfl, al, _, _, _, rfl, rfl, SqL.of hl, at_of (j := 0) rfl rfl, _, rfl, al, _, _, _, rfl, rfl, SqL.of hl, at_of (j := 1) rfl rfl, i, j, a, bl, s, k, rfl, hc, g, hk, W⟩⟩⟩⟩⟩⟩⟩
    | totals  =>
      exact ⟨_, rfl, rfl, _, rfl, if_ne (show (16 : Int) ≠ 10 by decide) ⟨_, rfl, rfl, _, rfl, if_ne (show (16 : Int) ≠ 11 by decide) ⟨_, rfl, rfl, _, rfl, if_ne (show (16 : Int) ≠ 12 by decide) ⟨_, rfl, rfl, _, rfl, if_ne (show (16 : Int) ≠ 13 by decide) ⟨_, rfl, rfl, _, rfl, if_ne (show (16 : Int) ≠ 14 by decide) ⟨_, rfl, rfl, _, rfl, if_ne (show (16 : Int) ≠ 15 by decide) ⟨_, rfl, rfl, _, rfl, if_eq ⟨_, rfl, a, dx, _, rfl, cc.ob, cF_none (by decide +kernel), a, bl, s, k, rfl, hc, g, hk, W⟩⟩⟩⟩⟩⟩⟩⟩
    | passesNeeded i j =>
      have hl := args1 hA
      exact ⟨_, rfl, rfl, _, rfl, if_ne (show (17 : Int) ≠ 10 by decide) ⟨_, rfl, rfl, _, rfl, if_ne (show (17 : Int) ≠ 11 by decide) ⟨_, rfl, rfl, _, rfl, if_ne (show (17 : Int) ≠ 12 by decide) ⟨_, rfl, rfl, _, rfl, if_ne (show (17 : Int) ≠ 13 by decide) ⟨_, rfl, rfl, _, rfl, if_ne (show (17 : Int) ≠ 14 by decide) ⟨_, rfl, rfl, _, rfl, if_ne (show (17 : Int) ≠ 15 by decide) ⟨_, rfl, rfl, _, rfl, if_ne (show (17 : Int) ≠ 16 by decide) ⟨_, rfl, rfl, _, rfl, if_eq ⟨_, rfl, a, dx, _, rfl, cc.ob, cF_none (by decide +kernel), _, rfl, al, _, _, _, rfl, rfl, SqL.of hl, at_of (j := 0) rfl rfl, _, rfl, al, _, _, _, rfl, rfl, SqL.of hl, at_of (j := 1) rfl rfl, i, j, a, bl, s, k, rfl, hc, g, hk, W⟩⟩⟩⟩⟩⟩⟩⟩⟩
    | coarsestCut i j =>
      have hl := args1 hA
      exact ⟨_, rfl, rfl, _, rfl, if_ne (show (18 : Int) ≠ 10 by decide) ⟨_, rfl, rfl, _, rfl, if_ne (show (18 : Int) ≠ 11 by decide) ⟨_, rfl, rfl, _, rfl, if_ne (show (18 : Int) ≠ 12 by decide) ⟨_, rfl, rfl, _, rfl, if_ne (show (18 : Int) ≠ 13 by decide) ⟨_, rfl, rfl, _, rfl, if_ne (show (18 : Int) ≠ 14 by decide) ⟨_, rfl, rfl, _, rfl, if_ne (show (18 : Int) ≠ 15 by decide) ⟨_, rfl, rfl, _, rfl, if_ne (show (18 : Int) ≠ 16 by decide) ⟨_, rfl, rfl, _, rfl, if_ne (show (18 : Int) ≠ 17 by decide) ⟨_, rfl, rfl, _, rfl, if_eq ⟨_, rfl, a, dx, _, rfl, cc.ob, cF_none (by decide +kernel), _, rfl, al, _, _, _, rfl, rfl, SqL.of hl, at_of (j := 0) rfl rfl, _, rfl, al, _, _, _, rfl, rfl, SqL.of hl, at_of (j := 1) rfl rfl, i, j, a, bl, s, k, rfl, hc, g, hk, W⟩⟩⟩⟩⟩⟩⟩⟩⟩⟩
    | getFeed  =>
      exact ⟨_, rfl, rfl, _, rfl, if_ne (show (19 : Int) ≠ 10 by decide) ⟨_, rfl, rfl, _, rfl, if_ne (show (19 : Int) ≠ 11 by decide) ⟨_, rfl, rfl, _, rfl, if_ne (show (19 : Int) ≠ 12 by decide) ⟨_, rfl, rfl, _, rfl, if_ne (show (19 : Int) ≠ 13 by decide) ⟨_, rfl, rfl, _, rfl, if_ne (show (19 : Int) ≠ 14 by decide) ⟨_, rfl, rfl, _, rfl, if_ne (show (19 : Int) ≠ 15 by decide) ⟨_, rfl, rfl, _, rfl, if_ne (show (19 : Int) ≠ 16 by decide) ⟨_, rfl, rfl, _, rfl, if_ne (show (19 : Int) ≠ 17 by decide) ⟨_, rfl, rfl, _, rfl, if_ne (show (19 : Int) ≠ 18 by decide) ⟨_, rfl, a, dx, _, rfl, cc.ob, cF_none (by decide +kernel), a, bl, s, k, rfl, hc, g, hk, W⟩⟩⟩⟩⟩⟩⟩⟩⟩⟩
end
end Mill
namespace Mill
open PySem PySem.Spec PyProof.Rows L2
abbrev sInitD : Stmt := inClass (top 40) 0
abbrev sCreate : Stmt := inClass (top 40) 1
abbrev sCarry : Stmt := inClass (top 40) 2
abbrev sAnswer : Stmt := inClass (top 40) 3
/-! ### the desk in the heap -/
def dF (v : V) : List (Str × V) := [("circuit", v)]
theorem dF_ci {v : V} : (dF v).lookup ("circuit" : Str) = some v := lk_here
theorem dF_put {v x : V} : putF "circuit" x (dF v) = dF x := put_here
theorem dF_none {v : V} {m : Str} (h : (m == ("circuit" : Str)) = false) : (dF v).lookup m = none := (lk_past h).trans rfl
def DeskIs (C Dc : Addr) (H : Hp) (d a bl : Addr) : Kp408.State → Prop
  | none => ∃ dx, H d = some (.ins Dc dx (dF .non))
  | some s => ∃ dx, H d = some (.ins Dc dx (dF (.ref a))) ∧ CircAt C H a bl s
theorem DeskIs.same {C Dc : Addr} {H H' : Hp} (ss : Same H H') {d a bl : Addr} {st : Kp408.State} (h : DeskIs C Dc H d a bl st) : DeskIs C Dc H' d a bl st := by
  cases st with
  | none =>
    obtain ⟨dx, h⟩ := h
    exact ⟨dx, ss _ _ h⟩
  | some s =>
    obtain ⟨dx, h, c⟩ := h
    exact ⟨dx, ss _ _ h, c.same ss⟩
def Mine (st : Kp408.State) (a bl b : Addr) : Prop := ∃ s, st = some s ∧ (b = a ∨ b = bl)
/-- what one call is to do at the desk -/
def Done (C Dc : Addr) (H : Hp) (d a bl : Addr) (st : Kp408.State) (r : Kp408.State × Kp408.Ans) (Q : VK) : Prop :=
  ∀ H' p a' bl', DeskIs C Dc H' d a' bl' r.1 → (∀ s', r.1 = some s' → (Mine st a bl a' ∧ Mine st a bl bl') ∨ (H a' = none ∧ H bl' = none)) → H' p = some (.lst ((r.2.num :: r.2.nums).map V.int)) →
    (∀ b o, H b = some o → b ≠ d → ¬ Mine st a bl b → H' b = some o) → H p = none → Q (.ref p) H'
def Fails (e : Errs) (H : Hp) (st : Kp408.State) (r : Kp408.State × Kp408.Ans) (E : XK) : Prop := ∀ code cls, r = (st, Kp408.single code) → e.of code = some cls → ∀ H', Same H H' → E (.ref cls) none H'
def spInitD (Dc : Addr) : Sp := fun vs H Q _ => ∃ p dx, vs = [.ref p] ∧ H p = some (.ins Dc dx []) ∧ ∀ H', H' p = some (.ins Dc dx (dF .non)) → Off p H H' → Q .non H'
def spCreate (C Dc : Addr) (e : Errs) : Sp := fun vs H Q E => ∃ d dx cv, ∃ n : Nat, vs = [.ref d, natV n] ∧ H d = some (.ins Dc dx (dF cv)) ∧ (¬ (2 ≤ n ∧ n ≤ 5) → ∀ H', Same H H' → E (.ref e.ba) none H') ∧
  (2 ≤ n ∧ n ≤ 5 → ∀ H' p a bl, H a = none → H bl = none → H' d = some (.ins Dc dx (dF (.ref a))) → CircAt C H' a bl (freshC n) → H' p = some (.lst [.int 0]) → Off d H H' → H p = none → Q (.ref p) H')
def spCarry (C Dc : Addr) (e : Errs) : Sp := fun vs H Q E => ∃ d al a bl st k c x, vs = [.ref d, .int (numOf c), .ref al] ∧ DeskIs C Dc H d a bl st ∧ ArgsAt H al c ∧ Req c x ∧ (∀ s, st = some s → Good k s) ∧ k ≤ 60 ∧
  Done C Dc H d a bl st (Kp408.step st x) Q ∧ Fails e H st (Kp408.step st x) E
def spAnswer (C Dc : Addr) : Sp := fun vs H Q _ => ∃ d al a bl st k c x, vs = [.ref d, .int (numOf c), .ref al] ∧ DeskIs C Dc H d a bl st ∧ ArgsAt H al c ∧ Req c x ∧ (∀ s, st = some s → Good k s) ∧ k ≤ 60 ∧ Done C Dc H d a bl st (Kp408.step st x) Q
structure TxtD (K : PySem.W.Frag) (Dc : Addr) : Prop where
  cl : Cls K Dc
  ci : NoAttr K Dc "circuit"
section
variable {P : Program} {w : World} {K : PySem.W.Frag} {mg : Str → Option Value} {base : Heap} {C Dc : Addr} {e : Errs}
theorem scInitD : FnScope ["self"] ["self"] (defScope sInitD) := ⟨rfl, rfl, rfl, by decide +kernel, rfl, by decide +kernel, by decide +kernel⟩
theorem ok_initD {f : Addr} {fd : FuncData} (F : Fun K "__init__" "Desk.__init__" sInitD f fd) (T : TxtD K Dc) : FnOk P w K mg base CX0 1 f fd ["self"] (spInitD Dc) := by
  refine F.ok scInitD (fun vs H Q E h => ?_) (fun cdv A outer s H vs Q E hr h => ⟨_, pss_one (ps_fld (pv 0) pe_non rfl), ?_⟩)
  · obtain ⟨p, dx, rfl, _⟩ := h
    rfl
  · obtain ⟨p, dx, rfl, hp, k⟩ := h
    refine ⟨_, rfl, p, Dc, dx, [], rfl, hp, T.cl, T.ci, (by show 0 < 1000; decide), k _ ?_ Off.upd⟩
    rw [upd_same]
    rfl
theorem scCreate : FnScope ["self", "class_count"] ["self", "class_count"] (defScope sCreate) := ⟨rfl, rfl, rfl, by decide +kernel, rfl, by decide +kernel, by decide +kernel⟩
theorem ok_create {f fI : Addr} {fd fdI : FuncData} (F : Fun K "create" "Desk.create" sCreate f fd) (b : Binds K fd ["self", "class_count"] []) (hm : Meth K Dc "create" f) (T : TxtD K Dc) (M : Mk K C fI) (G : FnOk P w K mg base (L2.CX P w) 2 fI fdI ["self", "class_count"] (spInitC C e)) (bI : Binds K fdI ["self", "class_count"] []) (gC : mg "Circuit" = some (.ref C)) :
    MthX P w K mg base Dc "create" 4 ["self", "class_count"] (spCreate C Dc e) := by
  refine mth_ok F scCreate (fun vs H Q E h => ?_) b hm (fun cdv A outer s H vs Q E hr h => ⟨_, pss_cons (ps_fld (pv 0) (pe_make (E := E) M G hr rfl gC bI .nil (passes_call (takes_of rfl rfl rfl rfl) (fun _ _ _ _ h => h)) (pa_cons (pv 1) pa_nil)) rfl)
    (pss_one (ps_ret (pe_lst (pa_cons pe_int pa_nil)))), ?_⟩)
  · obtain ⟨d, dx, cv, n, rfl, _⟩ := h
    rfl
  · obtain ⟨d, dx, cv, n, rfl, hd, kN, kS⟩ := h
    refine ⟨_, rfl, fun x dc nx nd ne => ?_⟩
    have sx : Same H (upd (upd H dc (.own x)) x (.ins C dc [])) := fun b o q => by
      rw [upd_ne (ne_of_none q nx), upd_ne (ne_of_none q nd)]
      exact q
    refine ⟨x, dc, n, rfl, upd_same, fun z => kN z _ sx, fun hn H2 bl hc nbl ho => ⟨rfl, ?_⟩⟩
    have nbl0 : H bl = none := sx.free nbl
    have s2 : Same H H2 := fun b o q => ho b o (ne_of_none q nx) (sx b o q)
    have hd2 := s2 _ _ hd
    have xd : x ≠ d := fun z => by rw [z, hd] at nx; cases nx
    refine ⟨_, rfl, d, Dc, dx, _, rfl, hd2, T.cl, T.ci, (by show 1 < 1000; decide), one_line, fun p hp => ?_⟩
    have so : Off d H2 (upd H2 d (.ins Dc dx (putF "circuit" (.ref x) (dF cv)))) := Off.upd
    have sp := same_new (o := .lst [V.int 0]) hp
    obtain ⟨dx', fl, al, lo, re, c⟩ := hc
    have c3 : Circ C (upd H2 d (.ins Dc dx (putF "circuit" (.ref x) (dF cv)))) x bl dx' fl al lo re (freshC n) := ⟨so _ _ xd c.ob, c.mat.offI so hd2, c.ft.offI so hd2, c.am.offI so hd2, c.ld.offI so hd2, c.rm.offI so hd2⟩
    refine kS hn _ p x bl nx nbl0 (sp _ _ ?_) ⟨dx', fl, al, lo, re, c3.same sp⟩ upd_same ((off_of s2).trans (so.trans (off_of sp))) (s2.free (fr_upd hp))
    rw [upd_same]
    rfl
theorem scCarry : FnScope ["self", "number", "arguments"] ["self", "number", "arguments"] (defScope sCarry) := ⟨rfl, rfl, rfl, by decide +kernel, rfl, by decide +kernel, by decide +kernel⟩
theorem req_num {c : List (List Int)} {x : Kp408.Call} (h : Req c x) : (numOf c = 0 ∧ ∃ n : Nat, c = [[0, (n : Int)]] ∧ x = .create n) ∨ (1 ≤ numOf c ∧ numOf c ≤ 19 ∧ ∀ st : Kp408.State, st = none → Kp408.step st x = (none, Kp408.single (-11))) := by
  cases h with
  | create n => exact .inl ⟨rfl, n, rfl, rfl⟩
  | _ => exact .inr ⟨by simp only [numOf]; decide, by simp only [numOf]; decide, fun st e => by rw [e]; rfl⟩
theorem of_nc (e : Errs) : e.of (-11) = some e.nc := rfl
theorem ok_carry {f : Addr} {fd : FuncData} (F : Fun K "carry_out" "Desk.carry_out" sCarry f fd) (b : Binds K fd ["self", "number", "arguments"] []) (hm : Meth K Dc "carry_out" f) (T : TxtD K Dc) (R : ErrOk K mg "NoCircuit" e.nc)
    (MC : MthX P w K mg base Dc "create" 4 ["self", "class_count"] (spCreate C Dc e)) (A1 : DefX P w K mg base "ask_1_to_9" 9 ["circuit", "number", "arguments"] (spAsk C e 1 9)) (A10 : DefX P w K mg base "ask_10_to_19" 9 ["circuit", "number", "arguments"] (spAsk C e 10 19)) :
    MthX P w K mg base Dc "carry_out" 10 ["self", "number", "arguments"] (spCarry C Dc e) := by
  refine mth_ok F scCarry (fun vs H Q E h => ?_) b hm (fun cdv A outer s H vs Q E hr h => ⟨_, pss_cons (ps_if (pt_cmpR op_eq (pv 1) pe_int (nomark _)) (pss_one (ps_ret (pe_mX (E := E) MC (pv 0) T.cl (hr.mono (by decide)) (passes_call (takes_of rfl rfl rfl rfl) (fun _ _ _ _ h => h)) (pa_cons (pe_ix (r := rIxL K) ix_list (pv 2) pe_int (fun _ _ => rfl)) pa_nil)))) pss_nil)
    (pss_cons (ps_if (pt_cmpR op_isN (pe_fld (pv 0) rfl) pe_non (nomark _)) (pss_one (ps_bad R rfl (takes_of rfl rfl rfl rfl) rfl)) pss_nil)
    (pss_cons (ps_if (pt_cmpR op_lt (pv 1) pe_int (nomark _)) (pss_one (ps_ret (pe_defX (E := E) A1 hr rfl (passes_call (takes_of rfl rfl rfl rfl) (fun _ _ _ _ h => h)) (pa_cons (pe_fld (pv 0) rfl) (pa_cons (pv 1) (pa_cons (pv 2) pa_nil)))))) pss_nil)
    (pss_one (ps_ret (pe_defX (E := E) A10 hr rfl (passes_call (takes_of rfl rfl rfl rfl) (fun _ _ _ _ h => h)) (pa_cons (pe_fld (pv 0) rfl) (pa_cons (pv 1) (pa_cons (pv 2) pa_nil)))))))), ?_⟩)
  · obtain ⟨d, al, a, bl, st, k, c, x, rfl, _⟩ := h
    rfl
  · obtain ⟨d, al, a, bl, st, k, c, x, rfl, hd, hA, hq, hg, hk, kD, kF⟩ := h
    rcases req_num hq with ⟨e0, n, rfl, rfl⟩ | ⟨h1, h19, hnone⟩
    · -- create
      have hl := args1 hA
      have es : Kp408.step st (.create n) = if n < 2 ∨ 5 < n then (st, Kp408.single (-22)) else (some (freshC n), Kp408.single 0) := by
        cases st <;> rfl
      have go : ∀ dx cv, H d = some (.ins Dc dx (dF cv)) → spCreate C Dc e [.ref d, natV n] H Q E := fun dx cv hdd => by
        refine ⟨d, dx, cv, n, rfl, hdd, fun z H' s' => kF (-22) e.ba (by rw [es, if_pos (by omega)]) (of_ba e) H' s', fun hn H' p a' bl' na nb hd' hc hp ho hf => ?_⟩
        have e1 := es.trans (if_neg (by omega))
        unfold Done at kD
        rw [e1] at kD
        exact kD H' p a' bl' ⟨dx, hd', hc⟩ (fun _ _ => .inr ⟨na, nb⟩) hp (fun b o q h1 _ => ho b o h1 q) hf
      cases st with
      | none =>
        obtain ⟨dx, hdd⟩ := hd
        exact ⟨_, rfl, rfl, _, rfl, if_eq ⟨_, rfl, d, dx, _, rfl, hdd, dF_none (by decide +kernel), _, rfl, al, _, _, _, rfl, rfl, SqL.of hl, at_of (j := 0) rfl rfl, go dx _ hdd⟩⟩
      | some s0 =>
        obtain ⟨dx, hdd, _⟩ := hd
        exact ⟨_, rfl, rfl, _, rfl, if_eq ⟨_, rfl, d, dx, _, rfl, hdd, dF_none (by decide +kernel), _, rfl, al, _, _, _, rfl, rfl, SqL.of hl, at_of (j := 0) rfl rfl, go dx _ hdd⟩⟩
    · refine ⟨_, rfl, rfl, _, rfl, if_ne (by omega) ?_⟩
      cases st with
      | none =>
        obtain ⟨dx, hdd⟩ := hd
        exact ⟨_, rfl, d, Dc, dx, _, _, rfl, hdd, T.cl, T.ci, dF_ci, rfl, _, rfl, iteT (kF (-11) e.nc (hnone _ rfl) (of_nc e) H (Same.refl _))⟩
      | some s0 =>
        obtain ⟨dx, hdd, hc⟩ := hd
        have W : Wish C e H a bl s0 (Kp408.step (some s0) x) Q E := by
          refine ⟨fun s' n ns hr' h0 H' p c' hp fr hf => ?_, fun code cls hr' hcl H' s' => kF code cls hr' hcl H' s'⟩
          unfold Done at kD
          rw [hr'] at kD
          obtain ⟨dxc, fl, am, l0, r0, cc⟩ := id hc
          have hda : d ≠ a := fun z => by
            rw [z, cc.ob] at hdd
            have := Option.some.inj hdd
            injection this with _ _ e3
            have := congrArg List.length e3
            exact absurd (show (7 : Nat) = 1 from this) (by decide)
          obtain ⟨ws, hws, _⟩ := cc.mat
          have hdb : d ≠ bl := ne_of hdd hws (by intro z; cases z)
          exact kD H' p a bl ⟨dx, fr _ _ hdd hda hdb, c'⟩ (fun _ _ => .inl ⟨⟨s0, rfl, .inl rfl⟩, ⟨s0, rfl, .inr rfl⟩⟩) hp (fun b o q h1 h2 => fr b o q (fun z => h2 ⟨s0, rfl, .inl z⟩) (fun z => h2 ⟨s0, rfl, .inr z⟩)) hf
        refine ⟨_, rfl, d, Dc, dx, _, _, rfl, hdd, T.cl, T.ci, dF_ci, rfl, _, rfl, iteF ⟨_, rfl, _, _, rfl, rfl, _, rfl, ite_b (fun z => ?_) (fun z => ?_)⟩⟩
        · exact ⟨_, rfl, d, Dc, dx, _, _, rfl, hdd, T.cl, T.ci, dF_ci, _, rfl, _, rfl, a, al, bl, s0, k, c, x, rfl, hA, hq, h1, (by have := of_decide_eq_true z; omega), hc, hg s0 rfl, hk, W⟩
        · exact ⟨_, rfl, d, Dc, dx, _, _, rfl, hdd, T.cl, T.ci, dF_ci, _, rfl, _, rfl, a, al, bl, s0, k, c, x, rfl, hA, hq, (by have := of_decide_eq_false z; omega), h19, hc, hg s0 rfl, hk, W⟩
end
end Mill
namespace Mill
open PySem PySem.Spec PyProof.Rows L2

/-! ### which clause takes which error -/
structure Exm (K : PySem.W.Frag) (e : Errs) : Prop where
  x00 : PySem.W.exmOne K (.ref e.nc) (.ref e.nc) = some true
  x10 : PySem.W.exmOne K (.ref e.ns) (.ref e.nc) = some false
  x11 : PySem.W.exmOne K (.ref e.ns) (.ref e.ns) = some true
  x20 : PySem.W.exmOne K (.ref e.ba) (.ref e.nc) = some false
  x21 : PySem.W.exmOne K (.ref e.ba) (.ref e.ns) = some false
  x22 : PySem.W.exmOne K (.ref e.ba) (.ref e.ba) = some true
  x30 : PySem.W.exmOne K (.ref e.nv) (.ref e.nc) = some false
  x31 : PySem.W.exmOne K (.ref e.nv) (.ref e.ns) = some false
  x32 : PySem.W.exmOne K (.ref e.nv) (.ref e.ba) = some false
  x33 : PySem.W.exmOne K (.ref e.nv) (.ref e.nv) = some true
  x40 : PySem.W.exmOne K (.ref e.nt) (.ref e.nc) = some false
  x41 : PySem.W.exmOne K (.ref e.nt) (.ref e.ns) = some false
  x42 : PySem.W.exmOne K (.ref e.nt) (.ref e.ba) = some false
  x43 : PySem.W.exmOne K (.ref e.nt) (.ref e.nv) = some false
  x44 : PySem.W.exmOne K (.ref e.nt) (.ref e.nt) = some true
  x50 : PySem.W.exmOne K (.ref e.tl) (.ref e.nc) = some false
  x51 : PySem.W.exmOne K (.ref e.tl) (.ref e.ns) = some false
  x52 : PySem.W.exmOne K (.ref e.tl) (.ref e.ba) = some false
  x53 : PySem.W.exmOne K (.ref e.tl) (.ref e.nv) = some false
  x54 : PySem.W.exmOne K (.ref e.tl) (.ref e.nt) = some false
  x55 : PySem.W.exmOne K (.ref e.tl) (.ref e.tl) = some true
structure Six (K : PySem.W.Frag) (mg : Str → Option Value) (e : Errs) : Prop where
  nc : ErrOk K mg "NoCircuit" e.nc
  ns : ErrOk K mg "NoSuchClass" e.ns
  ba : ErrOk K mg "BadArgument" e.ba
  nv : ErrOk K mg "NoSuchValue" e.nv
  nt : ErrOk K mg "NothingThere" e.nt
  tl : ErrOk K mg "TooLarge" e.tl
theorem exm_of {K : PySem.W.Frag} {A B : Addr} {b : Bool} (h1 : PySem.W.subIn K (.ref B) (.type "BaseException") = some true) (h2 : PySem.W.isClsIn K B = true) (h3 : PySem.W.typeIn K (.ref B) = some (.type "type")) (h4 : PySem.W.subIn K (.ref A) (.ref B) = some b) : PySem.W.exmOne K (.ref A) (.ref B) = some b := by
  have q1 : (PySem.W.subIn K (.ref B) (.type "BaseException") == some true) = true := by rw [h1] <;> rfl
  have q2 : ((PySem.W.clsIn K B).isSome && PySem.W.typeIn K (.ref B) == some (.type "type")) = true := by
    have h2 : (PySem.W.clsIn K B).isSome = true := h2
    rw [h2, h3] <;> rfl
  unfold PySem.W.exmOne PySem.W.kitCls
  rw [if_pos q1]
  exact (if_pos q2).trans h4
def Mth0 (P : Program) (w : World) (K : PySem.W.Frag) (mg : Str → Option Value) (base : Heap) (C : Addr) (m : Str) (k : Nat) (ps : List Str) (sp : Sp) : Prop :=
  ∃ (f : Addr) (fd : FuncData), Meth K C m f ∧ Binds K fd ps [] ∧ FnOk P w K mg base CX0 k f fd ps sp
def tMS (C : Addr) (m : Str) (sp : Sp) (E : L2.St → XK) (ta : TE) (t : TA) : TE := fun σ H Q => ta σ H fun x H1 => ∃ a dx fs, x = .ref a ∧ H1 a = some (.ins C dx fs) ∧ fs.lookup m = none ∧ t σ H1 fun vs H2 => sp (x :: vs) H2 Q (E σ)
section
variable {X : Cx} {k : Nat} {C : Addr} {ps : List Str} {sp : Sp} {m : Str} {pos apos : Pos} {e o : Expr} {es : List Expr} {ta : TE} {t : TA} {E : L2.St → XK}
/-- o.m(e, ..) within a try -/
theorem pe_mS {pl : Sem Bool} (D : MthX X.prog X.w X.K X.mg X.base C m k ps sp) (he : PE X o ta) (c : Cls X.K C) (hr : Room k X.A) (hx : ∀ σ, PassesAt (L2.CX X.prog X.w) X σ (E σ)) (ha : PA X (e :: es) t)
    (hst : starEach (e :: es) X.env = (false, eval e X.env) :: starEach es X.env := by rfl) (hpl : (backTo pos (starEach es X.env)).any (·.1) = false := by rfl)
    (ht : eval (.Call (.Attribute o m apos) (e :: es) [] pos) X.env = (do
      let ov ← eval o X.env
      standAt apos.atName
      let (f, first) ← holding [ov] (getMethod ov m pl)
      callWith pos f first (backTo pos (starEach (e :: es) X.env)) (backToKw pos (keywordEach [] X.env))) := by rfl) :
    PE X (.Call (.Attribute o m apos) (e :: es) [] pos) (tMS C m sp E ta t) := by
  obtain ⟨f, fd, hm, hb, F⟩ := D
  refine ⟨fun pins s σ H Q I h => PySem.W.methodCall_KW (pl := pl) (thn (he.run pins s σ H _ I h) fun u s1 hh => ?_) ht⟩
  obtain ⟨x, H1, I1, rx, a, dx, fs, rfl, ea, l, q⟩ := hh
  cases rx
  refine getmeth_ok I1 ea c hm l (PySem.W.callWith_K (first := [.ref a]) (h₀ := X.base) I.ok.mod.kin hm.kp (thn (ha.run pos pins s1 σ H1 _ I1 q) fun us s2 hh2 => ?_) hst hpl)
  obtain ⟨vs, H2, I2, r, q2⟩ := hh2
  exact ⟨I2.kIn, run_fnS (us := .ref a :: us) (vs := .ref a :: vs) F hr hb (hx σ) I2 (.cons rfl r) q2⟩
end
section
variable {P : Program} {w : World} {K : PySem.W.Frag} {mg : Str → Option Value} {base : Heap} {C Dc : Addr} {e : Errs}
theorem of_cases {e : Errs} {code : Int} {cls : Addr} (h : e.of code = some cls) : (code = -11 ∧ cls = e.nc) ∨ (code = -2 ∧ cls = e.ns) ∨ (code = -22 ∧ cls = e.ba) ∨ (code = -33 ∧ cls = e.nv) ∨ (code = -6 ∧ cls = e.nt) ∨ (code = -75 ∧ cls = e.tl) := by
  unfold Errs.of at h
  by_cases h1 : code = -11
  · rw [if_pos h1] at h; exact .inl ⟨h1, (Option.some.inj h).symm⟩
  rw [if_neg h1] at h
  by_cases h2 : code = -2
  · rw [if_pos h2] at h; exact .inr (.inl ⟨h2, (Option.some.inj h).symm⟩)
  rw [if_neg h2] at h
  by_cases h3 : code = -22
  · rw [if_pos h3] at h; exact .inr (.inr (.inl ⟨h3, (Option.some.inj h).symm⟩))
  rw [if_neg h3] at h
  by_cases h4 : code = -33
  · rw [if_pos h4] at h; exact .inr (.inr (.inr (.inl ⟨h4, (Option.some.inj h).symm⟩)))
  rw [if_neg h4] at h
  by_cases h5 : code = -6
  · rw [if_pos h5] at h; exact .inr (.inr (.inr (.inr (.inl ⟨h5, (Option.some.inj h).symm⟩))))
  rw [if_neg h5] at h
  by_cases h6 : code = -75
  · rw [if_pos h6] at h; exact .inr (.inr (.inr (.inr (.inr ⟨h6, (Option.some.inj h).symm⟩))))
  rw [if_neg h6] at h
  cases h
theorem Done.failed {H : Hp} {d a bl : Addr} {st : Kp408.State} {r : Kp408.State × Kp408.Ans} {Q : VK} (k : Done C Dc H d a bl st r Q) (hd : DeskIs C Dc H d a bl st) {code : Int} (hr : r = (st, Kp408.single code)) {H' : Hp} (ss : Same H H') {p : Addr} (hp : H' p = none) : Q (.ref p) (upd H' p (.lst [.int code])) := by
  subst hr
  have s2 := ss.trans (same_new (o := .lst [V.int code]) hp)
  exact k _ p a bl (hd.same s2) (fun s' hs => .inl ⟨⟨s', hs, .inl rfl⟩, ⟨s', hs, .inr rfl⟩⟩) upd_same (fun b o q _ _ => s2 b o q) (ss.free hp)
theorem scAnswer : FnScope ["self", "number", "arguments"] ["self", "number", "arguments"] (defScope sAnswer) := ⟨rfl, rfl, rfl, by decide +kernel, rfl, by decide +kernel, by decide +kernel⟩
theorem ok_answer {f : Addr} {fd : FuncData} (F : Fun K "answer" "Desk.answer" sAnswer f fd) (b : Binds K fd ["self", "number", "arguments"] []) (hm : Meth K Dc "answer" f) (T : TxtD K Dc) (R : Six K mg e) (Z : Exm K e)
    (MC : MthX P w K mg base Dc "carry_out" 10 ["self", "number", "arguments"] (spCarry C Dc e)) : Mth0 P w K mg base Dc "answer" 11 ["self", "number", "arguments"] (spAnswer C Dc) := by
  refine ⟨f, fd, hm, b, F.ok scAnswer (fun vs H Q E h => ?_) (fun cdv A outer s H vs Q E hr h => ⟨_, pss_one (ps_try_many (tb := fun W => tRet (tMS Dc "carry_out" (spCarry C Dc e) (WE W) (tVar 0) (tCons (tVar 1) (tCons (tVar 2) tNil)))) (Wout := fun _ _ _ _ => False) rfl rfl takes0
      (fun W pn xe tk _ => pss_one (ps_ret (pe_mS MC (pv 0) T.cl hr (fun σ => passAt tk σ) (by exact (pa_cons (pv 1) (pa_cons (pv 2) pa_nil))))))
      (.cons ⟨rfl, by decide, .inl R.nc.gl⟩ (ts := fun _ _ _ => tRet (tLst (tCons (tUn (rU fun i => .int (-i)) (tC (.int 11))) tNil))) (fun a oe cls d pn _ _ => pss_one (ps_ret (pe_lst (pa_cons (pe_un un_neg pe_int) pa_nil)))) (.cons ⟨rfl, by decide, .inl R.ns.gl⟩ (ts := fun _ _ _ => tRet (tLst (tCons (tUn (rU fun i => .int (-i)) (tC (.int 2))) tNil))) (fun a oe cls d pn _ _ => pss_one (ps_ret (pe_lst (pa_cons (pe_un un_neg pe_int) pa_nil)))) (.cons ⟨rfl, by decide, .inl R.ba.gl⟩ (ts := fun _ _ _ => tRet (tLst (tCons (tUn (rU fun i => .int (-i)) (tC (.int 22))) tNil))) (fun a oe cls d pn _ _ => pss_one (ps_ret (pe_lst (pa_cons (pe_un un_neg pe_int) pa_nil)))) (.cons ⟨rfl, by decide, .inl R.nv.gl⟩ (ts := fun _ _ _ => tRet (tLst (tCons (tUn (rU fun i => .int (-i)) (tC (.int 33))) tNil))) (fun a oe cls d pn _ _ => pss_one (ps_ret (pe_lst (pa_cons (pe_un un_neg pe_int) pa_nil)))) (.cons ⟨rfl, by decide, .inl R.nt.gl⟩ (ts := fun _ _ _ => tRet (tLst (tCons (tUn (rU fun i => .int (-i)) (tC (.int 6))) tNil))) (fun a oe cls d pn _ _ => pss_one (ps_ret (pe_lst (pa_cons (pe_un un_neg pe_int) pa_nil)))) (.cons ⟨rfl, by decide, .inl R.tl.gl⟩ (ts := fun _ _ _ => tRet (tLst (tCons (tUn (rU fun i => .int (-i)) (tC (.int 75))) tNil))) (fun a oe cls d pn _ _ => pss_one (ps_ret (pe_lst (pa_cons (pe_un un_neg pe_int) pa_nil)))) (.nil)))))))), ?_⟩)⟩
  · obtain ⟨d, al, a, bl, st, k, c, x, rfl, _⟩ := h
    rfl
  · obtain ⟨d, al, a, bl, st, k, c, x, rfl, hd, hA, hq, hg, hk, kD⟩ := h
    obtain ⟨dx, cv, hdd⟩ : ∃ dx cv, H d = some (.ins Dc dx (dF cv)) := by
      cases st with
      | none =>
        obtain ⟨dx, h⟩ := hd
        exact ⟨dx, _, h⟩
      | some s0 =>
        obtain ⟨dx, h, _⟩ := hd
        exact ⟨dx, _, h⟩
    refine ⟨_, rfl, d, dx, _, rfl, hdd, dF_none (by decide +kernel), _, rfl, _, rfl, d, al, a, bl, st, k, c, x, rfl, hd, hA, hq, hg, hk, kD, fun code cls hr' hcl H' ss => ?_⟩
    have fin := fun p hp => kD.failed hd hr' ss (p := p) hp
    rcases of_cases hcl with ⟨rfl, rfl⟩ | ⟨rfl, rfl⟩ | ⟨rfl, rfl⟩ | ⟨rfl, rfl⟩ | ⟨rfl, rfl⟩ | ⟨rfl, rfl⟩
    · exact ⟨true, Z.x00, fun _ _ _ => ⟨_, rfl, one_line, fun p hp => fin p hp⟩, fun q => Bool.noConfusion q⟩
    · exact ⟨false, Z.x10, fun q => Bool.noConfusion q, fun _ => ⟨true, Z.x11, fun _ _ _ => ⟨_, rfl, one_line, fun p hp => fin p hp⟩, fun q => Bool.noConfusion q⟩⟩
    · exact ⟨false, Z.x20, fun q => Bool.noConfusion q, fun _ => ⟨false, Z.x21, fun q => Bool.noConfusion q, fun _ => ⟨true, Z.x22, fun _ _ _ => ⟨_, rfl, one_line, fun p hp => fin p hp⟩, fun q => Bool.noConfusion q⟩⟩⟩
    · exact ⟨false, Z.x30, fun q => Bool.noConfusion q, fun _ => ⟨false, Z.x31, fun q => Bool.noConfusion q, fun _ => ⟨false, Z.x32, fun q => Bool.noConfusion q, fun _ => ⟨true, Z.x33, fun _ _ _ => ⟨_, rfl, one_line, fun p hp => fin p hp⟩, fun q => Bool.noConfusion q⟩⟩⟩⟩
    · exact ⟨false, Z.x40, fun q => Bool.noConfusion q, fun _ => ⟨false, Z.x41, fun q => Bool.noConfusion q, fun _ => ⟨false, Z.x42, fun q => Bool.noConfusion q, fun _ => ⟨false, Z.x43, fun q => Bool.noConfusion q, fun _ => ⟨true, Z.x44, fun _ _ _ => ⟨_, rfl, one_line, fun p hp => fin p hp⟩, fun q => Bool.noConfusion q⟩⟩⟩⟩⟩
    · exact ⟨false, Z.x50, fun q => Bool.noConfusion q, fun _ => ⟨false, Z.x51, fun q => Bool.noConfusion q, fun _ => ⟨false, Z.x52, fun q => Bool.noConfusion q, fun _ => ⟨false, Z.x53, fun q => Bool.noConfusion q, fun _ => ⟨false, Z.x54, fun q => Bool.noConfusion q, fun _ => ⟨true, Z.x55, fun _ _ _ => ⟨_, rfl, one_line, fun p hp => fin p hp⟩, fun q => Bool.noConfusion q⟩⟩⟩⟩⟩⟩
end
end Mill
namespace Mill
open PySem PySem.Spec PyProof.Rows L2
abbrev sAnswers : Stmt := top 41
def spAns (K : PySem.W.Frag) : Sp := fun vs H Q _ => ∃ a ns, vs = [.ref a] ∧ SqL K H a (ns.map V.int) ∧ ns.length ≤ 660 ∧ PyKp408.answers_asked ns = true ∧ ∀ H' p, H' p = some (.lst ((PyKp408.answers ns).map V.int)) → Q (.ref p) H'
theorem callAt_args {N : Addr → Prop} {H H' : Hp} {v : V} {c : List (List Int)} (h : CallAt N H v c) (ht : ∀ t xs, H t = some (.tup xs) → H' t = some (.tup xs)) (hl : ∀ b xs, N b → H b = some (.lst xs) → H' b = some (.lst xs)) :
    ∃ t al, v = .ref t ∧ H' t = some (.tup [.int (numOf c), .ref al]) ∧ ArgsAt H' al c := by
  obtain ⟨t, al, p, xs, e, n, h1, h⟩ := h
  rcases h with ⟨rfl, h2⟩ | ⟨rl, row, n1, rfl, h2, h3⟩
  · exact ⟨t, al, e, ht _ _ h1, p, xs, .inl ⟨rfl, hl _ _ n h2⟩⟩
  · exact ⟨t, al, e, ht _ _ h1, p, xs, .inr ⟨rl, row, rfl, hl _ _ n h2, hl _ _ n1 h3⟩⟩
/-! ### the list of the answers stands apart: while a call runs it is locked -/
def hide (l : Addr) (H : Hp) : Hp := fun b => if b = l then none else H b
theorem hide_ne {l b : Addr} {H : Hp} (h : b ≠ l) : hide l H b = H b := if_neg h
theorem hide_some {l b : Addr} {H : Hp} {o : HO} (h : hide l H b = some o) : b ≠ l ∧ H b = some o := by
  unfold hide at h
  by_cases e : b = l
  · rw [if_pos e] at h
    cases h
  · rw [if_neg e] at h
    exact ⟨e, h⟩
theorem hide_same {l : Addr} {H : Hp} {o : HO} : Same (hide l H) (upd H l o) := fun b u q => by
  obtain ⟨h1, h2⟩ := hide_some q
  rw [upd_ne h1]
  exact h2
section
variable {D : Addr} {H H' : Hp} {od : Obj} {u : HO} (so : Off D H H') (hD : H D = some (.frz od u))
include so hD
theorem FrAt.offF {v : V} {q : Rat} (h : FrAt H v q) : FrAt H' v q := by
  obtain ⟨a, e, h⟩ := h
  exact ⟨a, e, so _ _ (ne_of h hD (by intro z; cases z)) h⟩
theorem FrsAt.offF {a : Addr} {qs : List Rat} (h : FrsAt H a qs) : FrsAt H' a qs := by
  obtain ⟨vs, e, h⟩ := h
  exact ⟨vs, so _ _ (ne_of e hD (by intro z; cases z)) e, h.mono fun _ _ r => r.offF so hD⟩
theorem IntsAt.offF {a : Addr} {ns : List Nat} (h : IntsAt H a ns) : IntsAt H' a ns := so _ _ (ne_of h hD (by intro z; cases z)) h
theorem RowAt.offF {v : V} {r : List Nat} (h : RowAt H v r) : RowAt H' v r := by
  obtain ⟨a, e, h⟩ := h
  exact ⟨a, e, h.offF so hD⟩
theorem MatAt.offF {a : Addr} {B : List (List Nat)} (h : MatAt H a B) : MatAt H' a B := by
  obtain ⟨vs, e, h⟩ := h
  exact ⟨vs, so _ _ (ne_of e hD (by intro z; cases z)) e, h.mono fun _ _ r => r.offF so hD⟩
theorem CircAt.offF {C a bl : Addr} {s : Kp408.Circuit} (h : CircAt C H a bl s) : CircAt C H' a bl s := by
  obtain ⟨dx, fl, al, lo, re, c⟩ := h
  exact ⟨dx, fl, al, lo, re, ⟨so _ _ (ne_of c.ob hD (by intro z; cases z)) c.ob, c.mat.offF so hD, c.ft.offF so hD, c.am.offF so hD, c.ld.offF so hD, c.rm.offF so hD⟩⟩
theorem DeskIs.offF {C Dc d a bl : Addr} {st : Kp408.State} (h : DeskIs C Dc H d a bl st) : DeskIs C Dc H' d a bl st := by
  cases st with
  | none =>
    obtain ⟨dx, h⟩ := h
    exact ⟨dx, so _ _ (ne_of h hD (by intro z; cases z)) h⟩
  | some s =>
    obtain ⟨dx, h, c⟩ := h
    exact ⟨dx, so _ _ (ne_of h hD (by intro z; cases z)) h, c.offF so hD⟩
end
section
variable {P : Program} {w : World} {K : PySem.W.Frag} {mg : Str → Option Value} {base : Heap} {C Dc : Addr}
theorem scAnswers : FnScope ["calls", "desk", "answered", "number", "arguments", "result"] ["calls"] (defScope sAnswers) := ⟨rfl, rfl, rfl, by decide +kernel, rfl, by decide +kernel, by decide +kernel⟩
theorem ok_answers {f fI fA : Addr} {fd fdI fdA : FuncData} (F : Fun K "answers" "answers" sAnswers f fd) (T : TxtD K Dc) (nL : mg "len" = none) (GR : Def0 P w K mg base "read_calls" 1 ["calls"] (spRead K))
    (M : Mk K Dc fI) (G : FnOk P w K mg base CX0 1 fI fdI ["self"] (spInitD Dc)) (bI : Binds K fdI ["self"] []) (gD : mg "Desk" = some (.ref Dc)) (mA : Meth K Dc "answer" fA) (bA : Binds K fdA ["self", "number", "arguments"] []) (GA : FnOk P w K mg base CX0 11 fA fdA ["self", "number", "arguments"] (spAnswer C Dc)) :
    FnOk P w K mg base CX0 12 f fd ["calls"] (spAns K) := by
  refine F.ok scAnswers (fun vs H Q E h => ?_) (fun cdv A outer s H vs Q E hr h => ⟨_, pss_cons (ps_set (i := 1) scAnswers.nd rfl (.inl rfl) (pe_make0 M G (hr.mono (by decide)) rfl gD bI .nil pass0))
    (pss_cons (ps_set (i := 2) scAnswers.nd rfl (.inl rfl) (pe_lst pa_nil))
    (pss_cons (ps_for PassesOwn.never rfl (pi_list (pe_def GR (hr.mono (by decide)) rfl (pa_cons (pv 0) pa_nil))) (pg_tup rfl (pgs_cons (pg_name (i := 3) scAnswers.nd rfl (Or.inl rfl)) (pgs_cons (pg_name (i := 4) scAnswers.nd rfl (Or.inl rfl)) pgs_nil)))
      (pss_cons (ps_set (i := 5) scAnswers.nd rfl (.inl rfl) (pe_lock (pe_meth (pv 1) T.cl mA GA hr bA .nil pass0 (by exact (pa_cons (pv 3) (pa_cons (pv 4) pa_nil))))))
      (pss_cons (ps_expr (pe_bm PySem.F.plainAttrs_list PySem.F.slot_list_append PySem.F.type_list_append mt_append (pv 2) (pa_cons (pe_callB call_len_seq (by rfl) nL boot_len (pa_cons (pv 5) pa_nil)) pa_nil)))
      (pss_one (ps_expr (pe_bm PySem.F.plainAttrs_list PySem.F.slot_list_extend PySem.F.type_list_extend mt_extend (pv 2) (pa_cons (pv 5) pa_nil)))))))
    (pss_one (ps_ret (pv 2))))), ?_⟩)
  · obtain ⟨a, ns, rfl, _⟩ := h
    rfl
  · obtain ⟨a, ns, rfl, hS, hlen, hask, k⟩ := h
    obtain ⟨raw, hraw, h60, hasked, hdue, hshort⟩ := asked_is hask
    intro d dx nd ndx ne
    refine ⟨d, dx, rfl, upd_same, fun H1 hd1 ho1 => ⟨rfl, ?_⟩⟩
    have s1 : Same H H1 := fun b o q => ho1 b o (ne_of_none q nd) (by
      rw [upd_ne (ne_of_none q nd), upd_ne (ne_of_none q ndx)]
      exact q)
    refine ⟨Nat.zero_le _, fun l hl => ?_⟩
    have s2 := same_new (o := .lst []) hl
    have s12 := s1.trans s2
    refine ⟨_, rfl, a, ns, raw, ns.length, rfl, s12.seq hS, hlen, hraw, fun H3 fo ws s3 nfo hfo hal hsh => ?_⟩
    have hd3 := s3 _ _ (s2 _ _ hd1)
    have hl3 := s3 _ _ (upd_same (H := H1) (a := l) (o := .lst []))
    have hld : l ≠ d := ne_of hl3 hd3 (by intro z; cases z)
    have hwl := hal.length
    generalize hcs : raw.map PyKp408.whole = cs at hdue hshort
    refine ⟨fo, rfl, ⟨ws, SqL.of hfo⟩, for_list (K := K) (a := fo) (xs := ws) (fun i σ H' => ∃ (u3 u4 u5 : Option V) (da bl : Addr), σ = [some (.ref a), some (.ref d), some (.ref l), u3, u4, u5] ∧ (∀ b o, H3 b = some o → b ≠ d → b ≠ l → H' b = some o) ∧
        DeskIs C Dc (hide l H') d da bl (afterC Kp408Neutral.start (cs.take i)) ∧ (∀ s, afterC Kp408Neutral.start (cs.take i) = some s → H3 da = none ∧ H3 bl = none ∧ Good i s) ∧ H' l = some (.lst ((toldOf (cs.take i)).map V.int)))
      ⟨none, none, none, d, d, rfl, fun b o q _ _ => q, ⟨dx, (hide_ne hld.symm).trans hd3⟩, (fun s hs => by cases hs), hl3⟩ ?_ ?_ ?_⟩
    · rintro i σ H' _ ⟨u3, u4, u5, da, bl, rfl, hown, _⟩
      have h1 : fo ≠ d := ne_of hfo hd3 (by intro z; cases z)
      have h2 : fo ≠ l := fun z => by
        rw [z, upd_same] at nfo
        cases nfo
      exact SqL.of (hown _ _ hfo h1 h2)
    · rintro i y σ H' hi ⟨u3, u4, u5, da, bl, rfl, hown, hdesk, hst, htold⟩
      obtain ⟨c, hc, hcall⟩ := hal.get' hi
      obtain ⟨x, hq, hcallOf⟩ := req_of (hsh c (List.mem_of_getElem? hc)) (hasked c (List.mem_of_getElem? hc))
      have hci : cs[i]? = some (PyKp408.whole c) := by rw [← hcs, List.getElem?_map, hc]; rfl
      have hilt : i < raw.length := (List.getElem?_eq_some_iff.mp hc).1
      have hstep := step_req hcallOf (afterC Kp408Neutral.start (cs.take i))
      have haft := afterC_take (s := Kp408Neutral.start) hci
      have htt := toldOf_take hci
      rw [hstep] at haft htt
      generalize hSt : afterC Kp408Neutral.start (cs.take i) = st at hdesk hst haft htt hstep
      have htt : toldOf (cs.take (i + 1)) = toldOf (cs.take i) ++ (((((Kp408.step st x).2.num :: (Kp408.step st x).2.nums).length : Nat) : Int) :: ((Kp408.step st x).2.num :: (Kp408.step st x).2.nums)) := htt
      have haft : afterC Kp408Neutral.start (cs.take (i + 1)) = (Kp408.step st x).1 := haft
      obtain ⟨t, al, rfl, ht0, hA0⟩ := callAt_args (H' := hide l H') hcall (fun t xs h => (hide_ne (ne_of h hl3 (by intro z; cases z))).trans (hown _ _ h (ne_of h hd3 (by intro z; cases z)) (ne_of h hl3 (by intro z; cases z))))
        (fun b xs hN h => by
          have hbl : b ≠ l := fun z => by
            have n2 := hN.2
            rw [z, upd_same] at n2
            cases n2
          exact (hide_ne hbl).trans (hown _ _ h (ne_of h hd3 (by intro z; cases z)) hbl))
      have ht' := (hide_some ht0).2
      obtain ⟨dxx, cv, hdd⟩ : ∃ dx cv, hide l H' d = some (.ins Dc dx (dF cv)) := by
        cases st with
        | none =>
          obtain ⟨dx, h⟩ := hdesk
          exact ⟨dx, _, h⟩
        | some s0 =>
          obtain ⟨dx, h, _⟩ := hdesk
          exact ⟨dx, _, h⟩
      have notmine : ∀ b, (∃ o, H3 b = some o) → ¬ Mine st da bl b := fun b ⟨o, q⟩ ⟨s0, h0, hb⟩ => by
        obtain ⟨n1, n2, _⟩ := hst s0 h0
        rcases hb with z | z
        · rw [z, n1] at q
          cases q
        · rw [z, n2] at q
          cases q
      refine ⟨t, _, rfl, SqT.of ht', rfl, .int (numOf c), _, rfl, .ref al, _, rfl, rfl, ?_⟩
      -- while the call runs, the answers' list is locked
      refine ⟨l, _, htold, trivial, fun od => ?_⟩
      have sL : Same (hide l H') (upd H' l (.frz od (.lst ((toldOf (cs.take i)).map V.int)))) := hide_same
      refine ⟨_, rfl, d, dxx, _, rfl, sL _ _ hdd, dF_none (by decide +kernel), _, rfl, _, rfl, d, al, da, bl, st, i, c, x, rfl, hdesk.same sL, hA0.same sL, hq, fun s0 h0 => (hst s0 h0).2.2, by omega, fun H4 p da' bl' hd4 hfresh hp hfr hpn => ?_⟩
      have hl4 := hfr l _ upd_same hld (notmine l ⟨_, hl3⟩)
      have hpl : p ≠ l := fun z => by
        rw [z, upd_same] at hpn
        cases hpn
      -- how long the answers are
      have hlong : (toldOf (cs.take (i + 1))).length ≤ 10000000 := Nat.le_trans (toldOf_prefix cs (i + 1)) hshort
      rw [htt, List.length_append, List.length_cons] at hlong
      generalize hans : (Kp408.step st x).2.num :: (Kp408.step st x).2.nums = ans at hp htt hlong
      have oo : ∀ u1 u2 u3 : HO, Off l H4 (hide l (upd (upd (upd H4 l u1) l u2) l u3)) := fun u1 u2 u3 b o hb q => by
        rw [hide_ne hb, upd_ne hb, upd_ne hb, upd_ne hb]
        exact q
      have o3 : ∀ u1 u2 u3 : HO, Off l H4 (upd (upd (upd H4 l u1) l u2) l u3) := fun u1 u2 u3 b o hb q => by
        rw [upd_ne hb, upd_ne hb, upd_ne hb]
        exact q
      refine ⟨hl4, ?_⟩
      refine ⟨_, rfl, .inl ⟨rfl, _, .inl (.inl upd_same)⟩, _, rfl, p, _, rfl, .inl (SqL.of ((upd_ne hpl).trans hp)), l, _, _, rfl, rfl, upd_same, (by rw [List.length_map, sizeLine_eq]; omega), ?_⟩
      refine ⟨_, rfl, .inl ⟨rfl, _, .inl (.inl upd_same)⟩, _, rfl, l, p, _, _, rfl, rfl, upd_same, (upd_ne hpl).trans ((upd_ne hpl).trans hp), (by rw [List.length_append, List.length_map, List.length_map, sizeLine_eq]; show _ + 1 + _ ≤ _; omega), ?_⟩
      have notnew : ∀ b, upd H' l (.frz od (.lst ((toldOf (cs.take i)).map V.int))) b = none → H3 b = none := fun b hb => by
        cases q : H3 b with
        | none => rfl
        | some o =>
          exfalso
          by_cases h2 : b = l
          · rw [h2, upd_same] at hb
            cases hb
          · rw [upd_ne h2] at hb
            by_cases h1 : b = d
            · rw [h1, (hide_some hdd).2] at hb
              cases hb
            · rw [hown b o q h1 h2] at hb
              cases hb
      have gnew := good_step (x := x) (st := st) (k := i) (fun s0 h0 => (hst s0 h0).2.2)
      refine ⟨_, _, _, da', bl', rfl, fun b o q h1 h2 => o3 _ _ _ _ _ h2 (hfr _ _ ((upd_ne h2).trans (hown b o q h1 h2)) h1 (notmine b ⟨o, q⟩)), ?_, fun s1' h1' => ?_, ?_⟩
      · rw [haft]
        exact hd4.offF (oo _ _ _) hl4
      · rw [haft] at h1'
        refine ⟨?_, ?_, gnew s1' h1'⟩
        · rcases hfresh s1' h1' with ⟨⟨s0, h0, hb⟩, _⟩ | ⟨hb, _⟩
          · obtain ⟨n1, n2, _⟩ := hst s0 h0
            rcases hb with z | z
            · rw [z]; exact n1
            · rw [z]; exact n2
          · exact notnew _ hb
        · rcases hfresh s1' h1' with ⟨_, ⟨s0, h0, hb⟩⟩ | ⟨_, hb⟩
          · obtain ⟨n1, n2, _⟩ := hst s0 h0
            rcases hb with z | z
            · rw [z]; exact n1
            · rw [z]; exact n2
          · exact notnew _ hb
      · rw [upd_same, htt, List.map_append, List.map_cons, List.length_map, List.append_assoc]
        rfl
    · rintro σ H' ⟨u3, u4, u5, da, bl, rfl, hown, hdesk, hst, htold⟩
      have e : cs.take ws.length = cs := by
        rw [hwl, ← hcs]
        exact List.take_of_length_le (by rw [List.length_map]; exact Nat.le_refl _)
      rw [e, ← hdue] at htold
      exact ⟨_, rfl, k _ _ htold⟩
end
end Mill
namespace Mill
open PySem PySem.Spec PyProof.Rows L2
/-! ### the end -/
def TabOk (o : Obj) (ns : List Int) : Prop := ∃ (its : Array Value) (n : Nat), o.cls = .type "tuple" ∧ o.data = .seq its n ∧ its.size ≤ sizeLine ∧ Vals (ns.map V.int) its.toList
theorem TabOk.seq {K : PySem.W.Frag} {a : Addr} {o : Obj} {ns : List Int} (h : TabOk o ns) (l : K.lookup a = some o) (H : Hp) : SqT K H a (ns.map V.int) := by
  obtain ⟨its, n, h1, h2, h3, h4⟩ := h
  exact .inr ⟨o, its, n, l, h1, h2, h3, h4⟩
theorem all_mk {P : Program} {w : World} {K : PySem.W.Frag} {h : Heap} {mg : Str → Option Value} {fa CCircuit CDesk X0 X1 X2 X3 X4 X5 f0 f1 f2 f3 f4 f5 f6 f7 f8 f9 f10 f11 f12 f13 f14 f15 f16 f17 f18 f19 f20 f21 f22 f23 f24 f25 f26 f27 f28 f29 f30 f31 f32 f33 f34 f35 f36 f37 f38 f39 f40 f41 f42 f43 f44 f45 f46 f47 f48 f49 f50 f51 f52 tW tR : Addr} (X : K.In h) (G : h.Ns mainGlobals mg) (hfa : mg "answers" = some (.ref fa))
    {od0 an0 od1 an1 od2 an2 od3 an3 od4 an4 od5 an5 od6 an6 od7 an7 od8 an8 od9 an9 od10 an10 od11 an11 od12 an12 od13 an13 od14 an14 od15 an15 od16 an16 od17 an17 od18 an18 od19 an19 od20 an20 od21 an21 od22 an22 od23 an23 od24 an24 od25 an25 od26 an26 od27 an27 od28 an28 od29 an29 od30 an30 od31 an31 od32 an32 od33 an33 od34 an34 od35 an35 od36 an36 od37 an37 od38 an38 od39 an39 od40 an40 od41 an41 od42 an42 od43 an43 od44 an44 od45 an45 od46 an46 od47 an47 od48 an48 od49 an49 od50 an50 od51 an51 od52 an52 : Option Addr} {sl0 sl1 sl2 sl3 sl4 sl5 sl6 sl7 sl8 sl9 sl10 sl11 sl12 sl13 sl14 sl15 sl16 sl17 sl18 sl19 sl20 sl21 sl22 sl23 sl24 sl25 sl26 sl27 sl28 sl29 sl30 sl31 sl32 sl33 sl34 sl35 sl36 sl37 sl38 sl39 sl40 sl41 sl42 sl43 sl44 sl45 sl46 sl47 sl48 sl49 sl50 sl51 sl52 : Array (Option Value)} {oc0 kV0 dc0 pm0 cd0 ct0 oc1 kV1 dc1 pm1 cd1 ct1 oc2 kV2 dc2 pm2 cd2 ct2 oc3 kV3 dc3 pm3 cd3 ct3 oc4 kV4 dc4 pm4 cd4 ct4 oc5 kV5 dc5 pm5 cd5 ct5 oc6 kV6 dc6 pm6 cd6 ct6 oc7 kV7 dc7 pm7 cd7 ct7 oc8 kV8 dc8 pm8 cd8 ct8 oc9 kV9 dc9 pm9 cd9 ct9 oc10 kV10 dc10 pm10 cd10 ct10 oc11 kV11 dc11 pm11 cd11 ct11 oc12 kV12 dc12 pm12 cd12 ct12 oc13 kV13 dc13 pm13 cd13 ct13 oc14 kV14 dc14 pm14 cd14 ct14 oc15 kV15 dc15 pm15 cd15 ct15 oc16 kV16 dc16 pm16 cd16 ct16 oc17 kV17 dc17 pm17 cd17 ct17 oc18 kV18 dc18 pm18 cd18 ct18 oc19 kV19 dc19 pm19 cd19 ct19 oc20 kV20 dc20 pm20 cd20 ct20 oc21 kV21 dc21 pm21 cd21 ct21 oc22 kV22 dc22 pm22 cd22 ct22 oc23 kV23 dc23 pm23 cd23 ct23 oc24 kV24 dc24 pm24 cd24 ct24 oc25 kV25 dc25 pm25 cd25 ct25 oc26 kV26 dc26 pm26 cd26 ct26 oc27 kV27 dc27 pm27 cd27 ct27 oc28 kV28 dc28 pm28 cd28 ct28 oc29 kV29 dc29 pm29 cd29 ct29 oc30 kV30 dc30 pm30 cd30 ct30 oc31 kV31 dc31 pm31 cd31 ct31 oc32 kV32 dc32 pm32 cd32 ct32 oc33 kV33 dc33 pm33 cd33 ct33 oc34 kV34 dc34 pm34 cd34 ct34 oc35 kV35 dc35 pm35 cd35 ct35 oc36 kV36 dc36 pm36 cd36 ct36 oc37 kV37 dc37 pm37 cd37 ct37 oc38 kV38 dc38 pm38 cd38 ct38 oc39 kV39 dc39 pm39 cd39 ct39 oc40 kV40 dc40 pm40 cd40 ct40 oc41 kV41 dc41 pm41 cd41 ct41 oc42 kV42 dc42 pm42 cd42 ct42 oc43 kV43 dc43 pm43 cd43 ct43 oc44 kV44 dc44 pm44 cd44 ct44 oc45 kV45 dc45 pm45 cd45 ct45 oc46 kV46 dc46 pm46 cd46 ct46 oc47 kV47 dc47 pm47 cd47 ct47 oc48 kV48 dc48 pm48 cd48 ct48 oc49 kV49 dc49 pm49 cd49 ct49 oc50 kV50 dc50 pm50 cd50 ct50 oc51 kV51 dc51 pm51 cd51 ct51 oc52 kV52 dc52 pm52 cd52 ct52 : Value} {oW oR : Obj}
    (aCircuit : PySem.W.nsIn K mainGlobals "Circuit" = some (some (.ref CCircuit)))
    (aDesk : PySem.W.nsIn K mainGlobals "Desk" = some (some (.ref CDesk)))
    (e0a : PySem.W.nsIn K mainGlobals "NoCircuit" = some (some (.ref X0)))
    (e1a : PySem.W.nsIn K mainGlobals "NoSuchClass" = some (some (.ref X1)))
    (e2a : PySem.W.nsIn K mainGlobals "BadArgument" = some (some (.ref X2)))
    (e3a : PySem.W.nsIn K mainGlobals "NoSuchValue" = some (some (.ref X3)))
    (e4a : PySem.W.nsIn K mainGlobals "NothingThere" = some (some (.ref X4)))
    (e5a : PySem.W.nsIn K mainGlobals "TooLarge" = some (some (.ref X5)))
    (a0 : PySem.W.nsIn K mainGlobals "whole" = some (some (.ref f0)))
    (l0 : K.lookup f0 = some ⟨oc0, od0, .func (PySem.W.fnOf "whole" "whole" (defArgs (top 1)) (defBody (top 1)) (defScope (top 1)) .none kV0 dc0 pm0 an0 cd0 ct0), sl0⟩)
    (c0 : PySem.W.codeIn K cd0 "whole" = true)
    (k0 : PySem.W.keepIn K (.ref f0) = true)
    (a1 : PySem.W.nsIn K mainGlobals "common_divisor" = some (some (.ref f1)))
    (l1 : K.lookup f1 = some ⟨oc1, od1, .func (PySem.W.fnOf "common_divisor" "common_divisor" (defArgs (top 2)) (defBody (top 2)) (defScope (top 2)) .none kV1 dc1 pm1 an1 cd1 ct1), sl1⟩)
    (c1 : PySem.W.codeIn K cd1 "common_divisor" = true)
    (k1 : PySem.W.keepIn K (.ref f1) = true)
    (a2 : PySem.W.nsIn K mainGlobals "lowest_terms" = some (some (.ref f2)))
    (l2 : K.lookup f2 = some ⟨oc2, od2, .func (PySem.W.fnOf "lowest_terms" "lowest_terms" (defArgs (top 3)) (defBody (top 3)) (defScope (top 3)) .none kV2 dc2 pm2 an2 cd2 ct2), sl2⟩)
    (c2 : PySem.W.codeIn K cd2 "lowest_terms" = true)
    (k2 : PySem.W.keepIn K (.ref f2) = true)
    (a3 : PySem.W.nsIn K mainGlobals "plus" = some (some (.ref f3)))
    (l3 : K.lookup f3 = some ⟨oc3, od3, .func (PySem.W.fnOf "plus" "plus" (defArgs (top 4)) (defBody (top 4)) (defScope (top 4)) .none kV3 dc3 pm3 an3 cd3 ct3), sl3⟩)
    (c3 : PySem.W.codeIn K cd3 "plus" = true)
    (k3 : PySem.W.keepIn K (.ref f3) = true)
    (a4 : PySem.W.nsIn K mainGlobals "scaled" = some (some (.ref f4)))
    (l4 : K.lookup f4 = some ⟨oc4, od4, .func (PySem.W.fnOf "scaled" "scaled" (defArgs (top 5)) (defBody (top 5)) (defScope (top 5)) .none kV4 dc4 pm4 an4 cd4 ct4), sl4⟩)
    (c4 : PySem.W.codeIn K cd4 "scaled" = true)
    (k4 : PySem.W.keepIn K (.ref f4) = true)
    (a5 : PySem.W.nsIn K mainGlobals "total" = some (some (.ref f5)))
    (l5 : K.lookup f5 = some ⟨oc5, od5, .func (PySem.W.fnOf "total" "total" (defArgs (top 6)) (defBody (top 6)) (defScope (top 6)) .none kV5 dc5 pm5 an5 cd5 ct5), sl5⟩)
    (c5 : PySem.W.codeIn K cd5 "total" = true)
    (k5 : PySem.W.keepIn K (.ref f5) = true)
    (a6 : PySem.W.nsIn K mainGlobals "is_at_least" = some (some (.ref f6)))
    (l6 : K.lookup f6 = some ⟨oc6, od6, .func (PySem.W.fnOf "is_at_least" "is_at_least" (defArgs (top 7)) (defBody (top 7)) (defScope (top 7)) .none kV6 dc6 pm6 an6 cd6 ct6), sl6⟩)
    (c6 : PySem.W.codeIn K cd6 "is_at_least" = true)
    (k6 : PySem.W.keepIn K (.ref f6) = true)
    (a7 : PySem.W.nsIn K mainGlobals "is_too_large" = some (some (.ref f7)))
    (l7 : K.lookup f7 = some ⟨oc7, od7, .func (PySem.W.fnOf "is_too_large" "is_too_large" (defArgs (top 8)) (defBody (top 8)) (defScope (top 8)) .none kV7 dc7 pm7 an7 cd7 ct7), sl7⟩)
    (c7 : PySem.W.codeIn K cd7 "is_too_large" = true)
    (k7 : PySem.W.keepIn K (.ref f7) = true)
    (a8 : PySem.W.nsIn K mainGlobals "unbroken_matrix" = some (some (.ref f8)))
    (l8 : K.lookup f8 = some ⟨oc8, od8, .func (PySem.W.fnOf "unbroken_matrix" "unbroken_matrix" (defArgs (top 10)) (defBody (top 10)) (defScope (top 10)) .none kV8 dc8 pm8 an8 cd8 ct8), sl8⟩)
    (c8 : PySem.W.codeIn K cd8 "unbroken_matrix" = true)
    (k8 : PySem.W.keepIn K (.ref f8) = true)
    (a9 : PySem.W.nsIn K mainGlobals "with_feed" = some (some (.ref f9)))
    (l9 : K.lookup f9 = some ⟨oc9, od9, .func (PySem.W.fnOf "with_feed" "with_feed" (defArgs (top 11)) (defBody (top 11)) (defScope (top 11)) .none kV9 dc9 pm9 an9 cd9 ct9), sl9⟩)
    (c9 : PySem.W.codeIn K cd9 "with_feed" = true)
    (k9 : PySem.W.keepIn K (.ref f9) = true)
    (a10 : PySem.W.nsIn K mainGlobals "arriving" = some (some (.ref f10)))
    (l10 : K.lookup f10 = some ⟨oc10, od10, .func (PySem.W.fnOf "arriving" "arriving" (defArgs (top 12)) (defBody (top 12)) (defScope (top 12)) .none kV10 dc10 pm10 an10 cd10 ct10), sl10⟩)
    (c10 : PySem.W.codeIn K cd10 "arriving" = true)
    (k10 : PySem.W.keepIn K (.ref f10) = true)
    (a11 : PySem.W.nsIn K mainGlobals "after_pass" = some (some (.ref f11)))
    (l11 : K.lookup f11 = some ⟨oc11, od11, .func (PySem.W.fnOf "after_pass" "after_pass" (defArgs (top 13)) (defBody (top 13)) (defScope (top 13)) .none kV11 dc11 pm11 an11 cd11 ct11), sl11⟩)
    (c11 : PySem.W.codeIn K cd11 "after_pass" = true)
    (k11 : PySem.W.keepIn K (.ref f11) = true)
    (a12 : PySem.W.nsIn K mainGlobals "after_passes" = some (some (.ref f12)))
    (l12 : K.lookup f12 = some ⟨oc12, od12, .func (PySem.W.fnOf "after_passes" "after_passes" (defArgs (top 14)) (defBody (top 14)) (defScope (top 14)) .none kV12 dc12 pm12 an12 cd12 ct12), sl12⟩)
    (c12 : PySem.W.codeIn K cd12 "after_passes" = true)
    (k12 : PySem.W.keepIn K (.ref f12) = true)
    (a13 : PySem.W.nsIn K mainGlobals "undersize_of" = some (some (.ref f13)))
    (l13 : K.lookup f13 = some ⟨oc13, od13, .func (PySem.W.fnOf "undersize_of" "undersize_of" (defArgs (top 16)) (defBody (top 16)) (defScope (top 16)) .none kV13 dc13 pm13 an13 cd13 ct13), sl13⟩)
    (c13 : PySem.W.codeIn K cd13 "undersize_of" = true)
    (k13 : PySem.W.keepIn K (.ref f13) = true)
    (a14 : PySem.W.nsIn K mainGlobals "oversize_of" = some (some (.ref f14)))
    (l14 : K.lookup f14 = some ⟨oc14, od14, .func (PySem.W.fnOf "oversize_of" "oversize_of" (defArgs (top 17)) (defBody (top 17)) (defScope (top 17)) .none kV14 dc14 pm14 an14 cd14 ct14), sl14⟩)
    (c14 : PySem.W.codeIn K cd14 "oversize_of" = true)
    (k14 : PySem.W.keepIn K (.ref f14) = true)
    (a15 : PySem.W.nsIn K mainGlobals "is_steady" = some (some (.ref f15)))
    (l15 : K.lookup f15 = some ⟨oc15, od15, .func (PySem.W.fnOf "is_steady" "is_steady" (defArgs (top 18)) (defBody (top 18)) (defScope (top 18)) .none kV15 dc15 pm15 an15 cd15 ct15), sl15⟩)
    (c15 : PySem.W.codeIn K cd15 "is_steady" = true)
    (k15 : PySem.W.keepIn K (.ref f15) = true)
    (a16 : PySem.W.nsIn K mainGlobals "steady_amounts" = some (some (.ref f16)))
    (l16 : K.lookup f16 = some ⟨oc16, od16, .func (PySem.W.fnOf "steady_amounts" "steady_amounts" (defArgs (top 19)) (defBody (top 19)) (defScope (top 19)) .none kV16 dc16 pm16 an16 cd16 ct16), sl16⟩)
    (c16 : PySem.W.codeIn K cd16 "steady_amounts" = true)
    (k16 : PySem.W.keepIn K (.ref f16) = true)
    (a17 : PySem.W.nsIn K mainGlobals "after_rounds" = some (some (.ref f17)))
    (l17 : K.lookup f17 = some ⟨oc17, od17, .func (PySem.W.fnOf "after_rounds" "after_rounds" (defArgs (top 20)) (defBody (top 20)) (defScope (top 20)) .none kV17 dc17 pm17 an17 cd17 ct17), sl17⟩)
    (c17 : PySem.W.codeIn K cd17 "after_rounds" = true)
    (k17 : PySem.W.keepIn K (.ref f17) = true)
    (a18 : PySem.W.nsIn K mainGlobals "is_row" = some (some (.ref f18)))
    (l18 : K.lookup f18 = some ⟨oc18, od18, .func (PySem.W.fnOf "is_row" "is_row" (defArgs (top 29)) (defBody (top 29)) (defScope (top 29)) .none kV18 dc18 pm18 an18 cd18 ct18), sl18⟩)
    (c18 : PySem.W.codeIn K cd18 "is_row" = true)
    (k18 : PySem.W.keepIn K (.ref f18) = true)
    (a19 : PySem.W.nsIn K mainGlobals "flat" = some (some (.ref f19)))
    (l19 : K.lookup f19 = some ⟨oc19, od19, .func (PySem.W.fnOf "flat" "flat" (defArgs (top 30)) (defBody (top 30)) (defScope (top 30)) .none kV19 dc19 pm19 an19 cd19 ct19), sl19⟩)
    (c19 : PySem.W.codeIn K cd19 "flat" = true)
    (k19 : PySem.W.keepIn K (.ref f19) = true)
    (a20 : PySem.W.nsIn K mainGlobals "written" = some (some (.ref f20)))
    (l20 : K.lookup f20 = some ⟨oc20, od20, .func (PySem.W.fnOf "written" "written" (defArgs (top 31)) (defBody (top 31)) (defScope (top 31)) .none kV20 dc20 pm20 an20 cd20 ct20), sl20⟩)
    (c20 : PySem.W.codeIn K cd20 "written" = true)
    (k20 : PySem.W.keepIn K (.ref f20) = true)
    (a21 : PySem.W.findIn K (.ref CCircuit) "__init__" = some (some (.ref f21)))
    (i21 : PySem.W.isFn K (.ref f21) = true)
    (l21 : K.lookup f21 = some ⟨oc21, od21, .func (PySem.W.fnOf "__init__" "Circuit.__init__" (defArgs (inClass (top 32) 0)) (defBody (inClass (top 32) 0)) (defScope (inClass (top 32) 0)) .none kV21 dc21 pm21 an21 cd21 ct21), sl21⟩)
    (c21 : PySem.W.codeIn K cd21 "Circuit.__init__" = true)
    (k21 : PySem.W.keepIn K (.ref f21) = true)
    (a22 : PySem.W.findIn K (.ref CCircuit) "check_size_class" = some (some (.ref f22)))
    (i22 : PySem.W.isFn K (.ref f22) = true)
    (l22 : K.lookup f22 = some ⟨oc22, od22, .func (PySem.W.fnOf "check_size_class" "Circuit.check_size_class" (defArgs (inClass (top 32) 1)) (defBody (inClass (top 32) 1)) (defScope (inClass (top 32) 1)) .none kV22 dc22 pm22 an22 cd22 ct22), sl22⟩)
    (c22 : PySem.W.codeIn K cd22 "Circuit.check_size_class" = true)
    (k22 : PySem.W.keepIn K (.ref f22) = true)
    (a23 : PySem.W.findIn K (.ref CCircuit) "check_cut" = some (some (.ref f23)))
    (i23 : PySem.W.isFn K (.ref f23) = true)
    (l23 : K.lookup f23 = some ⟨oc23, od23, .func (PySem.W.fnOf "check_cut" "Circuit.check_cut" (defArgs (inClass (top 32) 2)) (defBody (inClass (top 32) 2)) (defScope (inClass (top 32) 2)) .none kV23 dc23 pm23 an23 cd23 ct23), sl23⟩)
    (c23 : PySem.W.codeIn K cd23 "Circuit.check_cut" = true)
    (k23 : PySem.W.keepIn K (.ref f23) = true)
    (a24 : PySem.W.findIn K (.ref CCircuit) "replace_amounts" = some (some (.ref f24)))
    (i24 : PySem.W.isFn K (.ref f24) = true)
    (l24 : K.lookup f24 = some ⟨oc24, od24, .func (PySem.W.fnOf "replace_amounts" "Circuit.replace_amounts" (defArgs (inClass (top 32) 3)) (defBody (inClass (top 32) 3)) (defScope (inClass (top 32) 3)) .none kV24 dc24 pm24 an24 cd24 ct24), sl24⟩)
    (c24 : PySem.W.codeIn K cd24 "Circuit.replace_amounts" = true)
    (k24 : PySem.W.keepIn K (.ref f24) = true)
    (a25 : PySem.W.findIn K (.ref CCircuit) "checked_steady_amounts" = some (some (.ref f25)))
    (i25 : PySem.W.isFn K (.ref f25) = true)
    (l25 : K.lookup f25 = some ⟨oc25, od25, .func (PySem.W.fnOf "checked_steady_amounts" "Circuit.checked_steady_amounts" (defArgs (inClass (top 32) 4)) (defBody (inClass (top 32) 4)) (defScope (inClass (top 32) 4)) .none kV25 dc25 pm25 an25 cd25 ct25), sl25⟩)
    (c25 : PySem.W.codeIn K cd25 "Circuit.checked_steady_amounts" = true)
    (k25 : PySem.W.keepIn K (.ref f25) = true)
    (a26 : PySem.W.findIn K (.ref CCircuit) "set_breakage" = some (some (.ref f26)))
    (i26 : PySem.W.isFn K (.ref f26) = true)
    (l26 : K.lookup f26 = some ⟨oc26, od26, .func (PySem.W.fnOf "set_breakage" "Circuit.set_breakage" (defArgs (inClass (top 32) 5)) (defBody (inClass (top 32) 5)) (defScope (inClass (top 32) 5)) .none kV26 dc26 pm26 an26 cd26 ct26), sl26⟩)
    (c26 : PySem.W.codeIn K cd26 "Circuit.set_breakage" = true)
    (k26 : PySem.W.keepIn K (.ref f26) = true)
    (a27 : PySem.W.findIn K (.ref CCircuit) "get_breakage" = some (some (.ref f27)))
    (i27 : PySem.W.isFn K (.ref f27) = true)
    (l27 : K.lookup f27 = some ⟨oc27, od27, .func (PySem.W.fnOf "get_breakage" "Circuit.get_breakage" (defArgs (inClass (top 32) 6)) (defBody (inClass (top 32) 6)) (defScope (inClass (top 32) 6)) .none kV27 dc27 pm27 an27 cd27 ct27), sl27⟩)
    (c27 : PySem.W.codeIn K cd27 "Circuit.get_breakage" = true)
    (k27 : PySem.W.keepIn K (.ref f27) = true)
    (a28 : PySem.W.findIn K (.ref CCircuit) "set_feed" = some (some (.ref f28)))
    (i28 : PySem.W.isFn K (.ref f28) = true)
    (l28 : K.lookup f28 = some ⟨oc28, od28, .func (PySem.W.fnOf "set_feed" "Circuit.set_feed" (defArgs (inClass (top 32) 7)) (defBody (inClass (top 32) 7)) (defScope (inClass (top 32) 7)) .none kV28 dc28 pm28 an28 cd28 ct28), sl28⟩)
    (c28 : PySem.W.codeIn K cd28 "Circuit.set_feed" = true)
    (k28 : PySem.W.keepIn K (.ref f28) = true)
    (a29 : PySem.W.findIn K (.ref CCircuit) "load" = some (some (.ref f29)))
    (i29 : PySem.W.isFn K (.ref f29) = true)
    (l29 : K.lookup f29 = some ⟨oc29, od29, .func (PySem.W.fnOf "load" "Circuit.load" (defArgs (inClass (top 32) 8)) (defBody (inClass (top 32) 8)) (defScope (inClass (top 32) 8)) .none kV29 dc29 pm29 an29 cd29 ct29), sl29⟩)
    (c29 : PySem.W.codeIn K cd29 "Circuit.load" = true)
    (k29 : PySem.W.keepIn K (.ref f29) = true)
    (a30 : PySem.W.findIn K (.ref CCircuit) "grind" = some (some (.ref f30)))
    (i30 : PySem.W.isFn K (.ref f30) = true)
    (l30 : K.lookup f30 = some ⟨oc30, od30, .func (PySem.W.fnOf "grind" "Circuit.grind" (defArgs (inClass (top 32) 9)) (defBody (inClass (top 32) 9)) (defScope (inClass (top 32) 9)) .none kV30 dc30 pm30 an30 cd30 ct30), sl30⟩)
    (c30 : PySem.W.codeIn K cd30 "Circuit.grind" = true)
    (k30 : PySem.W.keepIn K (.ref f30) = true)
    (a31 : PySem.W.findIn K (.ref CCircuit) "remove_finer" = some (some (.ref f31)))
    (i31 : PySem.W.isFn K (.ref f31) = true)
    (l31 : K.lookup f31 = some ⟨oc31, od31, .func (PySem.W.fnOf "remove_finer" "Circuit.remove_finer" (defArgs (inClass (top 32) 10)) (defBody (inClass (top 32) 10)) (defScope (inClass (top 32) 10)) .none kV31 dc31 pm31 an31 cd31 ct31), sl31⟩)
    (c31 : PySem.W.codeIn K cd31 "Circuit.remove_finer" = true)
    (k31 : PySem.W.keepIn K (.ref f31) = true)
    (a32 : PySem.W.findIn K (.ref CCircuit) "get_amounts" = some (some (.ref f32)))
    (i32 : PySem.W.isFn K (.ref f32) = true)
    (l32 : K.lookup f32 = some ⟨oc32, od32, .func (PySem.W.fnOf "get_amounts" "Circuit.get_amounts" (defArgs (inClass (top 32) 11)) (defBody (inClass (top 32) 11)) (defScope (inClass (top 32) 11)) .none kV32 dc32 pm32 an32 cd32 ct32), sl32⟩)
    (c32 : PySem.W.codeIn K cd32 "Circuit.get_amounts" = true)
    (k32 : PySem.W.keepIn K (.ref f32) = true)
    (a33 : PySem.W.findIn K (.ref CCircuit) "amount_up_to" = some (some (.ref f33)))
    (i33 : PySem.W.isFn K (.ref f33) = true)
    (l33 : K.lookup f33 = some ⟨oc33, od33, .func (PySem.W.fnOf "amount_up_to" "Circuit.amount_up_to" (defArgs (inClass (top 32) 12)) (defBody (inClass (top 32) 12)) (defScope (inClass (top 32) 12)) .none kV33 dc33 pm33 an33 cd33 ct33), sl33⟩)
    (c33 : PySem.W.codeIn K cd33 "Circuit.amount_up_to" = true)
    (k33 : PySem.W.keepIn K (.ref f33) = true)
    (a34 : PySem.W.findIn K (.ref CCircuit) "preview_grind" = some (some (.ref f34)))
    (i34 : PySem.W.isFn K (.ref f34) = true)
    (l34 : K.lookup f34 = some ⟨oc34, od34, .func (PySem.W.fnOf "preview_grind" "Circuit.preview_grind" (defArgs (inClass (top 32) 13)) (defBody (inClass (top 32) 13)) (defScope (inClass (top 32) 13)) .none kV34 dc34 pm34 an34 cd34 ct34), sl34⟩)
    (c34 : PySem.W.codeIn K cd34 "Circuit.preview_grind" = true)
    (k34 : PySem.W.keepIn K (.ref f34) = true)
    (a35 : PySem.W.findIn K (.ref CCircuit) "has_steady_state" = some (some (.ref f35)))
    (i35 : PySem.W.isFn K (.ref f35) = true)
    (l35 : K.lookup f35 = some ⟨oc35, od35, .func (PySem.W.fnOf "has_steady_state" "Circuit.has_steady_state" (defArgs (inClass (top 32) 14)) (defBody (inClass (top 32) 14)) (defScope (inClass (top 32) 14)) .none kV35 dc35 pm35 an35 cd35 ct35), sl35⟩)
    (c35 : PySem.W.codeIn K cd35 "Circuit.has_steady_state" = true)
    (k35 : PySem.W.keepIn K (.ref f35) = true)
    (a36 : PySem.W.findIn K (.ref CCircuit) "steady_input" = some (some (.ref f36)))
    (i36 : PySem.W.isFn K (.ref f36) = true)
    (l36 : K.lookup f36 = some ⟨oc36, od36, .func (PySem.W.fnOf "steady_input" "Circuit.steady_input" (defArgs (inClass (top 32) 15)) (defBody (inClass (top 32) 15)) (defScope (inClass (top 32) 15)) .none kV36 dc36 pm36 an36 cd36 ct36), sl36⟩)
    (c36 : PySem.W.codeIn K cd36 "Circuit.steady_input" = true)
    (k36 : PySem.W.keepIn K (.ref f36) = true)
    (a37 : PySem.W.findIn K (.ref CCircuit) "steady_product" = some (some (.ref f37)))
    (i37 : PySem.W.isFn K (.ref f37) = true)
    (l37 : K.lookup f37 = some ⟨oc37, od37, .func (PySem.W.fnOf "steady_product" "Circuit.steady_product" (defArgs (inClass (top 32) 16)) (defBody (inClass (top 32) 16)) (defScope (inClass (top 32) 16)) .none kV37 dc37 pm37 an37 cd37 ct37), sl37⟩)
    (c37 : PySem.W.codeIn K cd37 "Circuit.steady_product" = true)
    (k37 : PySem.W.keepIn K (.ref f37) = true)
    (a38 : PySem.W.findIn K (.ref CCircuit) "steady_load" = some (some (.ref f38)))
    (i38 : PySem.W.isFn K (.ref f38) = true)
    (l38 : K.lookup f38 = some ⟨oc38, od38, .func (PySem.W.fnOf "steady_load" "Circuit.steady_load" (defArgs (inClass (top 32) 17)) (defBody (inClass (top 32) 17)) (defScope (inClass (top 32) 17)) .none kV38 dc38 pm38 an38 cd38 ct38), sl38⟩)
    (c38 : PySem.W.codeIn K cd38 "Circuit.steady_load" = true)
    (k38 : PySem.W.keepIn K (.ref f38) = true)
    (a39 : PySem.W.findIn K (.ref CCircuit) "load_ratio" = some (some (.ref f39)))
    (i39 : PySem.W.isFn K (.ref f39) = true)
    (l39 : K.lookup f39 = some ⟨oc39, od39, .func (PySem.W.fnOf "load_ratio" "Circuit.load_ratio" (defArgs (inClass (top 32) 18)) (defBody (inClass (top 32) 18)) (defScope (inClass (top 32) 18)) .none kV39 dc39 pm39 an39 cd39 ct39), sl39⟩)
    (c39 : PySem.W.codeIn K cd39 "Circuit.load_ratio" = true)
    (k39 : PySem.W.keepIn K (.ref f39) = true)
    (a40 : PySem.W.findIn K (.ref CCircuit) "simulate_rounds" = some (some (.ref f40)))
    (i40 : PySem.W.isFn K (.ref f40) = true)
    (l40 : K.lookup f40 = some ⟨oc40, od40, .func (PySem.W.fnOf "simulate_rounds" "Circuit.simulate_rounds" (defArgs (inClass (top 32) 19)) (defBody (inClass (top 32) 19)) (defScope (inClass (top 32) 19)) .none kV40 dc40 pm40 an40 cd40 ct40), sl40⟩)
    (c40 : PySem.W.codeIn K cd40 "Circuit.simulate_rounds" = true)
    (k40 : PySem.W.keepIn K (.ref f40) = true)
    (a41 : PySem.W.findIn K (.ref CCircuit) "totals" = some (some (.ref f41)))
    (i41 : PySem.W.isFn K (.ref f41) = true)
    (l41 : K.lookup f41 = some ⟨oc41, od41, .func (PySem.W.fnOf "totals" "Circuit.totals" (defArgs (inClass (top 32) 20)) (defBody (inClass (top 32) 20)) (defScope (inClass (top 32) 20)) .none kV41 dc41 pm41 an41 cd41 ct41), sl41⟩)
    (c41 : PySem.W.codeIn K cd41 "Circuit.totals" = true)
    (k41 : PySem.W.keepIn K (.ref f41) = true)
    (a42 : PySem.W.findIn K (.ref CCircuit) "passes_needed" = some (some (.ref f42)))
    (i42 : PySem.W.isFn K (.ref f42) = true)
    (l42 : K.lookup f42 = some ⟨oc42, od42, .func (PySem.W.fnOf "passes_needed" "Circuit.passes_needed" (defArgs (inClass (top 32) 21)) (defBody (inClass (top 32) 21)) (defScope (inClass (top 32) 21)) .none kV42 dc42 pm42 an42 cd42 ct42), sl42⟩)
    (c42 : PySem.W.codeIn K cd42 "Circuit.passes_needed" = true)
    (k42 : PySem.W.keepIn K (.ref f42) = true)
    (a43 : PySem.W.findIn K (.ref CCircuit) "coarsest_cut" = some (some (.ref f43)))
    (i43 : PySem.W.isFn K (.ref f43) = true)
    (l43 : K.lookup f43 = some ⟨oc43, od43, .func (PySem.W.fnOf "coarsest_cut" "Circuit.coarsest_cut" (defArgs (inClass (top 32) 22)) (defBody (inClass (top 32) 22)) (defScope (inClass (top 32) 22)) .none kV43 dc43 pm43 an43 cd43 ct43), sl43⟩)
    (c43 : PySem.W.codeIn K cd43 "Circuit.coarsest_cut" = true)
    (k43 : PySem.W.keepIn K (.ref f43) = true)
    (a44 : PySem.W.findIn K (.ref CCircuit) "get_feed" = some (some (.ref f44)))
    (i44 : PySem.W.isFn K (.ref f44) = true)
    (l44 : K.lookup f44 = some ⟨oc44, od44, .func (PySem.W.fnOf "get_feed" "Circuit.get_feed" (defArgs (inClass (top 32) 23)) (defBody (inClass (top 32) 23)) (defScope (inClass (top 32) 23)) .none kV44 dc44 pm44 an44 cd44 ct44), sl44⟩)
    (c44 : PySem.W.codeIn K cd44 "Circuit.get_feed" = true)
    (k44 : PySem.W.keepIn K (.ref f44) = true)
    (a45 : PySem.W.nsIn K mainGlobals "read_calls" = some (some (.ref f45)))
    (l45 : K.lookup f45 = some ⟨oc45, od45, .func (PySem.W.fnOf "read_calls" "read_calls" (defArgs (top 36)) (defBody (top 36)) (defScope (top 36)) .none kV45 dc45 pm45 an45 cd45 ct45), sl45⟩)
    (c45 : PySem.W.codeIn K cd45 "read_calls" = true)
    (k45 : PySem.W.keepIn K (.ref f45) = true)
    (a46 : PySem.W.nsIn K mainGlobals "ask_1_to_9" = some (some (.ref f46)))
    (l46 : K.lookup f46 = some ⟨oc46, od46, .func (PySem.W.fnOf "ask_1_to_9" "ask_1_to_9" (defArgs (top 38)) (defBody (top 38)) (defScope (top 38)) .none kV46 dc46 pm46 an46 cd46 ct46), sl46⟩)
    (c46 : PySem.W.codeIn K cd46 "ask_1_to_9" = true)
    (k46 : PySem.W.keepIn K (.ref f46) = true)
    (a47 : PySem.W.nsIn K mainGlobals "ask_10_to_19" = some (some (.ref f47)))
    (l47 : K.lookup f47 = some ⟨oc47, od47, .func (PySem.W.fnOf "ask_10_to_19" "ask_10_to_19" (defArgs (top 39)) (defBody (top 39)) (defScope (top 39)) .none kV47 dc47 pm47 an47 cd47 ct47), sl47⟩)
    (c47 : PySem.W.codeIn K cd47 "ask_10_to_19" = true)
    (k47 : PySem.W.keepIn K (.ref f47) = true)
    (a48 : PySem.W.findIn K (.ref CDesk) "__init__" = some (some (.ref f48)))
    (i48 : PySem.W.isFn K (.ref f48) = true)
    (l48 : K.lookup f48 = some ⟨oc48, od48, .func (PySem.W.fnOf "__init__" "Desk.__init__" (defArgs (inClass (top 40) 0)) (defBody (inClass (top 40) 0)) (defScope (inClass (top 40) 0)) .none kV48 dc48 pm48 an48 cd48 ct48), sl48⟩)
    (c48 : PySem.W.codeIn K cd48 "Desk.__init__" = true)
    (k48 : PySem.W.keepIn K (.ref f48) = true)
    (a49 : PySem.W.findIn K (.ref CDesk) "create" = some (some (.ref f49)))
    (i49 : PySem.W.isFn K (.ref f49) = true)
    (l49 : K.lookup f49 = some ⟨oc49, od49, .func (PySem.W.fnOf "create" "Desk.create" (defArgs (inClass (top 40) 1)) (defBody (inClass (top 40) 1)) (defScope (inClass (top 40) 1)) .none kV49 dc49 pm49 an49 cd49 ct49), sl49⟩)
    (c49 : PySem.W.codeIn K cd49 "Desk.create" = true)
    (k49 : PySem.W.keepIn K (.ref f49) = true)
    (a50 : PySem.W.findIn K (.ref CDesk) "carry_out" = some (some (.ref f50)))
    (i50 : PySem.W.isFn K (.ref f50) = true)
    (l50 : K.lookup f50 = some ⟨oc50, od50, .func (PySem.W.fnOf "carry_out" "Desk.carry_out" (defArgs (inClass (top 40) 2)) (defBody (inClass (top 40) 2)) (defScope (inClass (top 40) 2)) .none kV50 dc50 pm50 an50 cd50 ct50), sl50⟩)
    (c50 : PySem.W.codeIn K cd50 "Desk.carry_out" = true)
    (k50 : PySem.W.keepIn K (.ref f50) = true)
    (a51 : PySem.W.findIn K (.ref CDesk) "answer" = some (some (.ref f51)))
    (i51 : PySem.W.isFn K (.ref f51) = true)
    (l51 : K.lookup f51 = some ⟨oc51, od51, .func (PySem.W.fnOf "answer" "Desk.answer" (defArgs (inClass (top 40) 3)) (defBody (inClass (top 40) 3)) (defScope (inClass (top 40) 3)) .none kV51 dc51 pm51 an51 cd51 ct51), sl51⟩)
    (c51 : PySem.W.codeIn K cd51 "Desk.answer" = true)
    (k51 : PySem.W.keepIn K (.ref f51) = true)
    (a52 : PySem.W.nsIn K mainGlobals "answers" = some (some (.ref f52)))
    (l52 : K.lookup f52 = some ⟨oc52, od52, .func (PySem.W.fnOf "answers" "answers" (defArgs (top 41)) (defBody (top 41)) (defScope (top 41)) .none kV52 dc52 pm52 an52 cd52 ct52), sl52⟩)
    (c52 : PySem.W.codeIn K cd52 "answers" = true)
    (k52 : PySem.W.keepIn K (.ref f52) = true)
    (pgCircuit : PySem.W.plainGet K CCircuit Str.empty = true)
    (hdCircuit : PySem.W.hasDictIn K CCircuit = true)
    (poCircuit : PySem.W.plainOver K CCircuit = true)
    (saCircuit : PySem.W.findIn K (.ref CCircuit) "__setattr__" = some (some (.builtin "object.__setattr__")))
    (mkCircuit : PySem.W.makesIn K CCircuit = true)
    (kcCircuit : PySem.W.keepIn K (.ref CCircuit) = true)
    (nCircuit_class_count : PySem.W.findIn K (.ref CCircuit) "class_count" = some none)
    (nCircuit_breakage : PySem.W.findIn K (.ref CCircuit) "breakage" = some none)
    (nCircuit_feed : PySem.W.findIn K (.ref CCircuit) "feed" = some none)
    (nCircuit_amounts : PySem.W.findIn K (.ref CCircuit) "amounts" = some none)
    (nCircuit_loaded : PySem.W.findIn K (.ref CCircuit) "loaded" = some none)
    (nCircuit_removed : PySem.W.findIn K (.ref CCircuit) "removed" = some none)
    (nCircuit_pass_count : PySem.W.findIn K (.ref CCircuit) "pass_count" = some none)
    (pgDesk : PySem.W.plainGet K CDesk Str.empty = true)
    (hdDesk : PySem.W.hasDictIn K CDesk = true)
    (poDesk : PySem.W.plainOver K CDesk = true)
    (saDesk : PySem.W.findIn K (.ref CDesk) "__setattr__" = some (some (.builtin "object.__setattr__")))
    (mkDesk : PySem.W.makesIn K CDesk = true)
    (kcDesk : PySem.W.keepIn K (.ref CDesk) = true)
    (nDesk_circuit : PySem.W.findIn K (.ref CDesk) "circuit" = some none)
    (e0x : PySem.W.excIn K X0 [.type "Exception", .type "BaseException", .type "object"] "Exception.__new__" = true)
    (e0k : PySem.W.keepIn K (.ref X0) = true)
    (e0b : PySem.W.subIn K (.ref X0) (.type "BaseException") = some true)
    (e0t : PySem.W.typeIn K (.ref X0) = some (.type "type"))
    (e0i : PySem.W.isClsIn K X0 = true)
    (s0_0 : PySem.W.subIn K (.ref X0) (.ref X0) = some true)
    (e1x : PySem.W.excIn K X1 [.type "Exception", .type "BaseException", .type "object"] "Exception.__new__" = true)
    (e1k : PySem.W.keepIn K (.ref X1) = true)
    (e1b : PySem.W.subIn K (.ref X1) (.type "BaseException") = some true)
    (e1t : PySem.W.typeIn K (.ref X1) = some (.type "type"))
    (e1i : PySem.W.isClsIn K X1 = true)
    (s1_0 : PySem.W.subIn K (.ref X1) (.ref X0) = some false)
    (s1_1 : PySem.W.subIn K (.ref X1) (.ref X1) = some true)
    (e2x : PySem.W.excIn K X2 [.type "Exception", .type "BaseException", .type "object"] "Exception.__new__" = true)
    (e2k : PySem.W.keepIn K (.ref X2) = true)
    (e2b : PySem.W.subIn K (.ref X2) (.type "BaseException") = some true)
    (e2t : PySem.W.typeIn K (.ref X2) = some (.type "type"))
    (e2i : PySem.W.isClsIn K X2 = true)
    (s2_0 : PySem.W.subIn K (.ref X2) (.ref X0) = some false)
    (s2_1 : PySem.W.subIn K (.ref X2) (.ref X1) = some false)
    (s2_2 : PySem.W.subIn K (.ref X2) (.ref X2) = some true)
    (e3x : PySem.W.excIn K X3 [.type "Exception", .type "BaseException", .type "object"] "Exception.__new__" = true)
    (e3k : PySem.W.keepIn K (.ref X3) = true)
    (e3b : PySem.W.subIn K (.ref X3) (.type "BaseException") = some true)
    (e3t : PySem.W.typeIn K (.ref X3) = some (.type "type"))
    (e3i : PySem.W.isClsIn K X3 = true)
    (s3_0 : PySem.W.subIn K (.ref X3) (.ref X0) = some false)
    (s3_1 : PySem.W.subIn K (.ref X3) (.ref X1) = some false)
    (s3_2 : PySem.W.subIn K (.ref X3) (.ref X2) = some false)
    (s3_3 : PySem.W.subIn K (.ref X3) (.ref X3) = some true)
    (e4x : PySem.W.excIn K X4 [.type "Exception", .type "BaseException", .type "object"] "Exception.__new__" = true)
    (e4k : PySem.W.keepIn K (.ref X4) = true)
    (e4b : PySem.W.subIn K (.ref X4) (.type "BaseException") = some true)
    (e4t : PySem.W.typeIn K (.ref X4) = some (.type "type"))
    (e4i : PySem.W.isClsIn K X4 = true)
    (s4_0 : PySem.W.subIn K (.ref X4) (.ref X0) = some false)
    (s4_1 : PySem.W.subIn K (.ref X4) (.ref X1) = some false)
    (s4_2 : PySem.W.subIn K (.ref X4) (.ref X2) = some false)
    (s4_3 : PySem.W.subIn K (.ref X4) (.ref X3) = some false)
    (s4_4 : PySem.W.subIn K (.ref X4) (.ref X4) = some true)
    (e5x : PySem.W.excIn K X5 [.type "Exception", .type "BaseException", .type "object"] "Exception.__new__" = true)
    (e5k : PySem.W.keepIn K (.ref X5) = true)
    (e5b : PySem.W.subIn K (.ref X5) (.type "BaseException") = some true)
    (e5t : PySem.W.typeIn K (.ref X5) = some (.type "type"))
    (e5i : PySem.W.isClsIn K X5 = true)
    (s5_0 : PySem.W.subIn K (.ref X5) (.ref X0) = some false)
    (s5_1 : PySem.W.subIn K (.ref X5) (.ref X1) = some false)
    (s5_2 : PySem.W.subIn K (.ref X5) (.ref X2) = some false)
    (s5_3 : PySem.W.subIn K (.ref X5) (.ref X3) = some false)
    (s5_4 : PySem.W.subIn K (.ref X5) (.ref X4) = some false)
    (s5_5 : PySem.W.subIn K (.ref X5) (.ref X5) = some true)
    (z_range : PySem.W.nsIn K mainGlobals "range" = some none)
    (z_len : PySem.W.nsIn K mainGlobals "len" = some none)
    (z_zip : PySem.W.nsIn K mainGlobals "zip" = some none)
    (z_list : PySem.W.nsIn K mainGlobals "list" = some none)
    (z_all : PySem.W.nsIn K mainGlobals "all" = some none)
    (z_sum : PySem.W.nsIn K mainGlobals "sum" = some none)
    (z_max : PySem.W.nsIn K mainGlobals "max" = some none)
    (wa : PySem.W.nsIn K mainGlobals "WHOLE_ARGUMENTS" = some (some (.ref tW)))
    (wl : K.lookup tW = some oW)
    (ra : PySem.W.nsIn K mainGlobals "CALLS_WITH_ROW" = some (some (.ref tR)))
    (rl : K.lookup tR = some oR)
    (w2 : TabOk oW wargs)
    (r2 : TabOk oR [1, 3]) :
    ∃ fd : FuncData, (∀ (s : Shared) (us : List Value), us.length = (["calls"] : List Str).length → BindsTo s fd ⟨us, []⟩ ((["calls"] : List Str).zip us)) ∧ ∀ base : Heap, K.In base → base.Ns mainGlobals mg → FnOk P w K mg base CX0 12 fa fd ["calls"] (spAns K) := by
  have e0 := hfa.symm.trans (PySem.W.mg_of X G a52)
  cases e0
  have F0 := fun_mk (st := (top 1)) l0 c0 k0
  have F1 := fun_mk (st := (top 2)) l1 c1 k1
  have F2 := fun_mk (st := (top 3)) l2 c2 k2
  have F3 := fun_mk (st := (top 4)) l3 c3 k3
  have F4 := fun_mk (st := (top 5)) l4 c4 k4
  have F5 := fun_mk (st := (top 6)) l5 c5 k5
  have F6 := fun_mk (st := (top 7)) l6 c6 k6
  have F7 := fun_mk (st := (top 8)) l7 c7 k7
  have F8 := fun_mk (st := (top 10)) l8 c8 k8
  have F9 := fun_mk (st := (top 11)) l9 c9 k9
  have F10 := fun_mk (st := (top 12)) l10 c10 k10
  have F11 := fun_mk (st := (top 13)) l11 c11 k11
  have F12 := fun_mk (st := (top 14)) l12 c12 k12
  have F13 := fun_mk (st := (top 16)) l13 c13 k13
  have F14 := fun_mk (st := (top 17)) l14 c14 k14
  have F15 := fun_mk (st := (top 18)) l15 c15 k15
  have F16 := fun_mk (st := (top 19)) l16 c16 k16
  have F17 := fun_mk (st := (top 20)) l17 c17 k17
  have F18 := fun_mk (st := (top 29)) l18 c18 k18
  have F19 := fun_mk (st := (top 30)) l19 c19 k19
  have F20 := fun_mk (st := (top 31)) l20 c20 k20
  have F21 := fun_mk (st := (inClass (top 32) 0)) l21 c21 k21
  have F22 := fun_mk (st := (inClass (top 32) 1)) l22 c22 k22
  have F23 := fun_mk (st := (inClass (top 32) 2)) l23 c23 k23
  have F24 := fun_mk (st := (inClass (top 32) 3)) l24 c24 k24
  have F25 := fun_mk (st := (inClass (top 32) 4)) l25 c25 k25
  have F26 := fun_mk (st := (inClass (top 32) 5)) l26 c26 k26
  have F27 := fun_mk (st := (inClass (top 32) 6)) l27 c27 k27
  have F28 := fun_mk (st := (inClass (top 32) 7)) l28 c28 k28
  have F29 := fun_mk (st := (inClass (top 32) 8)) l29 c29 k29
  have F30 := fun_mk (st := (inClass (top 32) 9)) l30 c30 k30
  have F31 := fun_mk (st := (inClass (top 32) 10)) l31 c31 k31
  have F32 := fun_mk (st := (inClass (top 32) 11)) l32 c32 k32
  have F33 := fun_mk (st := (inClass (top 32) 12)) l33 c33 k33
  have F34 := fun_mk (st := (inClass (top 32) 13)) l34 c34 k34
  have F35 := fun_mk (st := (inClass (top 32) 14)) l35 c35 k35
  have F36 := fun_mk (st := (inClass (top 32) 15)) l36 c36 k36
  have F37 := fun_mk (st := (inClass (top 32) 16)) l37 c37 k37
  have F38 := fun_mk (st := (inClass (top 32) 17)) l38 c38 k38
  have F39 := fun_mk (st := (inClass (top 32) 18)) l39 c39 k39
  have F40 := fun_mk (st := (inClass (top 32) 19)) l40 c40 k40
  have F41 := fun_mk (st := (inClass (top 32) 20)) l41 c41 k41
  have F42 := fun_mk (st := (inClass (top 32) 21)) l42 c42 k42
  have F43 := fun_mk (st := (inClass (top 32) 22)) l43 c43 k43
  have F44 := fun_mk (st := (inClass (top 32) 23)) l44 c44 k44
  have F45 := fun_mk (st := (top 36)) l45 c45 k45
  have F46 := fun_mk (st := (top 38)) l46 c46 k46
  have F47 := fun_mk (st := (top 39)) l47 c47 k47
  have F48 := fun_mk (st := (inClass (top 40) 0)) l48 c48 k48
  have F49 := fun_mk (st := (inClass (top 40) 1)) l49 c49 k49
  have F50 := fun_mk (st := (inClass (top 40) 2)) l50 c50 k50
  have F51 := fun_mk (st := (inClass (top 40) 3)) l51 c51 k51
  have F52 := fun_mk (st := (top 41)) l52 c52 k52
  have b0 := F0.binds (ps := ["number"]) fun _ _ _ _ _ _ us hl => match us, hl with | [_], _ => rfl
  have b1 := F1.binds (ps := ["left", "right"]) fun _ _ _ _ _ _ us hl => match us, hl with | [_, _], _ => rfl
  have b2 := F2.binds (ps := ["num", "den"]) fun _ _ _ _ _ _ us hl => match us, hl with | [_, _], _ => rfl
  have b3 := F3.binds (ps := ["left", "right"]) fun _ _ _ _ _ _ us hl => match us, hl with | [_, _], _ => rfl
  have b4 := F4.binds (ps := ["fraction", "num", "den"]) fun _ _ _ _ _ _ us hl => match us, hl with | [_, _, _], _ => rfl
  have b5 := F5.binds (ps := ["fractions"]) fun _ _ _ _ _ _ us hl => match us, hl with | [_], _ => rfl
  have b6 := F6.binds (ps := ["fraction", "bound"]) fun _ _ _ _ _ _ us hl => match us, hl with | [_, _], _ => rfl
  have b7 := F7.binds (ps := ["fraction"]) fun _ _ _ _ _ _ us hl => match us, hl with | [_], _ => rfl
  have b8 := F8.binds (ps := ["class_count"]) fun _ _ _ _ _ _ us hl => match us, hl with | [_], _ => rfl
  have b9 := F9.binds (ps := ["amounts", "feed"]) fun _ _ _ _ _ _ us hl => match us, hl with | [_, _], _ => rfl
  have b10 := F10.binds (ps := ["breakage", "amounts", "fine", "first"]) fun _ _ _ _ _ _ us hl => match us, hl with | [_, _, _, _], _ => rfl
  have b11 := F11.binds (ps := ["breakage", "amounts"]) fun _ _ _ _ _ _ us hl => match us, hl with | [_, _], _ => rfl
  have b12 := F12.binds (ps := ["breakage", "amounts", "passes"]) fun _ _ _ _ _ _ us hl => match us, hl with | [_, _, _], _ => rfl
  have b13 := F13.binds (ps := ["amounts", "cut"]) fun _ _ _ _ _ _ us hl => match us, hl with | [_, _], _ => rfl
  have b14 := F14.binds (ps := ["amounts", "cut"]) fun _ _ _ _ _ _ us hl => match us, hl with | [_, _], _ => rfl
  have b15 := F15.binds (ps := ["breakage", "cut"]) fun _ _ _ _ _ _ us hl => match us, hl with | [_, _], _ => rfl
  have b16 := F16.binds (ps := ["breakage", "feed", "cut"]) fun _ _ _ _ _ _ us hl => match us, hl with | [_, _, _], _ => rfl
  have b17 := F17.binds (ps := ["breakage", "feed", "cut", "rounds"]) fun _ _ _ _ _ _ us hl => match us, hl with | [_, _, _, _], _ => rfl
  have b18 := F18.binds (ps := ["numbers", "count"]) fun _ _ _ _ _ _ us hl => match us, hl with | [_, _], _ => rfl
  have b19 := F19.binds (ps := ["fractions"]) fun _ _ _ _ _ _ us hl => match us, hl with | [_], _ => rfl
  have b20 := F20.binds (ps := ["amounts"]) fun _ _ _ _ _ _ us hl => match us, hl with | [_], _ => rfl
  have b21 := F21.binds (ps := ["self", "class_count"]) fun _ _ _ _ _ _ us hl => match us, hl with | [_, _], _ => rfl
  have b22 := F22.binds (ps := ["self", "size_class"]) fun _ _ _ _ _ _ us hl => match us, hl with | [_, _], _ => rfl
  have b23 := F23.binds (ps := ["self", "cut"]) fun _ _ _ _ _ _ us hl => match us, hl with | [_, _], _ => rfl
  have b24 := F24.binds (ps := ["self", "amounts"]) fun _ _ _ _ _ _ us hl => match us, hl with | [_, _], _ => rfl
  have b25 := F25.binds (ps := ["self", "cut"]) fun _ _ _ _ _ _ us hl => match us, hl with | [_, _], _ => rfl
  have b26 := F26.binds (ps := ["self", "size_class", "percentages"]) fun _ _ _ _ _ _ us hl => match us, hl with | [_, _, _], _ => rfl
  have b27 := F27.binds (ps := ["self", "size_class"]) fun _ _ _ _ _ _ us hl => match us, hl with | [_, _], _ => rfl
  have b28 := F28.binds (ps := ["self", "feed"]) fun _ _ _ _ _ _ us hl => match us, hl with | [_, _], _ => rfl
  have b29 := F29.binds (ps := ["self"]) fun _ _ _ _ _ _ us hl => match us, hl with | [_], _ => rfl
  have b30 := F30.binds (ps := ["self"]) fun _ _ _ _ _ _ us hl => match us, hl with | [_], _ => rfl
  have b31 := F31.binds (ps := ["self", "cut"]) fun _ _ _ _ _ _ us hl => match us, hl with | [_, _], _ => rfl
  have b32 := F32.binds (ps := ["self"]) fun _ _ _ _ _ _ us hl => match us, hl with | [_], _ => rfl
  have b33 := F33.binds (ps := ["self", "size_class"]) fun _ _ _ _ _ _ us hl => match us, hl with | [_, _], _ => rfl
  have b34 := F34.binds (ps := ["self", "passes"]) fun _ _ _ _ _ _ us hl => match us, hl with | [_, _], _ => rfl
  have b35 := F35.binds (ps := ["self", "cut"]) fun _ _ _ _ _ _ us hl => match us, hl with | [_, _], _ => rfl
  have b36 := F36.binds (ps := ["self", "cut"]) fun _ _ _ _ _ _ us hl => match us, hl with | [_, _], _ => rfl
  have b37 := F37.binds (ps := ["self", "cut"]) fun _ _ _ _ _ _ us hl => match us, hl with | [_, _], _ => rfl
  have b38 := F38.binds (ps := ["self", "cut"]) fun _ _ _ _ _ _ us hl => match us, hl with | [_, _], _ => rfl
  have b39 := F39.binds (ps := ["self", "cut"]) fun _ _ _ _ _ _ us hl => match us, hl with | [_, _], _ => rfl
  have b40 := F40.binds (ps := ["self", "cut", "rounds"]) fun _ _ _ _ _ _ us hl => match us, hl with | [_, _, _], _ => rfl
  have b41 := F41.binds (ps := ["self"]) fun _ _ _ _ _ _ us hl => match us, hl with | [_], _ => rfl
  have b42 := F42.binds (ps := ["self", "num", "den"]) fun _ _ _ _ _ _ us hl => match us, hl with | [_, _, _], _ => rfl
  have b43 := F43.binds (ps := ["self", "num", "den"]) fun _ _ _ _ _ _ us hl => match us, hl with | [_, _, _], _ => rfl
  have b44 := F44.binds (ps := ["self"]) fun _ _ _ _ _ _ us hl => match us, hl with | [_], _ => rfl
  have b45 := F45.binds (ps := ["calls"]) fun _ _ _ _ _ _ us hl => match us, hl with | [_], _ => rfl
  have b46 := F46.binds (ps := ["circuit", "number", "arguments"]) fun _ _ _ _ _ _ us hl => match us, hl with | [_, _, _], _ => rfl
  have b47 := F47.binds (ps := ["circuit", "number", "arguments"]) fun _ _ _ _ _ _ us hl => match us, hl with | [_, _, _], _ => rfl
  have b48 := F48.binds (ps := ["self"]) fun _ _ _ _ _ _ us hl => match us, hl with | [_], _ => rfl
  have b49 := F49.binds (ps := ["self", "class_count"]) fun _ _ _ _ _ _ us hl => match us, hl with | [_, _], _ => rfl
  have b50 := F50.binds (ps := ["self", "number", "arguments"]) fun _ _ _ _ _ _ us hl => match us, hl with | [_, _, _], _ => rfl
  have b51 := F51.binds (ps := ["self", "number", "arguments"]) fun _ _ _ _ _ _ us hl => match us, hl with | [_, _, _], _ => rfl
  have n_range := PySem.W.mg_none_of X G z_range
  have n_len := PySem.W.mg_none_of X G z_len
  have n_zip := PySem.W.mg_none_of X G z_zip
  have n_list := PySem.W.mg_none_of X G z_list
  have n_all := PySem.W.mg_none_of X G z_all
  have n_sum := PySem.W.mg_none_of X G z_sum
  have n_max := PySem.W.mg_none_of X G z_max
  refine ⟨PySem.W.fnOf "answers" "answers" (defArgs (top 41)) (defBody (top 41)) (defScope (top 41)) .none kV52 dc52 pm52 an52 cd52 ct52, fun s us hu => match us, hu with | [_], _ => .of_eq rfl, fun base _ _ => ?_⟩
  have dWhole := ok_whole (P := P) (w := w) (base := base) F0 b0 (PySem.W.mg_of X G a0) 
  have dGcd := ok_gcd (P := P) (w := w) (base := base) F1 b1 (PySem.W.mg_of X G a1) 
  have dLow := ok_low (P := P) (w := w) (base := base) F2 b2 (PySem.W.mg_of X G a2) dGcd
  have dPlus := ok_plus (P := P) (w := w) (base := base) F3 b3 (PySem.W.mg_of X G a3) dLow
  have dScaled := ok_scaled (P := P) (w := w) (base := base) F4 b4 (PySem.W.mg_of X G a4) dLow
  have dTotal := ok_total (P := P) (w := w) (base := base) F5 b5 (PySem.W.mg_of X G a5) dWhole dPlus
  have dAt := ok_atLeast (P := P) (w := w) (base := base) F6 b6 (PySem.W.mg_of X G a6) 
  have dBig := ok_tooLarge (P := P) (w := w) (base := base) F7 b7 (PySem.W.mg_of X G a7) 
  have dUnb := ok_unbroken (P := P) (w := w) (base := base) F8 b8 (PySem.W.mg_of X G a8) n_range
  have dFed := ok_withFeed (P := P) (w := w) (base := base) F9 b9 (PySem.W.mg_of X G a9) n_zip dWhole dPlus
  have dArr := ok_arriving (P := P) (w := w) (base := base) F10 b10 (PySem.W.mg_of X G a10) n_range n_len dTotal dScaled
  have dPass := ok_pass (P := P) (w := w) (base := base) F11 b11 (PySem.W.mg_of X G a11) n_range n_len dArr
  have dPasses := ok_passes (P := P) (w := w) (base := base) F12 b12 (PySem.W.mg_of X G a12) n_range n_list dPass
  have dUnder := ok_under (P := P) (w := w) (base := base) F13 b13 (PySem.W.mg_of X G a13) n_len dWhole
  have dOver := ok_over (P := P) (w := w) (base := base) F14 b14 (PySem.W.mg_of X G a14) dWhole
  have dIs := ok_isSteady (P := P) (w := w) (base := base) F15 b15 (PySem.W.mg_of X G a15) n_range n_len n_all
  have dSt := ok_steady (P := P) (w := w) (base := base) F16 b16 (PySem.W.mg_of X G a16) n_range n_len dWhole dPlus dScaled dArr
  have dRounds := ok_rounds (P := P) (w := w) (base := base) F17 b17 (PySem.W.mg_of X G a17) n_range n_len dWhole dPlus dTotal dFed dPass dUnder dOver
  have dRow := ok_isRow (P := P) (w := w) (base := base) F18 b18 (PySem.W.mg_of X G a18) n_len n_max
  have dFlat := ok_flat (P := P) (w := w) (base := base) F19 b19 (PySem.W.mg_of X G a19) 
  have dWr := ok_written (P := P) (w := w) (base := base) F20 b20 (PySem.W.mg_of X G a20) n_len dFlat
  have L : Lib P w K mg base := ⟨dWhole, dLow, dPlus, dScaled, dTotal, dAt, dBig, dUnb, dFed, dPass, dPasses, dUnder, dOver, dIs, dSt, dRounds, dRow, dFlat, dWr, n_len, n_list, n_sum, n_range⟩
  have T : Txt K CCircuit := ⟨⟨pgCircuit, hdCircuit, poCircuit, saCircuit⟩, nCircuit_class_count, nCircuit_breakage, nCircuit_feed, nCircuit_amounts, nCircuit_loaded, nCircuit_removed, nCircuit_pass_count⟩
  have TD : TxtD K CDesk := ⟨⟨pgDesk, hdDesk, poDesk, saDesk⟩, nDesk_circuit⟩
  have R0 : ErrOk K mg "NoCircuit" X0 := ⟨e0x, PySem.W.mg_of X G e0a, e0k, e0b, e0t⟩
  have R1 : ErrOk K mg "NoSuchClass" X1 := ⟨e1x, PySem.W.mg_of X G e1a, e1k, e1b, e1t⟩
  have R2 : ErrOk K mg "BadArgument" X2 := ⟨e2x, PySem.W.mg_of X G e2a, e2k, e2b, e2t⟩
  have R3 : ErrOk K mg "NoSuchValue" X3 := ⟨e3x, PySem.W.mg_of X G e3a, e3k, e3b, e3t⟩
  have R4 : ErrOk K mg "NothingThere" X4 := ⟨e4x, PySem.W.mg_of X G e4a, e4k, e4b, e4t⟩
  have R5 : ErrOk K mg "TooLarge" X5 := ⟨e5x, PySem.W.mg_of X G e5a, e5k, e5b, e5t⟩
  generalize he : Errs.mk X0 X1 X2 X3 X4 X5 = e
  have R0 : ErrOk K mg "NoCircuit" e.nc := by rw [← he]; exact R0
  have R1 : ErrOk K mg "NoSuchClass" e.ns := by rw [← he]; exact R1
  have R2 : ErrOk K mg "BadArgument" e.ba := by rw [← he]; exact R2
  have R3 : ErrOk K mg "NoSuchValue" e.nv := by rw [← he]; exact R3
  have R4 : ErrOk K mg "NothingThere" e.nt := by rw [← he]; exact R4
  have R5 : ErrOk K mg "TooLarge" e.tl := by rw [← he]; exact R5
  have six : Six K mg e := ⟨R0, R1, R2, R3, R4, R5⟩
  have exm : Exm K e := by
    rw [← he]
    exact ⟨exm_of e0b e0i e0t s0_0, exm_of e0b e0i e0t s1_0, exm_of e1b e1i e1t s1_1, exm_of e0b e0i e0t s2_0, exm_of e1b e1i e1t s2_1, exm_of e2b e2i e2t s2_2, exm_of e0b e0i e0t s3_0, exm_of e1b e1i e1t s3_1, exm_of e2b e2i e2t s3_2, exm_of e3b e3i e3t s3_3, exm_of e0b e0i e0t s4_0, exm_of e1b e1i e1t s4_1, exm_of e2b e2i e2t s4_2, exm_of e3b e3i e3t s4_3, exm_of e4b e4i e4t s4_4, exm_of e0b e0i e0t s5_0, exm_of e1b e1i e1t s5_1, exm_of e2b e2i e2t s5_2, exm_of e3b e3i e3t s5_3, exm_of e4b e4i e4t s5_4, exm_of e5b e5i e5t s5_5⟩
  have m1 := (ok_ckClass (P := P) (w := w) (base := base) (mg := mg) (e := e) F22 b22 ⟨a22, i22, k22⟩ T R1)
  have m2 := (ok_ckCut (P := P) (w := w) (base := base) (mg := mg) (e := e) F23 b23 ⟨a23, i23, k23⟩ T R2)
  have m3 := (ok_replace (P := P) (w := w) (base := base) (mg := mg) (e := e) F24 b24 ⟨a24, i24, k24⟩ T R5 dBig)
  have m4 := (ok_ckSteady (P := P) (w := w) (base := base) (mg := mg) (e := e) F25 b25 ⟨a25, i25, k25⟩ T R3 m2 dIs dSt)
  have Y : Sys P w K mg base CCircuit e := ⟨T, R2, R4, R3, m1, m2, m3, m4⟩
  have M_setB := (ok_setB (P := P) (w := w) (base := base) (mg := mg) (e := e) F26 b26 ⟨a26, i26, k26⟩ L Y)
  have M_getB := (ok_getB (P := P) (w := w) (base := base) (mg := mg) (e := e) F27 b27 ⟨a27, i27, k27⟩ L Y)
  have M_setF := (ok_setF (P := P) (w := w) (base := base) (mg := mg) (e := e) F28 b28 ⟨a28, i28, k28⟩ L Y)
  have M_load := (ok_load (P := P) (w := w) (base := base) (mg := mg) (e := e) F29 b29 ⟨a29, i29, k29⟩ L Y)
  have M_grind := (ok_grind (P := P) (w := w) (base := base) (mg := mg) (e := e) F30 b30 ⟨a30, i30, k30⟩ L Y)
  have M_remove := (ok_remove (P := P) (w := w) (base := base) (mg := mg) (e := e) F31 b31 ⟨a31, i31, k31⟩ L Y)
  have M_getA := (ok_getA (P := P) (w := w) (base := base) (mg := mg) (e := e) F32 b32 ⟨a32, i32, k32⟩ L Y)
  have M_upTo := (ok_upTo (P := P) (w := w) (base := base) (mg := mg) (e := e) F33 b33 ⟨a33, i33, k33⟩ L Y)
  have M_preview := (ok_preview (P := P) (w := w) (base := base) (mg := mg) (e := e) F34 b34 ⟨a34, i34, k34⟩ L Y)
  have M_hasSt := (ok_hasSt (P := P) (w := w) (base := base) (mg := mg) (e := e) F35 b35 ⟨a35, i35, k35⟩ L Y)
  have M_stIn := (ok_stIn (P := P) (w := w) (base := base) (mg := mg) (e := e) F36 b36 ⟨a36, i36, k36⟩ L Y)
  have M_stPr := (ok_stPr (P := P) (w := w) (base := base) (mg := mg) (e := e) F37 b37 ⟨a37, i37, k37⟩ L Y)
  have M_stLo := (ok_stLo (P := P) (w := w) (base := base) (mg := mg) (e := e) F38 b38 ⟨a38, i38, k38⟩ L Y)
  have M_ratio := (ok_ratio (P := P) (w := w) (base := base) (mg := mg) (e := e) F39 b39 ⟨a39, i39, k39⟩ L Y)
  have M_simul := (ok_simul (P := P) (w := w) (base := base) (mg := mg) (e := e) F40 b40 ⟨a40, i40, k40⟩ L Y)
  have M_totals := (ok_totals (P := P) (w := w) (base := base) (mg := mg) (e := e) F41 b41 ⟨a41, i41, k41⟩ L Y)
  have M_needed := (ok_needed (P := P) (w := w) (base := base) (mg := mg) (e := e) F42 b42 ⟨a42, i42, k42⟩ L Y)
  have M_coarse := (ok_coarse (P := P) (w := w) (base := base) (mg := mg) (e := e) F43 b43 ⟨a43, i43, k43⟩ L Y)
  have M_getF := (ok_getF (P := P) (w := w) (base := base) (mg := mg) (e := e) F44 b44 ⟨a44, i44, k44⟩ L Y)
  have M : Mths P w K mg base CCircuit e := ⟨M_setB.mono (by decide), M_getB.mono (by decide), M_setF.mono (by decide), M_load, M_grind, M_remove, M_getA, M_upTo, M_preview, M_hasSt, M_stIn, M_stPr, M_stLo, M_ratio, M_simul, M_totals, M_needed, M_coarse, M_getF⟩
  have GI := ok_initC (e := e) F21 L T R2
  have tabs : Tabs K mg := ⟨⟨tW, PySem.W.mg_of X G wa, w2.seq wl⟩, ⟨tR, PySem.W.mg_of X G ra, r2.seq rl⟩⟩
  have dRead := ok_read (P := P) (w := w) (base := base) F45 b45 (PySem.W.mg_of X G a45) n_len tabs
  have A1 := ok_ask1 (P := P) (w := w) (base := base) F46 b46 (PySem.W.mg_of X G a46) T.cl M
  have A10 := ok_ask10 (P := P) (w := w) (base := base) F47 b47 (PySem.W.mg_of X G a47) T.cl M
  have GD := ok_initD (P := P) (w := w) (mg := mg) (base := base) F48 TD
  have mC := (ok_create (P := P) (w := w) (base := base) (mg := mg) (e := e) F49 b49 ⟨a49, i49, k49⟩ TD ⟨mkCircuit, a21, i21, kcCircuit⟩ GI b21 (PySem.W.mg_of X G aCircuit))
  have mCa := (ok_carry (P := P) (w := w) (base := base) (mg := mg) (e := e) F50 b50 ⟨a50, i50, k50⟩ TD R0 mC A1 A10)
  have mA := (ok_answer (P := P) (w := w) (base := base) (mg := mg) (e := e) F51 b51 ⟨a51, i51, k51⟩ TD six exm mCa)
  obtain ⟨fA, fdA, q1, q2, q3⟩ := mA
  exact ok_answers F52 TD n_len dRead ⟨mkDesk, a48, i48, kcDesk⟩ GD b48 (PySem.W.mg_of X G aDesk) q1 q2 q3
end Mill
open PySem PySem.W PyProof.Rows
set_option maxRecDepth 100000 in
set_option maxHeartbeats 80000000 in
theorem PySem.Challenge.cw_sievemill_s01_answers_holds : PySem.Challenge.rw_sievemill_s01_answers.Holds := by
  w_on; k_headS; (case hw => exact ⟨[.list [.int 4]], by decide +kernel, by decide +kernel⟩)
  k_fillS
  refine L2.walk_specK (r := PySem.Challenge.rw_sievemill_s01_answers) (k := 12) (CX := L2.CX0) (ps := ["calls"]) (sp := Mill.spAns) (by decide +kernel) rfl rfl ⟨rfl, by decide, by decide⟩ (fun w h Y => PySem.W.kIn_of Y) ?F ?S (fun _ _ _ _ z => z)
  case F =>
    intro w mg fa h Y KX G hmg
    refine' Mill.all_mk KX G hmg ?aCircuit ?aDesk ?e0a ?e1a ?e2a ?e3a ?e4a ?e5a ?a0 ?l0 ?c0 ?k0 ?a1 ?l1 ?c1 ?k1 ?a2 ?l2 ?c2 ?k2 ?a3 ?l3 ?c3 ?k3 ?a4 ?l4 ?c4 ?k4 ?a5 ?l5 ?c5 ?k5 ?a6 ?l6 ?c6 ?k6 ?a7 ?l7 ?c7 ?k7 ?a8 ?l8 ?c8 ?k8 ?a9 ?l9 ?c9 ?k9 ?a10 ?l10 ?c10 ?k10 ?a11 ?l11 ?c11 ?k11 ?a12 ?l12 ?c12 ?k12 ?a13 ?l13 ?c13 ?k13 ?a14 ?l14 ?c14 ?k14 ?a15 ?l15 ?c15 ?k15 ?a16 ?l16 ?c16 ?k16 ?a17 ?l17 ?c17 ?k17 ?a18 ?l18 ?c18 ?k18 ?a19 ?l19 ?c19 ?k19 ?a20 ?l20 ?c20 ?k20 ?a21 ?i21 ?l21 ?c21 ?k21 ?a22 ?i22 ?l22 ?c22 ?k22 ?a23 ?i23 ?l23 ?c23 ?k23 ?a24 ?i24 ?l24 ?c24 ?k24 ?a25 ?i25 ?l25 ?c25 ?k25 ?a26 ?i26 ?l26 ?c26 ?k26 ?a27 ?i27 ?l27 ?c27 ?k27 ?a28 ?i28 ?l28 ?c28 ?k28 ?a29 ?i29 ?l29 ?c29 ?k29 ?a30 ?i30 ?l30 ?c30 ?k30 ?a31 ?i31 ?l31 ?c31 ?k31 ?a32 ?i32 ?l32 ?c32 ?k32 ?a33 ?i33 ?l33 ?c33 ?k33 ?a34 ?i34 ?l34 ?c34 ?k34 ?a35 ?i35 ?l35 ?c35 ?k35 ?a36 ?i36 ?l36 ?c36 ?k36 ?a37 ?i37 ?l37 ?c37 ?k37 ?a38 ?i38 ?l38 ?c38 ?k38 ?a39 ?i39 ?l39 ?c39 ?k39 ?a40 ?i40 ?l40 ?c40 ?k40 ?a41 ?i41 ?l41 ?c41 ?k41 ?a42 ?i42 ?l42 ?c42 ?k42 ?a43 ?i43 ?l43 ?c43 ?k43 ?a44 ?i44 ?l44 ?c44 ?k44 ?a45 ?l45 ?c45 ?k45 ?a46 ?l46 ?c46 ?k46 ?a47 ?l47 ?c47 ?k47 ?a48 ?i48 ?l48 ?c48 ?k48 ?a49 ?i49 ?l49 ?c49 ?k49 ?a50 ?i50 ?l50 ?c50 ?k50 ?a51 ?i51 ?l51 ?c51 ?k51 ?a52 ?l52 ?c52 ?k52 ?pgCircuit ?hdCircuit ?poCircuit ?saCircuit ?mkCircuit ?kcCircuit ?nCircuit_class_count ?nCircuit_breakage ?nCircuit_feed ?nCircuit_amounts ?nCircuit_loaded ?nCircuit_removed ?nCircuit_pass_count ?pgDesk ?hdDesk ?poDesk ?saDesk ?mkDesk ?kcDesk ?nDesk_circuit ?e0x ?e0k ?e0b ?e0t ?e0i ?s0_0 ?e1x ?e1k ?e1b ?e1t ?e1i ?s1_0 ?s1_1 ?e2x ?e2k ?e2b ?e2t ?e2i ?s2_0 ?s2_1 ?s2_2 ?e3x ?e3k ?e3b ?e3t ?e3i ?s3_0 ?s3_1 ?s3_2 ?s3_3 ?e4x ?e4k ?e4b ?e4t ?e4i ?s4_0 ?s4_1 ?s4_2 ?s4_3 ?s4_4 ?e5x ?e5k ?e5b ?e5t ?e5i ?s5_0 ?s5_1 ?s5_2 ?s5_3 ?s5_4 ?s5_5 ?z_range ?z_len ?z_zip ?z_list ?z_all ?z_sum ?z_max ?wa ?wl ?ra ?rl ?w2 ?r2
    (case aCircuit => k_is)
    (case aDesk => k_is)
    (case e0a => k_is)
    (case e1a => k_is)
    (case e2a => k_is)
    (case e3a => k_is)
    (case e4a => k_is)
    (case e5a => k_is)
    (case a0 => k_is)
    (case l0 => k_is)
    (case c0 => k_is)
    (case k0 => k_is)
    (case a1 => k_is)
    (case l1 => k_is)
    (case c1 => k_is)
    (case k1 => k_is)
    (case a2 => k_is)
    (case l2 => k_is)
    (case c2 => k_is)
    (case k2 => k_is)
    (case a3 => k_is)
    (case l3 => k_is)
    (case c3 => k_is)
    (case k3 => k_is)
    (case a4 => k_is)
    (case l4 => k_is)
    (case c4 => k_is)
    (case k4 => k_is)
    (case a5 => k_is)
    (case l5 => k_is)
    (case c5 => k_is)
    (case k5 => k_is)
    (case a6 => k_is)
    (case l6 => k_is)
    (case c6 => k_is)
    (case k6 => k_is)
    (case a7 => k_is)
    (case l7 => k_is)
    (case c7 => k_is)
    (case k7 => k_is)
    (case a8 => k_is)
    (case l8 => k_is)
    (case c8 => k_is)
    (case k8 => k_is)
    (case a9 => k_is)
    (case l9 => k_is)
    (case c9 => k_is)
    (case k9 => k_is)
    (case a10 => k_is)
    (case l10 => k_is)
    (case c10 => k_is)
    (case k10 => k_is)
    (case a11 => k_is)
    (case l11 => k_is)
    (case c11 => k_is)
    (case k11 => k_is)
    (case a12 => k_is)
    (case l12 => k_is)
    (case c12 => k_is)
    (case k12 => k_is)
    (case a13 => k_is)
    (case l13 => k_is)
    (case c13 => k_is)
    (case k13 => k_is)
    (case a14 => k_is)
    (case l14 => k_is)
    (case c14 => k_is)
    (case k14 => k_is)
    (case a15 => k_is)
    (case l15 => k_is)
    (case c15 => k_is)
    (case k15 => k_is)
    (case a16 => k_is)
    (case l16 => k_is)
    (case c16 => k_is)
    (case k16 => k_is)
    (case a17 => k_is)
    (case l17 => k_is)
    (case c17 => k_is)
    (case k17 => k_is)
    (case a18 => k_is)
    (case l18 => k_is)
    (case c18 => k_is)
    (case k18 => k_is)
    (case a19 => k_is)
    (case l19 => k_is)
    (case c19 => k_is)
    (case k19 => k_is)
    (case a20 => k_is)
    (case l20 => k_is)
    (case c20 => k_is)
    (case k20 => k_is)
    (case a21 => k_is)
    (case i21 => k_is)
    (case l21 => k_is)
    (case c21 => k_is)
    (case k21 => k_is)
    (case a22 => k_is)
    (case i22 => k_is)
    (case l22 => k_is)
    (case c22 => k_is)
    (case k22 => k_is)
    (case a23 => k_is)
    (case i23 => k_is)
    (case l23 => k_is)
    (case c23 => k_is)
    (case k23 => k_is)
    (case a24 => k_is)
    (case i24 => k_is)
    (case l24 => k_is)
    (case c24 => k_is)
    (case k24 => k_is)
    (case a25 => k_is)
    (case i25 => k_is)
    (case l25 => k_is)
    (case c25 => k_is)
    (case k25 => k_is)
    (case a26 => k_is)
    (case i26 => k_is)
    (case l26 => k_is)
    (case c26 => k_is)
    (case k26 => k_is)
    (case a27 => k_is)
    (case i27 => k_is)
    (case l27 => k_is)
    (case c27 => k_is)
    (case k27 => k_is)
    (case a28 => k_is)
    (case i28 => k_is)
    (case l28 => k_is)
    (case c28 => k_is)
    (case k28 => k_is)
    (case a29 => k_is)
    (case i29 => k_is)
    (case l29 => k_is)
    (case c29 => k_is)
    (case k29 => k_is)
    (case a30 => k_is)
    (case i30 => k_is)
    (case l30 => k_is)
    (case c30 => k_is)
    (case k30 => k_is)
    (case a31 => k_is)
    (case i31 => k_is)
    (case l31 => k_is)
    (case c31 => k_is)
    (case k31 => k_is)
    (case a32 => k_is)
    (case i32 => k_is)
    (case l32 => k_is)
    (case c32 => k_is)
    (case k32 => k_is)
    (case a33 => k_is)
    (case i33 => k_is)
    (case l33 => k_is)
    (case c33 => k_is)
    (case k33 => k_is)
    (case a34 => k_is)
    (case i34 => k_is)
    (case l34 => k_is)
    (case c34 => k_is)
    (case k34 => k_is)
    (case a35 => k_is)
    (case i35 => k_is)
    (case l35 => k_is)
    (case c35 => k_is)
    (case k35 => k_is)
    (case a36 => k_is)
    (case i36 => k_is)
    (case l36 => k_is)
    (case c36 => k_is)
    (case k36 => k_is)
    (case a37 => k_is)
    (case i37 => k_is)
    (case l37 => k_is)
    (case c37 => k_is)
    (case k37 => k_is)
    (case a38 => k_is)
    (case i38 => k_is)
    (case l38 => k_is)
    (case c38 => k_is)
    (case k38 => k_is)
    (case a39 => k_is)
    (case i39 => k_is)
    (case l39 => k_is)
    (case c39 => k_is)
    (case k39 => k_is)
    (case a40 => k_is)
    (case i40 => k_is)
    (case l40 => k_is)
    (case c40 => k_is)
    (case k40 => k_is)
    (case a41 => k_is)
    (case i41 => k_is)
    (case l41 => k_is)
    (case c41 => k_is)
    (case k41 => k_is)
    (case a42 => k_is)
    (case i42 => k_is)
    (case l42 => k_is)
    (case c42 => k_is)
    (case k42 => k_is)
    (case a43 => k_is)
    (case i43 => k_is)
    (case l43 => k_is)
    (case c43 => k_is)
    (case k43 => k_is)
    (case a44 => k_is)
    (case i44 => k_is)
    (case l44 => k_is)
    (case c44 => k_is)
    (case k44 => k_is)
    (case a45 => k_is)
    (case l45 => k_is)
    (case c45 => k_is)
    (case k45 => k_is)
    (case a46 => k_is)
    (case l46 => k_is)
    (case c46 => k_is)
    (case k46 => k_is)
    (case a47 => k_is)
    (case l47 => k_is)
    (case c47 => k_is)
    (case k47 => k_is)
    (case a48 => k_is)
    (case i48 => k_is)
    (case l48 => k_is)
    (case c48 => k_is)
    (case k48 => k_is)
    (case a49 => k_is)
    (case i49 => k_is)
    (case l49 => k_is)
    (case c49 => k_is)
    (case k49 => k_is)
    (case a50 => k_is)
    (case i50 => k_is)
    (case l50 => k_is)
    (case c50 => k_is)
    (case k50 => k_is)
    (case a51 => k_is)
    (case i51 => k_is)
    (case l51 => k_is)
    (case c51 => k_is)
    (case k51 => k_is)
    (case a52 => k_is)
    (case l52 => k_is)
    (case c52 => k_is)
    (case k52 => k_is)
    (case pgCircuit => k_is)
    (case hdCircuit => k_is)
    (case poCircuit => k_is)
    (case saCircuit => k_is)
    (case mkCircuit => k_is)
    (case kcCircuit => k_is)
    (case nCircuit_class_count => k_is)
    (case nCircuit_breakage => k_is)
    (case nCircuit_feed => k_is)
    (case nCircuit_amounts => k_is)
    (case nCircuit_loaded => k_is)
    (case nCircuit_removed => k_is)
    (case nCircuit_pass_count => k_is)
    (case pgDesk => k_is)
    (case hdDesk => k_is)
    (case poDesk => k_is)
    (case saDesk => k_is)
    (case mkDesk => k_is)
    (case kcDesk => k_is)
    (case nDesk_circuit => k_is)
    (case e0x => k_exc)
    (case e0k => k_is)
    (case e0b => k_is)
    (case e0t => k_is)
    (case e0i => k_is)
    (case s0_0 => first | rfl | k_is)
    (case e1x => k_exc)
    (case e1k => k_is)
    (case e1b => k_is)
    (case e1t => k_is)
    (case e1i => k_is)
    (case s1_0 => first | rfl | k_is)
    (case s1_1 => first | rfl | k_is)
    (case e2x => k_exc)
    (case e2k => k_is)
    (case e2b => k_is)
    (case e2t => k_is)
    (case e2i => k_is)
    (case s2_0 => first | rfl | k_is)
    (case s2_1 => first | rfl | k_is)
    (case s2_2 => first | rfl | k_is)
    (case e3x => k_exc)
    (case e3k => k_is)
    (case e3b => k_is)
    (case e3t => k_is)
    (case e3i => k_is)
    (case s3_0 => first | rfl | k_is)
    (case s3_1 => first | rfl | k_is)
    (case s3_2 => first | rfl | k_is)
    (case s3_3 => first | rfl | k_is)
    (case e4x => k_exc)
    (case e4k => k_is)
    (case e4b => k_is)
    (case e4t => k_is)
    (case e4i => k_is)
    (case s4_0 => first | rfl | k_is)
    (case s4_1 => first | rfl | k_is)
    (case s4_2 => first | rfl | k_is)
    (case s4_3 => first | rfl | k_is)
    (case s4_4 => first | rfl | k_is)
    (case e5x => k_exc)
    (case e5k => k_is)
    (case e5b => k_is)
    (case e5t => k_is)
    (case e5i => k_is)
    (case s5_0 => first | rfl | k_is)
    (case s5_1 => first | rfl | k_is)
    (case s5_2 => first | rfl | k_is)
    (case s5_3 => first | rfl | k_is)
    (case s5_4 => first | rfl | k_is)
    (case s5_5 => first | rfl | k_is)
    (case z_range => k_is)
    (case z_len => k_is)
    (case z_zip => k_is)
    (case z_list => k_is)
    (case z_all => k_is)
    (case z_sum => k_is)
    (case z_max => k_is)
    (case wa => k_is)
    (case wl => k_is)
    (case ra => k_is)
    (case rl => k_is)
    (case w2 => exact ⟨_, _, rfl, rfl, by decide, .cons ⟨_, rfl⟩ (.cons ⟨_, rfl⟩ (.cons ⟨_, rfl⟩ (.cons ⟨_, rfl⟩ (.cons ⟨_, rfl⟩ (.cons ⟨_, rfl⟩ (.cons ⟨_, rfl⟩ (.cons ⟨_, rfl⟩ (.cons ⟨_, rfl⟩ (.cons ⟨_, rfl⟩ (.cons ⟨_, rfl⟩ (.cons ⟨_, rfl⟩ (.cons ⟨_, rfl⟩ (.cons ⟨_, rfl⟩ (.cons ⟨_, rfl⟩ (.cons ⟨_, rfl⟩ (.cons ⟨_, rfl⟩ (.cons ⟨_, rfl⟩ (.cons ⟨_, rfl⟩ (.cons ⟨_, rfl⟩ (.nil))))))))))))))))))))⟩)
    (case r2 => exact ⟨_, _, rfl, rfl, by decide, .cons ⟨_, rfl⟩ (.cons ⟨_, rfl⟩ (.nil))⟩)
  case S =>
    intro K H xs a hO hwi hask hx
    cases hx with
    | cons h1 h2 =>
      cases h2
      cases h1 with
      | lst hs ha =>
        have e := L2.ints_dw a.1 _ ha
        subst e
        have q : ((Codec.inLen 0 660 a.1 && a.1.all (Codec.inInt 0 4294967295)) && true) = true := hwi
        rw [Bool.and_eq_true, Bool.and_eq_true] at q
        exact ⟨_, a.1, rfl, hs, (Codec.inNat_iff.mp q.1.1).2, hask, fun H' p hp => .lst (L2.SqL.of hp) (L2.dw_ints _)⟩
#print axioms PySem.Challenge.cw_sievemill_s01_answers_holds
