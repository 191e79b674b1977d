import PyProof.Rows.All
import Kxd7Spec
import Wide.All
import OpenK.AllK
import Wide.FinOn
import Open.SpecLaws
import KE.OsHead
import KE.OsGo
import HandS.ForSpec
import HandS.Codes
import HandS.Comp
import HandS.Iter
import HandS.Nested
import HandS.CallLocal
import HandS.Wide
import PySem.Challenge.RW_stopearly_s01_answers
import HandS.More
import HandS.EndTab
import HandS.NestedK
import Kxd7Neutral
import PyKxd7
import KE.DatumOrd
set_option Elab.async false
set_option linter.all false
/-! KxA: the specification's fractions are the rational numbers. -/
namespace KxA
open Kxd7
/-- a rational number as the specification's fraction -/
def fr (q : Rat) : Fraction := ⟨q.num, q.den⟩
theorem fr_inj {a b : Rat} (h : fr a = fr b) : a = b := by
  unfold fr at h
  injection h with h1 h2
  exact Rat.ext h1 h2
theorem fraction_eq (n d : Int) : fraction n d = fr (Rat.divInt n d) := by
  unfold fr
  rw [Rat.num_divInt, Rat.den_divInt]
  unfold fraction
  simp only []
  by_cases h0 : d = 0
  · subst h0
    simp
  · rw [if_neg h0, if_neg h0]
    have hg : Int.gcd n d = d.gcd n := Int.gcd_comm n d
    by_cases h1 : d < 0
    · rw [if_pos h1]
      have hs : d.sign = -1 := Int.sign_eq_neg_one_of_neg h1
      rw [hg, hs]
      congr 1
      · rw [Int.neg_mul, Int.one_mul]
      · have e : -d = (d.natAbs : Int) := by omega
        rw [e, ← Int.natCast_ediv, Int.toNat_natCast]
    · rw [if_neg h1]
      have h2 : 0 < d := by omega
      have hs : d.sign = 1 := Int.sign_eq_one_of_pos h2
      rw [hg, hs]
      congr 1
      · rw [Int.one_mul]
      · have e : d = (d.natAbs : Int) := by omega
        rw [show d / (d.gcd n : Int) = (d.natAbs : Int) / (d.gcd n : Int) by rw [← e], ← Int.natCast_ediv, Int.toNat_natCast]
theorem fr_num (q : Rat) : (fr q).numerator = q.num := rfl
theorem fr_den (q : Rat) : (fr q).denominator = q.den := rfl
theorem ofInt_eq (n : Int) : ofInt n = fr (n : Rat) := rfl
theorem ofNat_eq (n : Nat) : ofNat n = fr (n : Rat) := rfl
theorem zero_eq : (⟨0, 1⟩ : Fraction) = fr 0 := rfl
theorem one_eq : (⟨1, 1⟩ : Fraction) = fr 1 := rfl
theorem plus_eq (a b : Rat) : plus (fr a) (fr b) = fr (a + b) := by
  unfold plus
  rw [fraction_eq, Rat.add_def', fr_num, fr_num, fr_den, fr_den, ← Rat.divInt_ofNat]
  rfl
theorem negative_eq (a : Rat) : negative (fr a) = fr (-a) := rfl
theorem minus_eq (a b : Rat) : minus (fr a) (fr b) = fr (a - b) := by
  unfold minus
  rw [negative_eq, plus_eq, Rat.sub_eq_add_neg]
theorem times_eq (a b : Rat) : times (fr a) (fr b) = fr (a * b) := by
  unfold times
  rw [fraction_eq, fr_num, fr_num, fr_den, fr_den]
  congr 1
  rw [Rat.mul_def, Rat.normalize_eq_mkRat, ← Rat.divInt_ofNat]
  rfl
theorem over_eq (a b : Rat) : over (fr a) (fr b) = fr (a / b) := by
  unfold over
  rw [fraction_eq, fr_num, fr_num, fr_den, fr_den]
  congr 1
  rw [Rat.div_def]
  have e : a * b⁻¹ = Rat.divInt a.num a.den * (Rat.divInt b.num b.den)⁻¹ := by
    rw [Rat.num_divInt_den, Rat.num_divInt_den]
  rw [e, Rat.inv_divInt, Rat.divInt_mul_divInt]
theorem power_eq (x : Rat) : ∀ n, power (fr x) n = fr (x ^ n)
  | 0 => by rw [Rat.pow_zero]; rfl
  | n + 1 => by
    show times (fr x) (power (fr x) n) = _
    rw [power_eq x n, times_eq, Rat.pow_succ, Rat.mul_comm]
theorem isLess_eq (a b : Rat) : isLess (fr a) (fr b) = decide (a < b) := by
  unfold isLess
  rw [fr_num, fr_num, fr_den, fr_den]
  exact decide_eq_decide.mpr (Rat.lt_iff a b).symm
theorem isAtMost_eq (a b : Rat) : isAtMost (fr a) (fr b) = decide (a ≤ b) := by
  unfold isAtMost
  rw [isLess_eq]
  by_cases h : a ≤ b
  · rw [decide_eq_true h, decide_eq_false (Rat.not_lt.mpr h)]
    rfl
  · rw [decide_eq_false h, decide_eq_true (Rat.not_le.mp h)]
    rfl
/-- a sum of rational numbers -/
def sum (l : List Rat) : Rat := l.foldl (· + ·) 0
theorem fold_plus : ∀ (l : List Rat) (a : Rat), (l.map fr).foldl plus (fr a) = fr (l.foldl (· + ·) a)
  | [], _ => rfl
  | x :: r, a => by
    show (r.map fr).foldl plus (plus (fr a) (fr x)) = fr (r.foldl (· + ·) (a + x))
    rw [plus_eq]
    exact fold_plus r (a + x)
theorem total_eq (l : List Rat) : total (l.map fr) = fr (sum l) := fold_plus l 0
theorem fold_shift : ∀ (l : List Rat) (a : Rat), l.foldl (· + ·) a = a + l.foldl (· + ·) 0
  | [], a => (Rat.add_zero a).symm
  | x :: r, a => by
    show r.foldl (· + ·) (a + x) = a + r.foldl (· + ·) (0 + x)
    rw [fold_shift r (a + x), fold_shift r (0 + x), Rat.zero_add, Rat.add_assoc]
theorem sum_nil : sum [] = 0 := rfl
theorem sum_cons (x : Rat) (l : List Rat) : sum (x :: l) = x + sum l := by
  show l.foldl (· + ·) (0 + x) = _
  rw [fold_shift, Rat.zero_add]
  rfl
theorem sum_append : ∀ (l m : List Rat), sum (l ++ m) = sum l + sum m
  | [], m => by rw [List.nil_append, sum_nil, Rat.zero_add]
  | x :: l, m => by rw [List.cons_append, sum_cons, sum_cons, sum_append l m, Rat.add_assoc]
theorem sum_mul (c : Rat) : ∀ (l : List Rat), sum (l.map (c * ·)) = c * sum l
  | [] => by rw [List.map_nil, sum_nil, Rat.mul_zero]
  | x :: l => by rw [List.map_cons, sum_cons, sum_cons, sum_mul c l, Rat.mul_add]
/-- n / d of whole numbers -/
theorem share_eq (n d : Nat) : share n d = fr ((n : Rat) / (d : Rat)) := by
  unfold share
  rw [fraction_eq]
  congr 1
  rw [Rat.divInt_eq_div]
  rfl
theorem fields_fraction (n d : Int) : fields (fr ((n : Rat) / (d : Rat))) = fields (fraction n d) := by
  rw [fraction_eq, Rat.divInt_eq_div]
end KxA
/-! KxB: probabilities of stops, as rational numbers and as whole numbers over one denominator. -/
namespace KxB
open Kxd7 KxA
/-- the probability of a point -/
def pr (p : Plan) (x : Rat) (z : Nat × Nat) : Rat := (paths p z.1 z.2 : Rat) * (x ^ z.2 * (1 - x) ^ (z.1 - z.2))
theorem one_minus (x : Rat) : minus (ofInt 1) (fr x) = fr (1 - x) := by
  rw [ofInt_eq, minus_eq]
  rfl
theorem point_eq (p : Plan) (x : Rat) (z : Nat × Nat) : pointProbability p (fr x) z = fr (pr p x z) := by
  unfold pointProbability pr
  rw [ofNat_eq, one_minus, power_eq, power_eq, times_eq, times_eq]
theorem map_fr {α : Type} (f : α → Fraction) (g : α → Rat) (h : ∀ a, f a = fr (g a)) (l : List α) : l.map f = (l.map g).map fr := by
  rw [List.map_map]
  exact List.map_congr_left fun a _ => h a
theorem acceptance_eq (p : Plan) (x : Rat) : acceptance p (fr x) = fr (sum (((stops p).filter fun z => decision p z.1 z.2 == 1).map (pr p x))) := by
  unfold acceptance
  rw [map_fr _ (pr p x) (point_eq p x), total_eq]
theorem size_eq (p : Plan) (x : Rat) : expectedSize p (fr x) = fr (sum ((stops p).map fun z => (z.1 : Rat) * pr p x z)) := by
  unfold expectedSize
  rw [map_fr _ (fun z => (z.1 : Rat) * pr p x z) (fun z => by rw [point_eq, ofNat_eq, times_eq]), total_eq]
theorem stopProb_eq (p : Plan) (x : Rat) (n : Nat) : stopProbability p (fr x) n = fr (sum (((stops p).filter fun z => z.1 == n).map (pr p x))) := by
  unfold stopProbability
  rw [map_fr _ (pr p x) (point_eq p x), total_eq]
theorem pow_add (d : Rat) (a : Nat) : ∀ b : Nat, d ^ (a + b) = d ^ a * d ^ b
  | 0 => by rw [Nat.add_zero, Rat.pow_zero, Rat.mul_one]
  | b + 1 => by rw [← Nat.add_assoc, Rat.pow_succ, Rat.pow_succ, pow_add d a b, Rat.mul_assoc]
theorem pow_ne {d : Rat} (hd : d ≠ 0) : ∀ k : Nat, d ^ k ≠ 0
  | 0 => by rw [Rat.pow_zero]; decide
  | k + 1 => by
    rw [Rat.pow_succ]
    intro z
    rcases Rat.mul_eq_zero.mp z with z | z
    · exact pow_ne hd k z
    · exact hd z
theorem div_pow (a : Rat) {d : Rat} (hd : d ≠ 0) : ∀ k : Nat, (a / d) ^ k = a ^ k / d ^ k
  | 0 => by rw [Rat.pow_zero, Rat.pow_zero, Rat.pow_zero]; decide +kernel
  | k + 1 => by
    rw [Rat.pow_succ, Rat.pow_succ, Rat.pow_succ, div_pow a hd k]
    have := pow_ne hd k
    grind
/-- one term over the horizon's denominator -/
theorem term_eq {h n s : Nat} (hn : n ≤ h) (hs : s ≤ n) (c p d : Rat) (hd : d ≠ 0) : c * p ^ s * (d - p) ^ (n - s) * d ^ (h - n) / d ^ h = c * ((p / d) ^ s * (1 - p / d) ^ (n - s)) := by
  have e1 : (1 - p / d) = (d - p) / d := by grind
  have e2 : d ^ h = d ^ s * d ^ (n - s) * d ^ (h - n) := by
    rw [← pow_add, ← pow_add]
    congr 1
    omega
  rw [e1, div_pow _ hd, div_pow _ hd, e2]
  have h1 := pow_ne hd s
  have h2 := pow_ne hd (n - s)
  have h3 := pow_ne hd (h - n)
  generalize p ^ s = a at *
  generalize (d - p) ^ (n - s) = b at *
  generalize d ^ s = u at *
  generalize d ^ (n - s) = v at *
  generalize d ^ (h - n) = w at *
  grind
/-- a fold that adds is a sum -/
theorem fold_int {α : Type} (f : α → Int) : ∀ (l : List α) (a : Int), (((l.foldl (fun t z => t + f z) a : Int)) : Rat) = (a : Rat) + sum (l.map fun z => ((f z : Int) : Rat))
  | [], a => by
    show (a : Rat) = (a : Rat) + sum []
    rw [sum_nil, Rat.add_zero]
  | z :: l, a => by
    rw [List.foldl_cons, fold_int f l, List.map_cons, sum_cons, Rat.intCast_add, Rat.add_assoc]
theorem sum_div (c : Rat) (l : List Rat) : sum l / c = sum (l.map (· / c)) := by
  rw [Rat.div_def, Rat.mul_comm, ← sum_mul]
  congr 1
  refine List.map_congr_left fun a _ => ?_
  rw [Rat.div_def, Rat.mul_comm]
/-- the whole sum: stops l with weights g, each term over d ^ h -/
theorem total_over {h : Nat} {l : List (Nat × Nat)} (hl : ∀ z ∈ l, z.1 ≤ h ∧ z.2 ≤ z.1) (g : Nat × Nat → Int) (p d : Nat) (hd : d ≠ 0) :
    (((l.foldl (fun t z => t + g z * (p : Int) ^ z.2 * ((d : Int) - p) ^ (z.1 - z.2) * (d : Int) ^ (h - z.1)) 0 : Int)) : Rat) / (((d : Int) ^ h : Int) : Rat)
      = sum (l.map fun z => ((g z : Int) : Rat) * (((p : Rat) / (d : Rat)) ^ z.2 * (1 - (p : Rat) / (d : Rat)) ^ (z.1 - z.2))) := by
  rw [fold_int, Rat.intCast_zero, Rat.zero_add, sum_div, List.map_map]
  congr 1
  refine List.map_congr_left fun z hz => ?_
  have hd' : (d : Rat) ≠ 0 := fun e => hd (by exact_mod_cast e)
  have e := term_eq (hl z hz).1 (hl z hz).2 ((g z : Int) : Rat) (p : Rat) (d : Rat) hd'
  rw [← e]
  show (((_ * _ * _ * _ : Int)) : Rat) / _ = _
  rw [Rat.intCast_mul, Rat.intCast_mul, Rat.intCast_mul, Rat.intCast_pow, Rat.intCast_pow, Rat.intCast_pow, Rat.intCast_pow, Rat.intCast_sub]
  rfl
end KxB
/-! KxC: likelihood ratios in whole numbers. -/
namespace KxC
open Kxd7 KxA KxB
theorem div_lt {a b c d : Rat} (hb : 0 < b) (hd : 0 < d) : a / b < c / d ↔ a * d < c * b := by
  rw [Rat.div_lt_iff hb]
  have e : c / d * b = (c * b) / d := by
    rw [Rat.div_def, Rat.div_def]
    grind
  rw [e, Rat.lt_div_iff hd]
theorem div_le {a b c d : Rat} (hb : 0 < b) (hd : 0 < d) : a / b ≤ c / d ↔ a * d ≤ c * b := by
  rw [← Rat.not_lt, ← Rat.not_lt, div_lt hd hb]
theorem natpos {n : Nat} (h : 0 < n) : (0 : Rat) < (n : Rat) := Rat.natCast_pos.mpr h
theorem mul_pow (a b : Rat) : ∀ n : Nat, (a * b) ^ n = a ^ n * b ^ n
  | 0 => by rw [Rat.pow_zero, Rat.pow_zero, Rat.pow_zero, Rat.mul_one]
  | n + 1 => by
    rw [Rat.pow_succ, Rat.pow_succ, Rat.pow_succ, mul_pow a b n]
    grind
/-- the ratio of the two weights -/
theorem ratio_eq {p0 p1 d : Nat} (h0 : 0 < p0) (h1 : p0 < p1) (h2 : p1 < d) (n s : Nat) :
    ratio (share p0 d) (share p1 d) n s = fr (((p1 ^ s * (d - p1) ^ (n - s) : Nat) : Rat) / ((p0 ^ s * (d - p0) ^ (n - s) : Nat) : Rat)) := by
  unfold ratio
  rw [share_eq, share_eq, over_eq, one_minus, one_minus, over_eq, power_eq, power_eq, times_eq]
  congr 1
  have hd : (d : Rat) ≠ 0 := fun e => by
    have : d = 0 := Rat.natCast_eq_zero_iff.mp e
    omega
  have hp0 : (p0 : Rat) ≠ 0 := fun e => by
    have : p0 = 0 := Rat.natCast_eq_zero_iff.mp e
    omega
  have hq0 : ((d - p0 : Nat) : Rat) ≠ 0 := fun e => by
    have : d - p0 = 0 := Rat.natCast_eq_zero_iff.mp e
    omega
  have c0 : ((d - p0 : Nat) : Rat) = (d : Rat) - (p0 : Rat) := by
    have : (d : Rat) = ((d - p0 : Nat) : Rat) + (p0 : Rat) := by
      rw [← Rat.natCast_add]
      congr 1
      omega
    rw [this]
    grind
  have c1 : ((d - p1 : Nat) : Rat) = (d : Rat) - (p1 : Rat) := by
    have : (d : Rat) = ((d - p1 : Nat) : Rat) + (p1 : Rat) := by
      rw [← Rat.natCast_add]
      congr 1
      omega
    rw [this]
    grind
  have e1 : (p1 : Rat) / (d : Rat) / ((p0 : Rat) / (d : Rat)) = (p1 : Rat) / (p0 : Rat) := by grind
  have e2 : (1 - (p1 : Rat) / (d : Rat)) / (1 - (p0 : Rat) / (d : Rat)) = ((d - p1 : Nat) : Rat) / ((d - p0 : Nat) : Rat) := by
    have a1 : 1 - (p1 : Rat) / (d : Rat) = ((d - p1 : Nat) : Rat) / (d : Rat) := by
      rw [c1]
      grind
    have a0 : 1 - (p0 : Rat) / (d : Rat) = ((d - p0 : Nat) : Rat) / (d : Rat) := by
      rw [c0]
      grind
    rw [a1, a0]
    grind
  rw [e1, e2, div_pow _ hp0, div_pow _ hq0, Rat.natCast_mul, Rat.natCast_mul, Rat.natCast_pow, Rat.natCast_pow, Rat.natCast_pow, Rat.natCast_pow]
  have z0 := pow_ne hp0 s
  have z1 := pow_ne hq0 (n - s)
  generalize (p0 : Rat) ^ s = u at *
  generalize ((d - p0 : Nat) : Rat) ^ (n - s) = v at *
  generalize (p1 : Rat) ^ s = x at *
  generalize ((d - p1 : Nat) : Rat) ^ (n - s) = y at *
  grind
/-- the rule in whole numbers -/
def likeNat (p0 p1 d l ld hi hd n s : Nat) : Nat := if n = 0 then 0 else
  if hi * (p0 ^ s * (d - p0) ^ (n - s)) ≤ p1 ^ s * (d - p1) ^ (n - s) * hd then 2 else
  if p1 ^ s * (d - p1) ^ (n - s) * ld ≤ l * (p0 ^ s * (d - p0) ^ (n - s)) then 1 else 0
theorem rule_eq {p0 p1 d l ld hi hd : Nat} (h0 : 0 < p0) (h1 : p0 < p1) (h2 : p1 < d) (h3 : 0 < ld) (h4 : 0 < hd) (n s : Nat) :
    likelihoodRule (share p0 d) (share p1 d) (share l ld) (share hi hd) n s = likeNat p0 p1 d l ld hi hd n s := by
  unfold likelihoodRule likeNat
  rw [ratio_eq h0 h1 h2, share_eq, share_eq, isAtMost_eq, isAtMost_eq]
  have w0 : 0 < p0 ^ s * (d - p0) ^ (n - s) := Nat.mul_pos (Nat.pow_pos h0) (Nat.pow_pos (by omega))
  have e1 : ((hi : Rat) / (hd : Rat) ≤ ((p1 ^ s * (d - p1) ^ (n - s) : Nat) : Rat) / ((p0 ^ s * (d - p0) ^ (n - s) : Nat) : Rat)) ↔ hi * (p0 ^ s * (d - p0) ^ (n - s)) ≤ p1 ^ s * (d - p1) ^ (n - s) * hd := by
    rw [div_le (natpos h4) (natpos w0), ← Rat.natCast_mul, ← Rat.natCast_mul, Rat.natCast_le_natCast]
  have e2 : (((p1 ^ s * (d - p1) ^ (n - s) : Nat) : Rat) / ((p0 ^ s * (d - p0) ^ (n - s) : Nat) : Rat) ≤ (l : Rat) / (ld : Rat)) ↔ p1 ^ s * (d - p1) ^ (n - s) * ld ≤ l * (p0 ^ s * (d - p0) ^ (n - s)) := by
    rw [div_le (natpos w0) (natpos h3), ← Rat.natCast_mul, ← Rat.natCast_mul, Rat.natCast_le_natCast]
  simp only [decide_eq_true_eq, e1, e2]
end KxC
set_option Elab.async false
set_option linter.all false
set_option maxRecDepth 100000
set_option maxHeartbeats 2000000
/-! W0: words used by all parts. -/
namespace St
open PySem PySem.Spec PyProof.Rows L2
/-- the i-th statement of the program's top -/
def top (i : Nat) : Stmt := PySem.Challenge.pw_stopearly_s01_answers.main.body.getD i (.Pass ⟨0, 0, 0, 0⟩)
/-- a def of the top, found, with its parameters -/
structure DefB (K : PySem.W.Frag) (mg : Str → Option Value) (x : Str) (st : Stmt) (ps : List Str) : Prop where
  ex : ∃ (f : Addr) (fd : FuncData), C8.Def K mg x st f fd ∧ Binds K fd ps []
/-- a def that may be called by its name -/
abbrev Cal0 (P : Program) (w : World) (K : PySem.W.Frag) (mg : Str → Option Value) (base : Heap) (k : Nat) (x : Str) (sp : Sp) : Prop := C8.Cal P w K mg base k x sp []
/-- a constant of the top -/
abbrev Con0 (mg : Str → Option Value) (x : Str) (v : V) : Prop := ∃ u, mg x = some u ∧ RelV v u
/-- a chain's answer -/
theorem and_bl {A B T : Prop} [Decidable A] [Decidable B] (q : Bool → Prop) (k : q (decide (A ∧ B))) (hT : q (decide B) → T) : if decide A = true then T else q false := by
  by_cases h : A
  · rw [decide_eq_true h, if_pos rfl]
    have e : decide (A ∧ B) = decide B := decide_eq_decide.mpr ⟨fun z => z.2, fun z => ⟨h, z⟩⟩
    rw [e] at k
    exact hT k
  · rw [decide_eq_false h, if_neg Bool.false_ne_true]
    have e : decide (A ∧ B) = false := decide_eq_false fun z => h z.1
    rw [e] at k
    exact k
/-- the names that the parts ask of the top: constants, and the built-in names that nothing hides -/
structure Glb (mg : Str → Option Value) : Prop where
  MOST_HORIZON : Con0 mg "MOST_HORIZON" (.int 20)
  MOST_DIVISOR : Con0 mg "MOST_DIVISOR" (.int 1000)
  MOST_BOUND : Con0 mg "MOST_BOUND" (.int 1000000)
  MOST_COST : Con0 mg "MOST_COST" (.int 1000)
  MOST_LOSS : Con0 mg "MOST_LOSS" (.int 100000)
  LEAST_STAGES : Con0 mg "LEAST_STAGES" (.int 2)
  MOST_STAGES : Con0 mg "MOST_STAGES" (.int 8)
  MOST_TRIALS : Con0 mg "MOST_TRIALS" (.int 7)
  MOST_WEIGHT : Con0 mg "MOST_WEIGHT" (.int 100)
  NO_SUCH : Con0 mg "NO_SUCH" (.int (-33))
  GO_ON : Con0 mg "GO_ON" (.int 0)
  ACCEPT : Con0 mg "ACCEPT" (.int 1)
  REJECT : Con0 mg "REJECT" (.int 2)
  CREATE : Con0 mg "CREATE" (.int 0)
  NOT_USABLE : Con0 mg "NOT_USABLE" (.int (-11))
  NO_POINT : Con0 mg "NO_POINT" (.int (-2))
  OUTSIDE_RANGE : Con0 mg "OUTSIDE_RANGE" (.int (-22))
  len : mg "len" = none
  range : mg "range" = none
  enumerate : mg "enumerate" = none
  list : mg "list" = none
  int : mg "int" = none
  all : mg "all" = none
  max : mg "max" = none
  sum : mg "sum" = none
end St
/-! WN: the program's defs by their places; written by tools/names.sh. -/
namespace St
open PySem PySem.Spec PyProof.Rows L2
abbrev s_is_within : Stmt := top 10
abbrev s_is_horizon : Stmt := top 11
abbrev s_is_divisor : Stmt := top 12
abbrev s_is_probability : Stmt := top 13
abbrev s_are_two_probabilities : Stmt := top 14
abbrev s_is_bound : Stmt := top 15
abbrev s_are_two_bounds : Stmt := top 16
abbrev s_are_two_stages : Stmt := top 17
abbrev s_is_problem : Stmt := top 18
abbrev s_is_stage_size : Stmt := top 19
abbrev s_is_trial_count : Stmt := top 20
abbrev s_are_weights : Stmt := top 21
abbrev s_greatest_common_divisor : Stmt := top 23
abbrev s_lowest_terms : Stmt := top 24
abbrev s_powers : Stmt := top 25
abbrev s_rows_by : Stmt := top 30
abbrev s_last_decision : Stmt := top 31
abbrev s_single_rows : Stmt := top 32
abbrev s_new_rows : Stmt := top 33
abbrev s_two_stage_rows : Stmt := top 34
abbrev s_likelihood_rows : Stmt := top 35
abbrev s_curtailed_decision : Stmt := top 36
abbrev s_curtailed_rows : Stmt := top 37
abbrev s_next_counts : Stmt := top 39
abbrev s_counts_behind : Stmt := top 40
abbrev s_path_counts : Stmt := top 41
abbrev s_stops : Stmt := top 42
abbrev s_expected_total : Stmt := top 43
abbrev s_expected_value : Stmt := top 44
abbrev s_decision_chance : Stmt := top 45
abbrev s_expected_size : Stmt := top 46
abbrev s_stop_chance : Stmt := top 47
abbrev s_unbiased_estimate : Stmt := top 48
abbrev s_Problem___init__ : Stmt := inClass (top 50) 0
abbrev s_joint_weights : Stmt := top 51
abbrev s_stopping : Stmt := top 52
abbrev s_best_row : Stmt := top 53
abbrev s_best_rows : Stmt := top 54
abbrev s_optimal_rows : Stmt := top 55
abbrev s_cost_scale : Stmt := top 56
abbrev s_least_cost : Stmt := top 57
abbrev s_plan_cost : Stmt := top 58
abbrev s_next_weights : Stmt := top 60
abbrev s_success_weights : Stmt := top 61
abbrev s_rejecting : Stmt := top 62
abbrev s_Search___init__ : Stmt := inClass (top 63) 0
abbrev s_Search_keeps_bounds : Stmt := inClass (top 63) 1
abbrev s_Search_first_kept : Stmt := inClass (top 63) 2
abbrev s_Search_size : Stmt := inClass (top 63) 3
abbrev s_first_stages : Stmt := top 64
abbrev s_best_two_stage : Stmt := top 65
abbrev s_histories : Stmt := top 67
abbrev s_rests : Stmt := top 68
abbrev s_Treatments___init__ : Stmt := inClass (top 69) 0
abbrev s_Treatments_next_values : Stmt := inClass (top 69) 1
abbrev s_first_values : Stmt := top 70
abbrev s_successes : Stmt := top 71
abbrev s_Instance___init__ : Stmt := inClass (top 78) 0
abbrev s_Instance_horizon : Stmt := inClass (top 78) 1
abbrev s_Instance_has_point : Stmt := inClass (top 78) 2
abbrev s_Instance_replace_plan : Stmt := inClass (top 78) 3
abbrev s_answer_create : Stmt := top 79
abbrev s_answer_set_decision : Stmt := top 80
abbrev s_answer_single : Stmt := top 81
abbrev s_answer_likelihood : Stmt := top 82
abbrev s_answer_two_stage : Stmt := top 83
abbrev s_answer_curtail : Stmt := top 84
abbrev s_answer_optimal : Stmt := top 85
abbrev s_answer_decision : Stmt := top 86
abbrev s_answer_paths : Stmt := top 87
abbrev s_answer_stop_count : Stmt := top 88
abbrev s_answer_acceptance : Stmt := top 89
abbrev s_answer_expected_size : Stmt := top 90
abbrev s_answer_stop_probability : Stmt := top 91
abbrev s_answer_errors : Stmt := top 92
abbrev s_answer_plan_cost : Stmt := top 93
abbrev s_answer_least_cost : Stmt := top 94
abbrev s_answer_unbiased : Stmt := top 95
abbrev s_answer_best_two_stage : Stmt := top 96
abbrev s_answer_successes : Stmt := top 97
abbrev s_answer_row : Stmt := top 98
abbrev s_answer_summary : Stmt := top 99
abbrev s_answers : Stmt := top 101
end St
set_option Elab.async false
set_option linter.all false
set_option maxRecDepth 100000
set_option maxHeartbeats 2000000
/-! W1: a def within a def, handed on to another def that calls it; the captured cells are known while it runs. -/
namespace St
open PySem PySem.Spec PyProof.Rows L2 NdefX LamX
/-- the cell at c is the object o, which holds v -/
def CellF (c : Addr) (o : Obj) (v : V) : HO := .frz o (.ext fun h => ∃ u, L2.RelV v u ∧ h.IsCell c (some u))
def over (L H : Hp) : Hp := fun b => match L b with
  | some o => some o
  | none => H b
def under (L H : Hp) : Hp := fun b => match L b with
  | some _ => none
  | none => H b
theorem over_some {L H : Hp} {b : Addr} {o : HO} (e : L b = some o) : over L H b = some o := by
  unfold over
  rw [e]
theorem over_none {L H : Hp} {b : Addr} (e : L b = none) : over L H b = H b := by
  unfold over
  rw [e]
theorem under_some {L H : Hp} {b : Addr} {o : HO} (e : L b = some o) : under L H b = none := by
  unfold under
  rw [e]
theorem under_none {L H : Hp} {b : Addr} (e : L b = none) : under L H b = H b := by
  unfold under
  rw [e]
theorem over_under {L H : Hp} (k : ∀ b o, L b = some o → H b = some o) : over L (under L H) = H := by
  funext b
  cases e : L b with
  | none => rw [over_none e, under_none e]
  | some o => rw [over_some e, k b o e]
theorem under_over {L H : Hp} (k : ∀ b o, L b = some o → H b = none) : under L (over L H) = H := by
  funext b
  cases e : L b with
  | none => rw [under_none e, over_none e]
  | some o => rw [under_some e, k b o e]
/-- L: the cells of the captured names fr, which hold wv -/
structure CellsT (cl : List (Str × Addr)) (fr : List Str) (wv : List V) (L : Hp) : Prop where
  len : wv.length = fr.length
  form : ∀ b o, L b = some o → ∃ ob v x, o = CellF b ob v ∧ ob.data = .cell x
  has : ∀ (i : Nat) (y : Str), fr[i]? = some y → ∃ c ob v, wv[i]? = some v ∧ cl.lookup y = some c ∧ L c = some (CellF c ob v)
  all : ∀ y c, cl.lookup y = some c → ∃ o, L c = some o
  inj : ∀ x y c, cl.lookup x = some c → cl.lookup y = some c → x = y
section
variable {P : Program} {w : World} {K : PySem.W.Frag} {mg : Str → Option Value} {base : Heap} {cl : List (Str × Addr)} {fr : List Str} {wv : List V} {L H : Hp} {A : Around} {outer : List Env} {s : Shared}
theorem cellsAt_of (C : CellsT cl fr wv L) (k : ∀ b o, L b = some o → H b = some o) {h : Heap} (ok : HOk P w H h) : CellsAt cl fr (wv.map some) h (under L H) := by
  refine ⟨by rw [List.length_map]; exact C.len, fun y c e => ?_, C.inj, fun i y e => ?_⟩
  · obtain ⟨o, ho⟩ := C.all y c e
    refine ⟨under_some ho, ?_⟩
    obtain ⟨ob, v, x, eo, hd⟩ := C.form c o ho
    have z := ok c o (k c o ho)
    subst eo
    exact ⟨x, ob, z.1, hd⟩
  · obtain ⟨c, ob, v, hv, hc, hL⟩ := C.has i y e
    refine ⟨c, hc, fun v' ev => ?_⟩
    rw [List.getElem?_map, hv] at ev
    have e2 : v = v' := Option.some.inj (Option.some.inj ev)
    subst e2
    have z := ok c _ (k c _ hL)
    exact z.2.1
theorem under_own (C : CellsT cl fr wv L) (k : ∀ b o, L b = some o → H b = some o) {c a : Addr} (e : H c = some (.own a)) : under L H c = some (.own a) := by
  cases q : L c with
  | none => rw [under_none q]; exact e
  | some o =>
    obtain ⟨ob, v, x, eo, hd⟩ := C.form c o q
    have := k c o q
    rw [e, eo] at this
    cases this
theorem under_tup (C : CellsT cl fr wv L) (k : ∀ b o, L b = some o → H b = some o) {c : Addr} {xs : List V} (e : H c = some (.tup xs)) : under L H c = some (.tup xs) := by
  cases q : L c with
  | none => rw [under_none q]; exact e
  | some o =>
    obtain ⟨ob, v, x, eo, hd⟩ := C.form c o q
    have := k c o q
    rw [e, eo] at this
    cases this
theorem hok_under (C : CellsT cl fr wv L) (k : ∀ b o, L b = some o → H b = some o) {h : Heap} (ok : HOk P w H h) : HOk P w (under L H) h := fun b o e => by
  cases q : L b with
  | some o' => rw [under_some q] at e; cases e
  | none =>
    rw [under_none q] at e
    exact (ok b o e).stay (fun _ _ _ z => z) (fun c z => under_own C k z) fun c xs z => under_tup C k z
theorem env0_under (C : CellsT cl fr wv L) (k : ∀ b o, L b = some o → H b = some o) (e : Env0 P w K mg base A outer s H) : Env0 P w K mg base A outer s (under L H) := by
  have nn : ∀ b, H b = none → under L H b = none := fun b z => by
    cases q : L b with
    | some o => exact under_some q
    | none => rw [under_none q]; exact z
  exact ⟨e.frames, e.mod, fun b o q => ⟨(e.bs b o q).1, nn b (e.bs b o q).2⟩, e.bsz, e.funs, fun b q => nn b (e.frf b q), hok_under C k e.hok, e.bare⟩
/-- behind the nested def's run: the cells are put back -/
theorem ce_over {Q : VK} {u : Value} {s' : Shared} (C : CellsT cl fr wv L) (k : ∀ b o, L b = some o → H b = some o) (e0 : Env0 P w K mg base A outer s H) (h : CE outer P w (under L H) s (fun v H' => Q v (over L H')) u s') : CE outer P w H s Q u s' := by
  obtain ⟨v, H', os, bare, un, hok, r, q⟩ := h
  have cell : ∀ b o, L b = some o → ∃ ob v x, o = CellF b ob v ∧ ob.data = .cell x ∧ s.heap.get? b = some ob ∧ s'.heap.get? b = some ob ∧ H' b = none := fun b o e => by
    obtain ⟨ob, v, x, eo, hd⟩ := C.form b o e
    have z := e0.hok b o (k b o e)
    rw [eo] at z
    have nf : b ∉ frs outer := fun z2 => by
      have := e0.frf b z2
      rw [k b o e] at this
      cases this
    exact ⟨ob, v, x, eo, hd, z.1, un.keep b ob z.1 (under_some e) nf (by simp), un.free b ob z.1 (under_some e) (by simp)⟩
  have nn : ∀ b, H b = none → L b = none := fun b z => by
    cases q : L b with
    | none => rfl
    | some o => rw [k b o q] at z; cases z
  have un0 : ∀ b, H b = none → under L H b = none := fun b z => by rw [under_none (nn b z)]; exact z
  refine ⟨v, over L H', os, bare, ⟨fun b o e n => un.keep b o e (un0 b n), fun b o e n => un.slot b o e (un0 b n), fun b o e n hx => ?_, un.there, fun b xs e => ?_, fun b o x e => ?_, fun b ps e => ?_⟩, fun b o e => ?_, r, q⟩
  · rw [over_none (nn b n)]
    exact un.free b o e (un0 b n) hx
  · have z := under_tup C k e
    have lb : L b = none := by
      cases q : L b with
      | none => rfl
      | some o => rw [under_some q] at z; cases z
    rw [over_none lb]
    exact un.tups b xs z
  · cases lb : L b with
    | some o' =>
      rw [over_some lb]
      have := k b o' lb
      rw [e] at this
      exact this.symm
    | none =>
      rw [over_none lb]
      exact un.frzs b o x (by rw [under_none lb]; exact e)
  · cases lb : L b with
    | some o' =>
      obtain ⟨ob, v, x, eo, _⟩ := C.form b o' lb
      have := k b o' lb
      rw [e, eo] at this
      cases this
    | none =>
      rw [over_none lb]
      exact un.tbls b ps (by rw [under_none lb]; exact e)
  · cases lb : L b with
    | some o' =>
      rw [over_some lb] at e
      cases e
      obtain ⟨ob, v, x, eo, hd, h1, h2, _⟩ := cell b _ lb
      have z := e0.hok b _ (k b _ lb)
      rw [eo] at z ⊢
      obtain ⟨_, ⟨u, ru, oc, hoc, hcd⟩, _, st⟩ := z
      rw [h1] at hoc
      cases hoc
      exact ⟨h2, ⟨u, ru, ob, h2, hcd⟩, ⟨ob, h2⟩, st⟩
    | none =>
      rw [over_none lb] at e
      refine (hok b o e).stay (fun _ _ _ z => z) (fun c z => ?_) fun c xs z => ?_
      · cases lc : L c with
        | none => rw [over_none lc]; exact z
        | some o' =>
          obtain ⟨_, _, _, _, _, _, _, hn⟩ := cell c _ lc
          rw [z] at hn
          cases hn
      · cases lc : L c with
        | none => rw [over_none lc]; exact z
        | some o' =>
          obtain ⟨_, _, _, _, _, _, _, hn⟩ := cell c _ lc
          rw [z] at hn
          cases hn
end
/-- a function that may be called wherever G holds, by its promise spc; it lets nothing out -/
structure CloOk (P : Program) (w : World) (K : PySem.W.Frag) (mg : Str → Option Value) (base : Heap) (k : Nat) (f : Addr) (G : Hp → Prop) (spc : Sp) : Prop where
  fn : ∀ (H : Hp) (h : Heap), HOk P w H h → G H → PySem.W.FnAt f h
  run : ∀ (A : Around) (outer : List Env) (s : Shared) (H : Hp) (us : List Value) (vs : List V) (Q : VK), Room k A → Env0 P w K mg base A outer s H → G H → Vals vs us → spc vs H Q (fun _ _ _ => False) →
    codeAny (model P w) A (.call (.ref f) ⟨us, []⟩) (CR C8.CX0 outer P w H s Q (fun _ _ _ => False)) s
theorem CloOk.mono {P : Program} {w : World} {K : PySem.W.Frag} {mg : Str → Option Value} {base : Heap} {j k : Nat} {f : Addr} {G : Hp → Prop} {spc : Sp} (o : CloOk P w K mg base j f G spc) (h : j ≤ k) : CloOk P w K mg base k f G spc :=
  ⟨o.fn, fun A outer s H us vs Q hr => o.run A outer s H us vs Q (hr.mono h)⟩
/-- what must be known of the heap to call the nested def -/
def Kept (f : Addr) (F : NF) (L H : Hp) : Prop := H f = some (FnO f F) ∧ H F.c = some (CodeO F.c F.qual) ∧ ∀ b o, L b = some o → H b = some o
theorem clo_of {P : Program} {w : World} {K : PySem.W.Frag} {mg : Str → Option Value} {base : Heap} {k : Nat} {f : Addr} {F : NF} {ps fr : List Str} {sp : List (Option V) → Sp} {wv : List V} {L : Hp} {G : Hp → Prop} {spc : Sp}
    (Fn : NOk P w K mg base C8.CX0 k f F ps fr sp) (C : CellsT F.cl fr wv L) (hG : ∀ H, G H → Kept f F L H)
    (hf : ∀ b o, L b = some o → b ≠ f ∧ b ≠ F.c)
    (hs : ∀ vs H Q, G H → spc vs H Q (fun _ _ _ => False) → sp (wv.map some) vs (under L H) (fun v H' => Q v (over L H')) (fun _ _ _ => False)) : CloOk P w K mg base k f G spc := by
  refine ⟨fun H h ok g => ?_, fun A outer s H us vs Q hr e0 g r q => ?_⟩
  · obtain ⟨od, sl, doc, pm, ctv, ho⟩ := fnO_at ok (hG H g).1
    exact ⟨_, od, _, sl, ho⟩
  · obtain ⟨h1, h2, h3⟩ := hG H g
    have nl : ∀ a, (∀ b o, L b = some o → b ≠ a) → L a = none := fun a z => by
      cases q : L a with
      | none => rfl
      | some o => exact absurd rfl (z a o q)
    refine codeAny_mono (Fn.run A outer s (under L H) us vs (wv.map some) _ _ hr (env0_under C h3 e0) ?_ ?_ (cellsAt_of C h3 e0.hok) r (hs vs H Q g q)) fun r' s' hq => ?_
    · rw [under_none (nl f fun b o e => (hf b o e).1)]
      exact h1
    · rw [under_none (nl F.c fun b o e => (hf b o e).2)]
      exact h2
    · cases r' with
      | error e => exact hq
      | ok fl =>
        cases fl with
        | ret u => exact ce_over C h3 e0 hq
        | next => exact hq
        | brk => exact hq
        | cont => exact hq
/-- a call of a local name that holds such a function -/
def tCloC (P : Program) (w : World) (K : PySem.W.Frag) (mg : Str → Option Value) (base : Heap) (k i : Nat) (t : TA) : TE := fun σ H Q => ∃ (f : Addr) (G : Hp → Prop) (spc : Sp), σ[i]? = some (some (.ref f)) ∧ CloOk P w K mg base k f G spc ∧ G H ∧
  t σ H fun vs H1 => G H1 ∧ spc vs H1 Q (fun _ _ _ => False)
theorem pe_clo {X : Cx} {P : Program} {w : World} {K : PySem.W.Frag} {mg : Str → Option Value} {base : Heap} (eP : X.prog = P) (ew : X.w = w) (eK : X.K = K) (em : X.mg = mg) (eb : X.base = base) {i j k : Nat} {x : Str} {t : TA} {e : Expr} {es : List Expr} {p pos : Pos} (hr : Room j X.A) (hk : k ≤ j) (hN : X.N[i]? = some x) (hv : Vis X.env.scope x) (ha : PA X (e :: es) t)
    (hd : (x == ("__debug__" : Str)) = false := by decide) (hcd : (x == ("__classdict__" : Str)) = false := by decide)
    (he : starEach (e :: es) X.env = (false, eval e X.env) :: starEach es X.env := by rfl) (hpl : (backTo pos (starEach es X.env)).any (·.1) = false := by rfl) :
    PE X (.Call (.Name x p) (e :: es) [] pos) (tCloC P w K mg base k i t) := by
  subst eP ew eK em eb
  refine ⟨fun pins s σ H Q I h => ?_⟩
  obtain ⟨f, G, spc, hs, ok, hG, ht⟩ := h
  refine wpAny_Call_Name_kw (thn ((pe_var (pos := p) hN hv hd hcd).run pins s σ H (fun v H1 => v = .ref f ∧ H1 = H) I ⟨.ref f, hs, rfl, rfl⟩) fun u s1 ⟨v, H1, I1, r1, q1⟩ => ?_)
  obtain ⟨ev, eH⟩ := q1
  subst ev
  rw [eH] at I1
  obtain rfl : u = Value.ref f := r1
  refine PySem.W.callWith_F (first := []) (ok.fn H s1.heap I1.hok hG) (thn (ha.run pos pins s1 σ H _ I1 ht) fun us s2 ⟨vs, H2, I2, r, g2, q⟩ => ⟨ok.fn H2 s2.heap I2.hok g2, ?_⟩) he hpl
  show wpAny _ _ (call (.ref f) us) _ _ _
  refine wpAny_call (codeAny_mono (ok.run X.A X.stack s2 H2 us vs Q (hr.mono hk) I2.env0 g2 r q) fun r' s' hq => ?_)
  cases r' with
  | error e => exact hq.elim
  | ok fl =>
    cases fl with
    | ret u => exact I2.after hq
    | next => exact False.elim hq
    | brk => exact False.elim hq
    | cont => exact False.elim hq
/-- f(.., g, ..), g a nested def of this frame: the callee's promise is asked over the heap with the captured cells known -/
def tCallW (cl : List (Str × Addr)) (fr : List Str) (js : List Nat) (sp : Sp) (t : TA) : TE := fun σ H Q => t σ H fun vs H1 => ∃ wv : List V, js.map (slotAt σ) = wv.map some ∧
  ∀ L : Hp, CellsT cl fr wv L → (∀ b o, L b = some o → H1 b = none) → sp vs (over L H1) (fun v H' => Q v (under L H')) (fun _ _ _ => False)
open Classical in
theorem cells_hp {cl : List (Str × Addr)} {fr : List Str} {wv : List V} {h : Heap} {H : Hp} (C : CellsAt cl fr (wv.map some) h H) (hall : ∀ y c, cl.lookup y = some c → y ∈ fr) (hnd : fr.Nodup) :
    ∃ L : Hp, CellsT cl fr wv L ∧ (∀ b o, L b = some o → H b = none ∧ ∃ y, y ∈ fr ∧ cl.lookup y = some b) ∧ ∀ b o, L b = some o → ∃ ob v x, o = CellF b ob v ∧ ob.data = .cell x ∧ h.get? b = some ob ∧ ∃ u, L2.RelV v u ∧ h.IsCell b (some u) := by
  have hlen : wv.length = fr.length := by
    have := C.len
    rw [List.length_map] at this
    exact this
  let R (b : Addr) (i : Nat) (y : Str) (ob : Obj) (v : V) : Prop := fr[i]? = some y ∧ cl.lookup y = some b ∧ wv[i]? = some v ∧ h.get? b = some ob
  have uniq : ∀ {b i y ob v i' y' ob' v'}, R b i y ob v → R b i' y' ob' v' → ob = ob' ∧ v = v' := fun {b i y ob v i' y' ob' v'} r r' => by
    obtain ⟨a1, a2, a3, a4⟩ := r
    obtain ⟨b1, b2, b3, b4⟩ := r'
    have ey := C.inj y y' b a2 b2
    subst ey
    have ei := nodup_ix hnd a1 b1
    subst ei
    rw [a3] at b3
    rw [a4] at b4
    exact ⟨Option.some.inj b4, Option.some.inj b3⟩
  have key : ∀ b, (∃ i y ob v, R b i y ob v) → ∃ o, ∀ i y ob v, R b i y ob v → o = CellF b ob v := fun b ⟨i, y, ob, v, r⟩ => ⟨CellF b ob v, fun i' y' ob' v' r' => by
    obtain ⟨e1, e2⟩ := uniq r r'
    rw [e1, e2]⟩
  let L : Hp := fun b => if q : ∃ i y ob v, R b i y ob v then some (choose (key b q)) else none
  have Lat : ∀ {b i y ob v}, R b i y ob v → L b = some (CellF b ob v) := fun {b i y ob v} r => by
    have q : ∃ i y ob v, R b i y ob v := ⟨i, y, ob, v, r⟩
    show (if q : ∃ i y ob v, R b i y ob v then some (choose (key b q)) else none) = _
    rw [dif_pos q]
    exact congrArg some (choose_spec (key b q) i y ob v r)
  have of_L : ∀ {b o}, L b = some o → ∃ i y ob v, R b i y ob v ∧ o = CellF b ob v := fun {b o} e => by
    by_cases q : ∃ i y ob v, R b i y ob v
    · obtain ⟨i, y, ob, v, r⟩ := id q
      rw [Lat r] at e
      exact ⟨i, y, ob, v, r, (Option.some.inj e).symm⟩
    · have e' : (if q : ∃ i y ob v, R b i y ob v then some (choose (key b q)) else none) = some o := e
      rw [dif_neg q] at e'
      cases e'
  have row : ∀ i y, fr[i]? = some y → ∃ c ob v, R c i y ob v := fun i y e => by
    obtain ⟨c, hc, hv⟩ := C.has i y e
    have hi : i < wv.length := by
      rw [hlen]
      exact (List.getElem?_eq_some_iff.mp e).1
    obtain ⟨_, v, ob, hob, _⟩ := C.all y c hc
    exact ⟨c, ob, wv[i], e, hc, List.getElem?_eq_getElem hi, hob⟩
  refine ⟨L, ⟨hlen, fun b o e => ?_, fun i y e => ?_, fun y c e => ?_, C.inj⟩, fun b o e => ?_, fun b o e => ?_⟩
  · obtain ⟨i, y, ob, v, r, eo⟩ := of_L e
    obtain ⟨_, x, ob', hob', hd⟩ := C.all y b r.2.1
    rw [r.2.2.2] at hob'
    cases hob'
    exact ⟨ob, v, x, eo, hd⟩
  · obtain ⟨c, ob, v, r⟩ := row i y e
    exact ⟨c, ob, v, r.2.2.1, r.2.1, Lat r⟩
  · obtain ⟨i, hi⟩ := List.mem_iff_getElem?.mp (hall y c e)
    obtain ⟨c', ob, v, r⟩ := row i y hi
    have ec : c' = c := Option.some.inj (r.2.1.symm.trans e)
    subst ec
    exact ⟨_, Lat r⟩
  · obtain ⟨i, y, ob, v, r, eo⟩ := of_L e
    exact ⟨(C.all y b r.2.1).1, y, List.mem_of_getElem? r.1, r.2.1⟩
  · obtain ⟨i, y, ob, v, r, eo⟩ := of_L e
    obtain ⟨_, x, ob', hob', hd⟩ := C.all y b r.2.1
    rw [r.2.2.2] at hob'
    cases hob'
    obtain ⟨c, hc, hv⟩ := C.has i y r.1
    have ec : c = b := Option.some.inj (hc.symm.trans r.2.1)
    subst ec
    exact ⟨ob, v, x, eo, hd, r.2.2.2, hv v (by rw [List.getElem?_map, r.2.2.1]; rfl)⟩
section
variable {P : Program} {w : World} {K : PySem.W.Frag} {mg : Str → Option Value} {base : Heap} {cl : List (Str × Addr)} {fr : List Str} {wv : List V} {L H : Hp} {A : Around} {outer : List Env} {s : Shared}
theorem hok_over {h : Heap} (ok : HOk P w H h) (dis : ∀ b o, L b = some o → H b = none) (at_ : ∀ b o, L b = some o → ∃ ob v x, o = CellF b ob v ∧ ob.data = .cell x ∧ h.get? b = some ob ∧ ∃ u, L2.RelV v u ∧ h.IsCell b (some u)) : HOk P w (over L H) h := fun b o e => by
  have up : ∀ c o', H c = some o' → over L H c = some o' := fun c o' z => by
    cases lc : L c with
    | none => rw [over_none lc]; exact z
    | some q => rw [dis c q lc] at z; cases z
  cases lb : L b with
  | some o' =>
    rw [over_some lb] at e
    cases e
    obtain ⟨ob, v, x, eo, hd, hg, u, ru, hc⟩ := at_ b _ lb
    rw [eo]
    refine ⟨hg, ⟨u, ru, hc⟩, ⟨ob, hg⟩, fun h1 h2 ⟨u, ru, o1, e1, d1⟩ st => ⟨u, ru, o1, st _ e1, d1⟩⟩
  | none =>
    rw [over_none lb] at e
    exact (ok b o e).stay (fun _ _ _ z => z) (fun c z => up c _ z) fun c xs z => up c _ z
/-- behind the callee: the cells are ours again -/
theorem ce_under {Q : VK} {u : Value} {s' : Shared} (dis : ∀ b o, L b = some o → H b = none) (at_ : ∀ b o, L b = some o → ∃ ob v x, o = CellF b ob v ∧ ob.data = .cell x ∧ s.heap.get? b = some ob ∧ ∃ u, L2.RelV v u ∧ s.heap.IsCell b (some u))
    (h : CE outer P w (over L H) s (fun v H' => Q v (under L H')) u s') : CE outer P w H s Q u s' := by
  obtain ⟨v, H', os, bare, un, hok, r, q⟩ := h
  have cell : ∀ b o, L b = some o → ∃ ob v, o = CellF b ob v ∧ s.heap.get? b = some ob ∧ s'.heap.get? b = some ob ∧ H' b = some (CellF b ob v) := fun b o e => by
    obtain ⟨ob, v, x, eo, hd, hg, _⟩ := at_ b o e
    have z : over L H b = some (.frz ob (.ext fun h => ∃ u, L2.RelV v u ∧ h.IsCell b (some u))) := by
      rw [over_some e, eo]
      rfl
    have z2 := un.frzs b ob _ z
    exact ⟨ob, v, eo, hg, (hok b _ z2).1, z2⟩
  have up : ∀ c o', H c = some o' → L c = none := fun c o' z => by
    cases lc : L c with
    | none => rfl
    | some q => rw [dis c q lc] at z; cases z
  have fin : ∀ c o', H' c = some o' → (∀ ob v, o' ≠ CellF c ob v) → under L H' c = some o' := fun c o' z ne => by
    cases lc : L c with
    | none => rw [under_none lc]; exact z
    | some q =>
      obtain ⟨ob, v, _, _, _, h2⟩ := cell c q lc
      rw [z] at h2
      exact absurd (Option.some.inj h2) (ne ob v)
  refine ⟨v, under L H', os, bare, ⟨fun b o e n hf hx => ?_, fun b o e n hf hx => ?_, fun b o e n hx => ?_, un.there, fun b xs e => ?_, fun b o x e => ?_, fun b ps e => ?_⟩, fun b o e => ?_, r, q⟩
  · cases lb : L b with
    | none => exact un.keep b o e (by rw [over_none lb]; exact n) hf hx
    | some o' =>
      obtain ⟨ob, v, _, h1, h2, _⟩ := cell b o' lb
      rw [e] at h1
      cases h1
      exact h2
  · cases lb : L b with
    | none => exact un.slot b o e (by rw [over_none lb]; exact n) hf hx
    | some o' =>
      obtain ⟨ob, v, _, h1, h2, _⟩ := cell b o' lb
      rw [e] at h1
      cases h1
      exact ⟨o.slots, h2⟩
  · cases lb : L b with
    | none => rw [under_none lb]; exact un.free b o e (by rw [over_none lb]; exact n) hx
    | some o' => exact under_some lb
  · rw [under_none (up b _ e)]
    exact un.tups b xs (by rw [over_none (up b _ e)]; exact e)
  · rw [under_none (up b _ e)]
    exact un.frzs b o x (by rw [over_none (up b _ e)]; exact e)
  · rw [under_none (up b _ e)]
    exact un.tbls b ps (by rw [over_none (up b _ e)]; exact e)
  · cases lb : L b with
    | some o' => rw [under_some lb] at e; cases e
    | none =>
      rw [under_none lb] at e
      exact (hok b o e).stay (fun _ _ _ z => z) (fun c z => fin c _ z fun _ _ y => by unfold CellF at y; cases y) fun c xs z => fin c _ z fun _ _ y => by unfold CellF at y; cases y
end
theorem pe_cw {X : Cx} {j k : Nat} {x : Str} {sp : Sp} {t : TA} {e : Expr} {es : List Expr} {p pos : Pos} {cl : List (Str × Addr)} {fr : List Str} {js : List Nat} (c : C8.Cal X.prog X.w X.K X.mg X.base k x sp []) (hr : Room j X.A) (hk : k ≤ j) (hg : Gl X x)
    (cp : X.Ok → Caps X cl fr js) (hfn : ∀ y ∈ fr, X.fn y = true) (hall : ∀ y c, cl.lookup y = some c → y ∈ fr) (hnd : fr.Nodup) (ha : PA X (e :: es) t)
    (hdb : (x == ("__debug__" : Str)) = false := by decide) (he : starEach (e :: es) X.env = (false, eval e X.env) :: starEach es X.env := by rfl) (hpl : (backTo pos (starEach es X.env)).any (·.1) = false := by rfl) :
    PE X (.Call (.Name x p) (e :: es) [] pos) (tCallW cl fr js sp t) := by
  obtain ⟨f, fd, ps, ds, F, hm, kp, b, d⟩ := c.ex
  refine ⟨fun pins s σ H Q I h => ?_⟩
  refine wpAny_Call_Name_kw (ld_glob I hg hm ?_ hdb)
  refine PySem.W.callWith_K (h₀ := X.base) I.ok.mod.kin kp (thn (ha.run pos pins s σ H _ I h) fun us s1 ⟨vs, H1, I1, r, wv, hw, q⟩ => ⟨I1.kIn, ?_⟩) he hpl
  have CA := cells_of I1 (cp I1.ok)
  rw [hw] at CA
  obtain ⟨L, CT, dis, at_⟩ := cells_hp CA hall hnd
  have dis1 : ∀ b o, L b = some o → H1 b = none := fun b o z => (dis b o z).1
  have q1 := q L CT dis1
  have cb : ∀ b o, L b = some o → X.s_0.heap.objs.size ≤ b ∧ b ≠ X.env.locals := fun b o z => by
    obtain ⟨_, y, hy, hc⟩ := dis b o z
    have hc2 := (cp I1.ok).sub y b hc
    exact ⟨I1.ok.cab y b (hfn y hy) hc2, I1.cne y b hc2⟩
  have no : ∀ b, H1 b = none → L b = none → over L H1 b = none := fun b z1 z2 => by rw [over_none z2]; exact z1
  have nL : ∀ b, (X.s_0.heap.objs.size ≤ b → b = X.env.locals) → L b = none := fun b z => by
    cases lb : L b with
    | none => rfl
    | some o =>
      obtain ⟨h1, h2⟩ := cb b o lb
      exact absurd (z h1) h2
  have e1 := I1.env0
  have E1 : Env0 X.prog X.w X.K X.mg X.base X.A X.stack s1 (over L H1) := ⟨e1.frames, e1.mod, fun b o z => ⟨(e1.bs b o z).1, no b (e1.bs b o z).2 (nL b fun y => absurd (Nat.lt_of_lt_of_le (Heap.lt_size z) (Nat.le_trans I1.ok.bsz y)) (Nat.lt_irrefl _))⟩, e1.bsz, e1.funs,
    fun b z => no b (e1.frf b z) (nL b fun y => ?_), hok_over e1.hok dis1 at_, e1.bare⟩
  · have rd : L2.Vals vs us := r
    have dnil : ds = [] := by
      have := d.length
      cases ds with
      | nil => rfl
      | cons _ _ => simp at this
    subst dnil
    have r2 : us.length = ps.length := by rw [← r.length]; exact F.len _ _ _ _ q1
    have hb := b s1 us I1.kIn (by rw [List.append_nil]; exact r2)
    rw [List.append_nil] at hb
    show wpAny _ _ (call (.ref f) us) _ _ _
    refine wpAny_call (codeAny_mono (F.run X.A X.stack s1 (over L H1) ⟨us, []⟩ us vs _ _ (hr.mono hk) E1 hb r q1) fun r' s' hq => ?_)
    cases r' with
    | error e => exact hq.elim
    | ok fl =>
      cases fl with
      | ret u => exact I1.after (ce_under dis1 at_ hq)
      | next => exact False.elim hq
      | brk => exact False.elim hq
      | cont => exact False.elim hq
  · rcases List.mem_cons.mp (I1.stkSub b z) with e | hb
    · exact e
    · obtain ⟨_, o, ho, _⟩ := I1.ok.funs.mem hb
      exact absurd (Nat.lt_of_lt_of_le (Heap.lt_size ho) y) (Nat.lt_irrefl _)
end St
set_option Elab.async false
set_option linter.all false
set_option maxRecDepth 100000
set_option maxHeartbeats 2000000
/-! W2: rules that the layer lacks: a chain of three comparisons, xs[i] += e, enumerate's loop, a written dict with whole numbers as keys. -/
namespace St
open PySem PySem.Spec PyProof.Rows L2
section
variable {X : Cx} {a b c d : Expr} {ta tb tc td : TE} {pos : Pos}
/-- a op1 b op2 c op3 d -/
def tChain3 (r r' r'' : R2) (ta tb tc td : TE) : TE := fun σ H Q => ta σ H fun x H1 => tb σ H1 fun y H2 => r x y H2 fun z H3 => ∃ k, z = .bl k ∧
  (if k = true then tc σ H3 fun u H4 => r' y u H4 fun z' H5 => ∃ k', z' = .bl k' ∧ (if k' = true then td σ H5 fun v H6 => r'' u v H6 Q else Q (.bl false) H5) else Q (.bl false) H3)
theorem pe_chain3 {op op' op'' : CmpOp} {r r' r'' : R2} (ho : OpR X (compareOp op) r) (ho' : OpR X (compareOp op') r') (ho'' : OpR X (compareOp op'') r'') (ha : PE X a ta) (hb : PE X b tb) (hc : PE X c tc) (hd : PE X d td)
    (hm : lastMarks [op, op', op''] [b, c, d] = false := by with_unfolding_all rfl) : PE X (.Compare a [op, op', op''] [b, c, d] pos) (tChain3 r r' r'' ta tb tc td) := by
  refine ⟨fun pins s σ H Q I h => ?_⟩
  refine Compare_chain (thn (ha.run pins s σ H _ I h) fun v s1 ⟨x, H1, I1, r1, q1⟩ => chain_link (thn (hb.run pins s1 σ H1 _ I1 q1) fun u s2 ⟨y, H2, I2, r2, q2⟩ =>
    thn (ho pins s2 σ H2 x y v u _ I2 r1 r2 q2) fun d s3 ⟨z, H3, I3, r3, k, e, q3⟩ => ?_)) hm
  subst e
  cases r3
  refine wpAny_truthy_bool ?_
  cases k with
  | false => exact ite_ff ⟨.bl false, H3, I3, rfl, q3⟩
  | true =>
    refine ite_tt (chain_link (thn (hc.run pins s3 σ H3 _ I3 q3) fun u' s4 ⟨y', H4, I4, r4, q4⟩ => thn (ho' pins s4 σ H4 y y' u u' _ I4 r2 r4 q4) fun d s5 ⟨z', H5, I5, r5, k', e', q5⟩ => ?_))
    subst e'
    cases r5
    refine wpAny_truthy_bool ?_
    cases k' with
    | false => exact ite_ff ⟨.bl false, H5, I5, rfl, q5⟩
    | true => exact ite_tt (chain_last (thn (hd.run pins s5 σ H5 _ I5 q5) fun v' s6 ⟨z'', H6, I6, r6, q6⟩ => ho'' pins s6 σ H6 y' z'' u' v' Q I6 r4 r6 q6))
/-- xs[i], 0 ≤ i, as it is read ahead of xs[i] += e -/
theorem pget_list : PGet X (fun o i H Q => ∃ p xs k v, o = .ref p ∧ i = .int k ∧ SqL X.K H p xs ∧ 0 ≤ k ∧ xs[k.toNat]? = some v ∧ Q v H) := by
  intro pins s σ H o i ov iv Q I ro ri h
  obtain ⟨p, xs, k, v, rfl, rfl, hq, h0, he, q⟩ := h
  cases ro
  obtain ⟨t, rfl⟩ := ri
  obtain ⟨its, r, pl, hz⟩ := I.list hq
  obtain ⟨u, hu, ru⟩ := r.get he
  have hl : k.toNat < xs.length := (List.getElem?_eq_some_iff.mp he).1
  have hn := line63
  exact wpAny_getItem_list pl.isList h0 (by omega) (by simpa using hu) ⟨v, H, I, ru, q⟩
end
/-- for i, x in enumerate(xs): the pair is a new tuple at each turn -/
theorem for_enum {K : PySem.W.Frag} {a : Addr} {xs : List V} {g : TG} {tb : TS} {D : Ends} {σ : L2.St} {H : Hp} (Pv : Nat → L2.St → Hp → Prop) (h0 : Pv 0 σ H) (hl : ∀ i σ H, i ≤ xs.length → Pv i σ H → SqL K H a xs)
    (hs : ∀ i x σ H T, xs[i]? = some x → Pv i σ H → H T = none → g (.ref T) σ (upd H T (.tup [.int (i : Nat), x])) fun σ2 H2 => tb { D with nx := Pv (i + 1), ct := Pv (i + 1), bk := D.nx } σ2 H2) (hd : ∀ σ H, Pv xs.length σ H → D.nx σ H) :
    ∃ W : Nat → Nat → L2.St → Hp → Prop, (∃ m, W 0 m σ H) ∧ ∀ i m σ H, W i m σ H →
      ((Ite K a).stop i H ∧ D.nx σ H) ∨ ((Ite K a).go i H ∧ ∃ N : L2.St → Hp → Prop, (∀ σ' H', N σ' H' → ∃ m', m' < m ∧ W (i + 1) m' σ' H') ∧ ∀ x H', (Ite K a).yld i H x H' → g x σ H' fun σ2 H2 => tb { D with nx := N, ct := N, bk := D.nx } σ2 H2) := by
  refine ⟨fun i m σ H => m = xs.length - i ∧ i ≤ xs.length ∧ Pv i σ H, ⟨xs.length, by simp, Nat.zero_le _, h0⟩, ?_⟩
  rintro i m σ H ⟨rfl, hi, p⟩
  have q := hl i σ H hi p
  by_cases hlt : i < xs.length
  · refine .inr ⟨⟨xs, xs[i], q, by simp [hlt]⟩, Pv (i + 1), fun σ' H' p' => ⟨xs.length - (i + 1), by omega, rfl, hlt, p'⟩, fun x H' y => ?_⟩
    obtain ⟨T, x', rfl, hT, rfl, hx⟩ := y
    exact hs i x' σ H T (hx xs q) p hT
  · have e : i = xs.length := by omega
    subst e
    exact .inl ⟨⟨xs, q, Nat.le_refl _⟩, hd σ H p⟩
/-! ### a written dict whose keys are whole numbers -/
def KeysInt : List DictEntry → Prop
  | [] => True
  | e :: r => (∃ i t, e.key = .int i t ∧ e.hash = hashInt i) ∧ KeysInt r
theorem KeysInt.all : ∀ {l : List DictEntry}, KeysInt l → ∀ e ∈ l, ∃ i t, e.key = .int i t ∧ e.hash = hashInt i
  | _ :: _, ⟨h, _⟩, _, .head _ => h
  | _ :: _, ⟨_, r⟩, _, .tail _ m => r.all _ m
/-- d holds v at the key i -/
def KDi (K : PySem.W.Frag) (d : Addr) (i : Int) (v : V) : Prop :=
  ∃ es n u, K.lookup d = some ⟨.type "dict", none, .dict es n, #[]⟩ ∧ KeysInt es.toList ∧ findBy Value.isInt es i = some u ∧ L2.RelV v u
def rIxDi (K : PySem.W.Frag) : R2 := fun x y H Q => ∃ p i v, x = .ref p ∧ y = .int i ∧ KDi K p i v ∧ Q v H
theorem ix_kdi {X : Cx} : IxR X (rIxDi X.K) := by
  intro value slice pins s σ H x y v u Q I rx ry h hs
  obtain ⟨p, i, r, rfl, rfl, ⟨es, n, u0, hl, hk, e, ru⟩, q⟩ := h
  obtain rfl : v = Value.ref p := rx
  obtain ⟨t, rfl⟩ := ry
  have hm : s.heap.MapOf (intKind X.prog X.w) p (fun k => findBy Value.isInt es k) :=
    ⟨_, es, n, I.kIn _ _ hl, ⟨rfl, rfl, rfl⟩, rfl, fun e he => by
      obtain ⟨i, t, e1, e2⟩ := hk.all e (Array.mem_toList_iff.mpr he)
      exact ⟨i, by rw [e1]; simp [intKind, Value.isInt], e2⟩, fun _ => rfl⟩
  exact tail_any hm.typeIs slot_dict_getitem.lookup (wpAny_getItem_of (knd := intKind X.prog X.w) (k := i) (by simp [intKind, Value.isInt]) hm e ⟨r, H, I.tok _, ru, q⟩) hs
end St
set_option Elab.async false
set_option linter.all false
set_option maxRecDepth 100000
set_option maxHeartbeats 2000000
/-! W3: the ranges of the arguments; the exact arithmetic. -/
namespace St
open PySem PySem.Spec PyProof.Rows L2
section
variable {P : Program} {w : World} {K : PySem.W.Frag} {mg : Str → Option Value} {base : Heap}
/-! ### limits -/
def sp_is_within : Sp := fun vs H Q _ => ∃ a b c : Int, vs = [.int a, .int b, .int c] ∧ Q (.bl (decide (b ≤ a ∧ a ≤ c))) H
theorem c_is_within (F : DefB K mg "is_within" s_is_within ["number", "least", "greatest"]) : Cal0 P w K mg base 1 "is_within" sp_is_within := by
  obtain ⟨f, fd, F, b⟩ := F.ex
  refine C8.cal0 F b .nil (C8.fnScope_by (N := ["number", "least", "greatest"]) (by decide +kernel)) (fun vs H Q E h => ?_) (fun cdv A outer s H vs Q E hr h => ?_)
  · obtain ⟨a, b, c, rfl, _⟩ := h
    rfl
  · obtain ⟨a, b, c, rfl, k⟩ := h
    refine ⟨_, pss_one (ps_ret (pe_chain op_le op_le (pv 1) (pv 0) (pv 2))), ?_⟩
    refine ⟨_, rfl, _, rfl, _, _, rfl, rfl, _, rfl, ?_⟩
    exact and_bl (fun z => Q (.bl z) H) k fun k => ⟨_, rfl, _, _, rfl, rfl, k⟩
def sp_is_horizon : Sp := fun vs H Q _ => ∃ a : Int, vs = [.int a] ∧ Q (.bl (decide (1 ≤ a ∧ a ≤ 20))) H
theorem c_is_horizon (g : Glb mg) (F : DefB K mg "is_horizon" s_is_horizon ["number"]) (c1 : Cal0 P w K mg base 1 "is_within" sp_is_within) : Cal0 P w K mg base 2 "is_horizon" sp_is_horizon := by
  obtain ⟨f, fd, F, b⟩ := F.ex
  refine C8.cal0 F b .nil (C8.fnScope_by (N := ["number"]) (by decide +kernel)) (fun vs H Q E h => ?_) (fun cdv A outer s H vs Q E hr h => ?_)
  · obtain ⟨a, rfl, _⟩ := h
    rfl
  · obtain ⟨a, rfl, k⟩ := h
    refine ⟨_, pss_one (ps_ret (C8.pe_c c1 hr (by decide) rfl (pa_cons (pv 0) (pa_cons pe_int (pa_cons (C8.pe_gc rfl g.MOST_HORIZON) pa_nil))))), ?_⟩
    exact ⟨_, rfl, _, _, _, rfl, k⟩
def sp_is_divisor : Sp := fun vs H Q _ => ∃ a : Int, vs = [.int a] ∧ Q (.bl (decide (1 ≤ a ∧ a ≤ 1000))) H
theorem c_is_divisor (g : Glb mg) (F : DefB K mg "is_divisor" s_is_divisor ["number"]) (c1 : Cal0 P w K mg base 1 "is_within" sp_is_within) : Cal0 P w K mg base 2 "is_divisor" sp_is_divisor := by
  obtain ⟨f, fd, F, b⟩ := F.ex
  refine C8.cal0 F b .nil (C8.fnScope_by (N := ["number"]) (by decide +kernel)) (fun vs H Q E h => ?_) (fun cdv A outer s H vs Q E hr h => ?_)
  · obtain ⟨a, rfl, _⟩ := h
    rfl
  · obtain ⟨a, rfl, k⟩ := h
    refine ⟨_, pss_one (ps_ret (C8.pe_c c1 hr (by decide) rfl (pa_cons (pv 0) (pa_cons pe_int (pa_cons (C8.pe_gc rfl g.MOST_DIVISOR) pa_nil))))), ?_⟩
    exact ⟨_, rfl, _, _, _, rfl, k⟩
/-- p / d is a probability -/
abbrev IsProb (p d : Int) : Prop := (1 ≤ d ∧ d ≤ 1000) ∧ 0 ≤ p ∧ p ≤ d
def sp_is_probability : Sp := fun vs H Q _ => ∃ p d : Int, vs = [.int p, .int d] ∧ Q (.bl (decide (IsProb p d))) H
theorem c_is_probability (F : DefB K mg "is_probability" s_is_probability ["p", "divisor"]) (c1 : Cal0 P w K mg base 1 "is_within" sp_is_within) (c2 : Cal0 P w K mg base 2 "is_divisor" sp_is_divisor) : Cal0 P w K mg base 3 "is_probability" sp_is_probability := by
  obtain ⟨f, fd, F, b⟩ := F.ex
  refine C8.cal0 F b .nil (C8.fnScope_by (N := ["p", "divisor"]) (by decide +kernel)) (fun vs H Q E h => ?_) (fun cdv A outer s H vs Q E hr h => ?_)
  · obtain ⟨p, d, rfl, _⟩ := h
    rfl
  · obtain ⟨p, d, rfl, k⟩ := h
    refine ⟨_, pss_one (ps_ret (pe_and (C8.pe_c c2 hr (by decide) rfl (pa_cons (pv 1) pa_nil)) (pe_one (C8.pe_c c1 hr (by decide) rfl (pa_cons (pv 0) (pa_cons pe_int (pa_cons (pv 1) pa_nil))))))), ?_⟩
    refine ⟨_, rfl, _, rfl, _, rfl, ?_⟩
    exact and_bl (fun z => Q (.bl z) H) k fun k => ⟨_, rfl, _, rfl, _, _, _, rfl, k⟩
abbrev ArePair (p0 p1 d : Int) : Prop := (1 ≤ d ∧ d ≤ 1000) ∧ 1 ≤ p0 ∧ p0 < p1 ∧ p1 < d
def sp_are_two_probabilities : Sp := fun vs H Q _ => ∃ p0 p1 d : Int, vs = [.int p0, .int p1, .int d] ∧ Q (.bl (decide (ArePair p0 p1 d))) H
theorem c_are_two_probabilities (F : DefB K mg "are_two_probabilities" s_are_two_probabilities ["p0", "p1", "divisor"]) (c2 : Cal0 P w K mg base 2 "is_divisor" sp_is_divisor) : Cal0 P w K mg base 3 "are_two_probabilities" sp_are_two_probabilities := by
  obtain ⟨f, fd, F, b⟩ := F.ex
  refine C8.cal0 F b .nil (C8.fnScope_by (N := ["p0", "p1", "divisor"]) (by decide +kernel)) (fun vs H Q E h => ?_) (fun cdv A outer s H vs Q E hr h => ?_)
  · obtain ⟨p, d, e, rfl, _⟩ := h
    rfl
  · obtain ⟨p0, p1, d, rfl, k⟩ := h
    refine ⟨_, pss_one (ps_ret (pe_and (C8.pe_c c2 hr (by decide) rfl (pa_cons (pv 2) pa_nil)) (pe_one (pe_chain3 op_le op_lt op_lt pe_int (pv 0) (pv 1) (pv 2))))), ?_⟩
    refine ⟨_, rfl, _, rfl, _, rfl, ?_⟩
    refine and_bl (fun z => Q (.bl z) H) k fun k => ⟨_, rfl, _, _, rfl, rfl, _, rfl, ?_⟩
    refine and_bl (fun z => Q (.bl z) H) k fun k => ⟨_, rfl, _, _, rfl, rfl, _, rfl, ?_⟩
    exact and_bl (fun z => Q (.bl z) H) k fun k => ⟨_, rfl, _, _, rfl, rfl, k⟩
abbrev IsBound (n d : Int) : Prop := (1 ≤ d ∧ d ≤ 1000) ∧ 0 ≤ n ∧ n ≤ 1000000
def sp_is_bound : Sp := fun vs H Q _ => ∃ n d : Int, vs = [.int n, .int d] ∧ Q (.bl (decide (IsBound n d))) H
theorem c_is_bound (g : Glb mg) (F : DefB K mg "is_bound" s_is_bound ["number", "divisor"]) (c1 : Cal0 P w K mg base 1 "is_within" sp_is_within) (c2 : Cal0 P w K mg base 2 "is_divisor" sp_is_divisor) : Cal0 P w K mg base 3 "is_bound" sp_is_bound := by
  obtain ⟨f, fd, F, b⟩ := F.ex
  refine C8.cal0 F b .nil (C8.fnScope_by (N := ["number", "divisor"]) (by decide +kernel)) (fun vs H Q E h => ?_) (fun cdv A outer s H vs Q E hr h => ?_)
  · obtain ⟨p, d, rfl, _⟩ := h
    rfl
  · obtain ⟨p, d, rfl, k⟩ := h
    refine ⟨_, pss_one (ps_ret (pe_and (C8.pe_c c2 hr (by decide) rfl (pa_cons (pv 1) pa_nil)) (pe_one (C8.pe_c c1 hr (by decide) rfl (pa_cons (pv 0) (pa_cons pe_int (pa_cons (C8.pe_gc rfl g.MOST_BOUND) pa_nil))))))), ?_⟩
    refine ⟨_, rfl, _, rfl, _, rfl, ?_⟩
    exact and_bl (fun z => Q (.bl z) H) k fun k => ⟨_, rfl, _, _, _, rfl, k⟩
end
end St
set_option Elab.async false
set_option linter.all false
set_option maxRecDepth 100000
set_option maxHeartbeats 2000000
/-! W4: further ranges; the exact arithmetic. -/
namespace St
open PySem PySem.Spec PyProof.Rows L2
section
variable {P : Program} {w : World} {K : PySem.W.Frag} {mg : Str → Option Value} {base : Heap}
abbrev AreBounds (l ld h hd : Int) : Prop := IsBound l ld ∧ IsBound h hd ∧ l * hd < h * ld
def sp_are_two_bounds : Sp := fun vs H Q _ => ∃ l ld h hd : Int, vs = [.int l, .int ld, .int h, .int hd] ∧ Q (.bl (decide (AreBounds l ld h hd))) H
theorem c_are_two_bounds (F : DefB K mg "are_two_bounds" s_are_two_bounds ["low", "low_divisor", "high", "high_divisor"]) (c1 : Cal0 P w K mg base 3 "is_bound" sp_is_bound) : Cal0 P w K mg base 4 "are_two_bounds" sp_are_two_bounds := by
  obtain ⟨f, fd, F, b⟩ := F.ex
  refine C8.cal0 F b .nil (C8.fnScope_by (N := ["low", "low_divisor", "high", "high_divisor"]) (by decide +kernel)) (fun vs H Q E h => ?_) (fun cdv A outer s H vs Q E hr h => ?_)
  · obtain ⟨_, _, _, _, rfl, _⟩ := h
    rfl
  · obtain ⟨l, ld, h, hd, rfl, k⟩ := h
    refine ⟨_, pss_cons (ps_if (PW.pt (pw_or (pt_not (pt_val (C8.pe_c c1 hr (by decide) rfl (pa_cons (pv 0) (pa_cons (pv 1) pa_nil))))) (pw_or1 (pt_not (pt_val (C8.pe_c c1 hr (by decide) rfl (pa_cons (pv 2) (pa_cons (pv 3) pa_nil)))))))) (pss_one (ps_ret pe_bl)) pss_nil)
      (pss_one (ps_ret (pe_cmpR op_lt (pe_op op_mul (pv 0) (pv 3)) (pe_op op_mul (pv 2) (pv 1)) (nomark _)))), ?_⟩
    refine ⟨_, rfl, _, rfl, _, _, rfl, _, rfl, ?_⟩
    by_cases h1 : IsBound l ld
    · rw [decide_eq_true h1]
      refine iteF ⟨_, rfl, _, rfl, _, _, rfl, _, rfl, ?_⟩
      by_cases h2 : IsBound h hd
      · rw [decide_eq_true h2]
        refine iteF ⟨_, rfl, _, rfl, _, _, rfl, rfl, .inl ⟨by have := h1.2; omega, by have := h1.2; omega⟩, _, rfl, _, rfl, _, _, rfl, rfl, .inl ⟨by have := h2.2; omega, by have := h2.2; omega⟩, _, _, rfl, rfl, ?_⟩
        have e : decide (l * hd < h * ld) = decide (AreBounds l ld h hd) := decide_eq_decide.mpr ⟨fun z => ⟨h1, h2, z⟩, fun z => z.2.2⟩
        rw [← e] at k
        exact k
      · rw [decide_eq_false h2]
        refine iteT ?_
        have e : decide (AreBounds l ld h hd) = false := decide_eq_false fun z => h2 z.2.1
        rw [e] at k
        exact k
    · rw [decide_eq_false h1]
      refine iteT (iteT ?_)
      have e : decide (AreBounds l ld h hd) = false := decide_eq_false fun z => h1 z.1
      rw [e] at k
      exact k
abbrev AreStages (H f fl l : Int) : Prop := (1 ≤ f ∧ f ≤ H - 1) ∧ (0 ≤ fl ∧ fl ≤ f) ∧ 0 ≤ l ∧ l ≤ H
def sp_are_two_stages : Sp := fun vs H Q _ => ∃ h f fl l : Int, vs = [.int h, .int f, .int fl, .int l] ∧ Q (.bl (decide (AreStages h f fl l))) H
theorem c_are_two_stages (F : DefB K mg "are_two_stages" s_are_two_stages ["horizon", "first", "first_limit", "limit"]) (c1 : Cal0 P w K mg base 1 "is_within" sp_is_within) : Cal0 P w K mg base 2 "are_two_stages" sp_are_two_stages := by
  obtain ⟨f, fd, F, b⟩ := F.ex
  refine C8.cal0 F b .nil (C8.fnScope_by (N := ["horizon", "first", "first_limit", "limit"]) (by decide +kernel)) (fun vs H Q E h => ?_) (fun cdv A outer s H vs Q E hr h => ?_)
  · obtain ⟨_, _, _, _, rfl, _⟩ := h
    rfl
  · obtain ⟨h, f, fl, l, rfl, k⟩ := h
    refine ⟨_, pss_cons (ps_if (pt_not (pt_val (C8.pe_c c1 hr (by decide) rfl (pa_cons (pv 1) (pa_cons pe_int (pa_cons (pe_op op_sub (pv 0) pe_int) pa_nil)))))) (pss_one (ps_ret pe_bl)) pss_nil)
      (pss_one (ps_ret (pe_and (C8.pe_c c1 hr (by decide) rfl (pa_cons (pv 2) (pa_cons pe_int (pa_cons (pv 1) pa_nil)))) (pe_one (C8.pe_c c1 hr (by decide) rfl (pa_cons (pv 3) (pa_cons pe_int (pa_cons (pv 0) pa_nil)))))))), ?_⟩
    refine ⟨_, rfl, _, rfl, _, _, rfl, rfl, _, _, _, rfl, _, rfl, ?_⟩
    by_cases h1 : 1 ≤ f ∧ f ≤ h - 1
    · rw [decide_eq_true h1]
      refine iteF ⟨_, rfl, _, rfl, _, _, _, rfl, _, rfl, ?_⟩
      have e : decide (AreStages h f fl l) = decide ((0 ≤ fl ∧ fl ≤ f) ∧ 0 ≤ l ∧ l ≤ h) := decide_eq_decide.mpr ⟨fun z => z.2, fun z => ⟨h1, z⟩⟩
      rw [e] at k
      exact and_bl (fun z => Q (.bl z) H) k fun k => ⟨_, rfl, _, rfl, _, _, _, rfl, k⟩
    · rw [decide_eq_false h1]
      refine iteT ?_
      have e : decide (AreStages h f fl l) = false := decide_eq_false fun z => h1 z.1
      rw [e] at k
      exact k
/-! ### exact -/
def sp_gcd : Sp := fun vs H Q _ => ∃ a b : Nat, vs = [.int a, .int b] ∧ Q (.int (Nat.gcd a b)) H
theorem c_gcd (F : DefB K mg "greatest_common_divisor" s_greatest_common_divisor ["first", "second"]) : Cal0 P w K mg base 1 "greatest_common_divisor" sp_gcd := by
  obtain ⟨f, fd, F, b⟩ := F.ex
  refine C8.cal0 F b .nil (C8.fnScope_by (N := ["first", "second"]) (by decide +kernel)) (fun vs H Q E h => ?_) (fun cdv A outer s H vs Q E hr h => ?_)
  · obtain ⟨_, _, rfl, _⟩ := h
    rfl
  · obtain ⟨a, b, rfl, k⟩ := h
    have nd : (["first", "second"] : List Str).Nodup := by decide +kernel
    refine ⟨_, pss_cons (ps_while PassesOwn.never (pt_truth (pv 1) (by intro _; rfl)) (pss_one (ps_par (i := 0) (j := 1) rfl nd rfl rfl (by decide) rfl rfl (pa_cons (pv 1) (pa_cons (pe_op op_modN (pv 0) (pv 1)) pa_nil)) (by rfl))))
      (pss_one (ps_ret (pv 0))), ?_⟩
    refine while_by (fun σ H' => H' = H ∧ ∃ x y : Nat, σ = [some (.int x), some (.int y)] ∧ Nat.gcd x y = Nat.gcd a b) (fun σ _ => match σ with
      | [_, some (.int y)] => y.toNat
      | _ => 0) ⟨rfl, a, b, rfl, rfl⟩ ?_ ?_
    · rintro σ H' ⟨rfl, x, y, rfl, e⟩
      refine ⟨_, rfl, _, rfl, ?_⟩
      by_cases hy : y = 0
      · subst hy
        refine iteF ?_
        refine ⟨_, rfl, ?_⟩
        rw [Nat.gcd_zero_right] at e
        rw [← e] at k
        exact k
      · have hb : (((y : Int)) != 0) = true := by
          rw [bne_iff_ne]
          omega
        rw [hb]
        refine iteT ⟨_, rfl, _, rfl, _, rfl, _, _, rfl, rfl, by omega, _, _, rfl, ⟨rfl, y, x % y, ?_, ?_⟩, ?_⟩
        · have em : Int.fmod (x : Int) (y : Int) = ((x % y : Nat) : Int) := by
            rw [Int.fmod_eq_emod_of_nonneg _ (by omega)]
            rfl
          show [some (V.int (y : Int)), some (V.int (Int.fmod (x : Int) (y : Int)))] = _
          rw [em]
        · rw [← e, Nat.gcd_comm x y, Nat.gcd_rec y x, Nat.gcd_comm]
        · show (Int.fmod (x : Int) (y : Int)).toNat < (y : Int).toNat
          rw [Int.fmod_eq_emod_of_nonneg _ (by omega)]
          have := Int.emod_lt_of_pos (x : Int) (show (0 : Int) < y by omega)
          have := Int.emod_nonneg (x : Int) (show (y : Int) ≠ 0 by omega)
          omega
    · rintro σ H' Q1 Q2 hq ⟨v, e1, k', e2, e3⟩
      exact ⟨v, e1, k', e2, hq _ _ e3⟩
/-- a new object -/
structure New (H H' : Hp) (p : Addr) (o : HO) : Prop where
  same : Same H H'
  fresh : H p = Option.none
  at_ : H' p = some o
theorem same_upd {H : Hp} {p : Addr} {o : HO} (hp : H p = Option.none) : Same H (upd H p o) := fun b u e => by
  rw [upd_ne (ne_of_none e hp)]
  exact e
theorem new_upd {H : Hp} {p : Addr} {o : HO} (hp : H p = Option.none) : New H (upd H p o) p o := ⟨same_upd hp, hp, upd_same⟩
/-- a fraction in lowest terms, as two values -/
def lowest (n d : Nat) : List V := [.int ((n / Nat.gcd n d : Nat) : Int), .int ((d / Nat.gcd n d : Nat) : Int)]
def sp_lowest_terms : Sp := fun vs H Q _ => ∃ n d : Nat, vs = [.int n, .int d] ∧ 0 < d ∧ d < 2 ^ 8000 ∧ ∀ H' p, New H H' p (.lst (lowest n d)) → Q (.ref p) H'
theorem c_lowest_terms (F : DefB K mg "lowest_terms" s_lowest_terms ["numerator", "denominator"]) (c1 : Cal0 P w K mg base 1 "greatest_common_divisor" sp_gcd) : Cal0 P w K mg base 2 "lowest_terms" sp_lowest_terms := by
  obtain ⟨f, fd, F, b⟩ := F.ex
  refine C8.cal0 F b .nil (C8.fnScope_by (N := ["numerator", "denominator", "common"]) (by decide +kernel)) (fun vs H Q E h => ?_) (fun cdv A outer s H vs Q E hr h => ?_)
  · obtain ⟨_, _, rfl, _⟩ := h
    rfl
  · obtain ⟨n, d, rfl, h0, h1, k⟩ := h
    have nd : (["numerator", "denominator", "common"] : List Str).Nodup := by decide +kernel
    refine ⟨_, pss_cons (ps_set (i := 2) nd rfl (.inl rfl) (C8.pe_c c1 hr (by decide) rfl (pa_cons (pv 0) (pa_cons (pv 1) pa_nil))))
      (pss_one (ps_ret (pe_lst (pa_cons (pe_op op_fdivW (pv 0) (pv 2)) (pa_cons (pe_op op_fdivW (pv 1) (pv 2)) pa_nil))))), ?_⟩
    have hg : 0 < Nat.gcd n d := Nat.gcd_pos_of_pos_right n h0
    have hl : Nat.gcd n d < 2 ^ 8000 := Nat.lt_of_le_of_lt (Nat.gcd_le_right n h0) h1
    have hw : ∀ i : Int, CDivW i (Nat.gcd n d : Nat) := fun i => wide_div (b := 8000) (by omega) (by rw [Int.natAbs_natCast]; exact hl) (by decide) (by decide)
    refine ⟨_, rfl, _, rfl, n, d, rfl, _, rfl, _, rfl, _, _, rfl, rfl, hw _, _, rfl, _, rfl, _, _, rfl, rfl, hw _, (by show 2 ≤ sizeLine; decide), fun p hp => ?_⟩
    exact k _ p (new_upd hp)
/-- the powers of b from 0 to m -/
def pows (b : Int) (m : Nat) : List V := (List.range m).map fun i => V.int (b ^ i)
theorem pows_succ (b : Int) (m : Nat) : pows b (m + 1) = pows b m ++ [V.int (b ^ m)] := by
  unfold pows
  rw [List.range_succ, List.map_append]
  rfl
theorem pows_len (b : Int) (m : Nat) : (pows b m).length = m := by
  unfold pows
  rw [List.length_map, List.length_range]
theorem pows_get {b : Int} {m i : Nat} (h : i < m) : (pows b m)[i]? = some (V.int (b ^ i)) := by
  unfold pows
  rw [List.getElem?_map, List.getElem?_range h]
  rfl
def sp_powers : Sp := fun vs H Q _ => ∃ (b : Int) (m : Nat), vs = [.int b, .int m] ∧ (-(2 ^ 64) < b ∧ b < 2 ^ 64) ∧ m ≤ 100 ∧ ∀ H' p, New H H' p (.lst (pows b (m + 1))) → Q (.ref p) H'
theorem c_powers (g : Glb mg) (F : DefB K mg "powers" s_powers ["base", "most"]) : Cal0 P w K mg base 1 "powers" sp_powers := by
  obtain ⟨f, fd, F, b⟩ := F.ex
  refine C8.cal0 F b .nil (C8.fnScope_by (N := ["base", "most", "found"]) (by decide +kernel)) (fun vs H Q E h => ?_) (fun cdv A outer s H vs Q E hr h => ?_)
  · obtain ⟨_, _, rfl, _⟩ := h
    rfl
  · obtain ⟨x, m, rfl, hb, hm, k⟩ := h
    have nd : (["base", "most", "found"] : List Str).Nodup := by decide +kernel
    refine ⟨_, pss_cons (ps_set (i := 2) nd rfl (.inl rfl) (pe_lst (pa_cons pe_int pa_nil)))
      (pss_cons (ps_while PassesOwn.never (pt_cmpR op_le (pe_callB call_len_seq (by rfl) g.len PySem.boot_len (pa_cons (pv 2) pa_nil)) (pv 1) (nomark _))
        (pss_one (ps_expr (pe_bm PySem.F.plainAttrs_list PySem.F.slot_list_append PySem.F.type_list_append mt_append (pv 2) (pa_cons (pe_op op_mul (pe_ix ix_list (pv 2) (pe_un un_neg pe_int) (fun _ _ => rfl)) (pv 0)) pa_nil)))))
      (pss_one (ps_ret (pv 2)))), ?_⟩
    refine ⟨(by show 1 ≤ sizeLine; decide), fun l hl => ?_⟩
    refine while_by (fun σ H' => ∃ i : Nat, i ≤ m ∧ σ = [some (.int x), some (.int m), some (.ref l)] ∧ H' = upd H l (.lst (pows x (i + 1)))) (fun σ H' => match H' l with
      | some (.lst xs) => m + 1 - xs.length
      | _ => 0) ⟨0, Nat.zero_le _, rfl, (by show _ = upd H l (.lst [V.int (x ^ 0)]); rw [Int.pow_zero])⟩ ?_ ?_
    · rintro σ H' ⟨i, hi, rfl, rfl⟩
      refine ⟨_, rfl, l, _, rfl, .inl (SqL.of upd_same), _, rfl, _, _, rfl, rfl, _, rfl, ?_⟩
      rw [pows_len]
      by_cases hc : i < m
      · rw [decide_eq_true (show ((i + 1 : Nat) : Int) ≤ (m : Int) by omega)]
        have hs := sizeLine_eq
        refine iteT ⟨_, rfl, .inl ⟨rfl, _, SqL.of upd_same⟩, _, rfl, _, rfl, l, _, _, _, rfl, rfl, SqL.of upd_same, (by rw [pows_succ]; exact atI_last _ _), _, rfl, _, _, rfl, rfl, .inr hb, l, _, _, rfl, rfl, upd_same, (by rw [pows_len]; omega), ?_⟩
        refine ⟨⟨i + 1, hc, rfl, ?_⟩, ?_⟩
        · rw [upd_upd, pows_succ x (i + 1), Int.pow_succ]
        · rw [upd_upd, upd_same, upd_same]
          show m + 1 - (pows x (i + 1) ++ [_]).length < m + 1 - (pows x (i + 1)).length
          rw [List.length_append, pows_len]
          show m + 1 - (i + 1 + 1) < m + 1 - (i + 1)
          omega
      · have ei : i = m := by omega
        subst ei
        rw [decide_eq_false (show ¬ ((i + 1 : Nat) : Int) ≤ (i : Int) by omega)]
        refine iteF ?_
        refine ⟨_, rfl, ?_⟩
        exact k _ l (new_upd hl)
    · rintro σ H' Q1 Q2 hq ⟨v, e1, p, xs, e2, e3, v2, e4, i, j, e5, e6, kk, e7, e8⟩
      exact ⟨v, e1, p, xs, e2, e3, v2, e4, i, j, e5, e6, kk, e7, hq _ _ e8⟩
end
end St
set_option Elab.async false
set_option linter.all false
set_option maxRecDepth 100000
set_option maxHeartbeats 2000000
/-! W5: the end of a Spec row whose defs make defs: the tables of their code objects are tracked from the start. -/
namespace St
open PySem PySem.Spec PyProof.Rows L2
open PySem.W (WData Codec OpenSpec Well WellAll ReadsW ReadsAllW)
/-- the tables of the code objects cs, then the arguments -/
def tabH (cs : List (Addr × Addr)) (H : Hp) : Hp := fun b => if b ∈ cs.map (·.2) then some (.tbl #[]) else H b
theorem tabH_in {cs : List (Addr × Addr)} {H : Hp} {b : Addr} (h : b ∈ cs.map (·.2)) : tabH cs H b = some (.tbl #[]) := if_pos h
theorem tabH_out {cs : List (Addr × Addr)} {H : Hp} {b : Addr} (h : ¬ b ∈ cs.map (·.2)) : tabH cs H b = H b := if_neg h
theorem tabH_sq {K : PySem.W.Frag} {cs : List (Addr × Addr)} {H : Hp} {a : Addr} {xs : List V} (n : ∀ b o, H b = some o → ¬ b ∈ cs.map (·.2)) (h : SqL K H a xs) : SqL K (tabH cs H) a xs := by
  rcases h with (h | ⟨o, h⟩) | h
  · exact .inl (.inl ((tabH_out (n _ _ h)).trans h))
  · exact .inl (.inr ⟨o, (tabH_out (n _ _ h)).trans h⟩)
  · exact .inr h
theorem tabH_sqT {K : PySem.W.Frag} {cs : List (Addr × Addr)} {H : Hp} {a : Addr} {xs : List V} (n : ∀ b o, H b = some o → ¬ b ∈ cs.map (·.2)) (h : SqT K H a xs) : SqT K (tabH cs H) a xs := by
  rcases h with (h | ⟨o, h⟩) | h
  · exact .inl (.inl ((tabH_out (n _ _ h)).trans h))
  · exact .inl (.inr ⟨o, (tabH_out (n _ _ h)).trans h⟩)
  · exact .inr h
mutual
theorem tabH_dw {K : PySem.W.Frag} {cs : List (Addr × Addr)} {H : Hp} (n : ∀ b o, H b = some o → ¬ b ∈ cs.map (·.2)) : ∀ (d : WData) (v : V), Dw K H v d → Dw K (tabH cs H) v d
  | .none, _, x => by cases x; exact .non
  | .bool b, _, x => by cases x; exact .bl b
  | .int i, _, x => by cases x; exact .int i
  | .str s, _, x => by cases x; exact .str s
  | .bytes b, _, x => by cases x; exact .byt _
  | .list ds, _, x => by
    cases x with
    | lst hs ha => exact .lst (tabH_sq n hs) (tabH_dwAll n ds _ ha)
  | .tuple ds, _, x => by
    cases x with
    | tup hs ha => exact .tup (tabH_sqT n hs) (tabH_dwAll n ds _ ha)
  | .float _, _, x => by cases x
  | .dict _, _, x => by cases x
  | .bytearray _, _, x => by cases x
  | .set _, _, x => by cases x
  | .frozenset _, _, x => by cases x
  | .obj _ _, _, x => by cases x
theorem tabH_dwAll {K : PySem.W.Frag} {cs : List (Addr × Addr)} {H : Hp} (n : ∀ b o, H b = some o → ¬ b ∈ cs.map (·.2)) : ∀ (ds : List WData) (vs : List V), DwAll K H vs ds → DwAll K (tabH cs H) vs ds
  | [], _, x => by cases x; exact .nil
  | d :: ds, _, x => by
    cases x with
    | cons h1 h2 => exact .cons (tabH_dw n d _ h1) (tabH_dwAll n ds _ h2)
end
theorem spec_callT {P : Program} {w : World} {K : PySem.W.Frag} {mg mb : Str → Option Value} {CX : CXT} {k : Nat} {fa : Addr} {cs : List (Addr × Addr)} {fd : FuncData} {ps : List Str} {sp : Sp} {s₁ : Shared} {vals : List Value} {ds : List WData} {R : PySem.W.WRecords} {cl : Str → Option Addr} {d0 : WData}
    (KX : K.In s₁.heap) (hns : s₁.heap.Ns mainGlobals mg) (hb : s₁.heap.Ns builtinsNs mb) (hbb : ∀ x : Str, x ≠ "__name__" → mb x = bootBuiltins x) (hlim : s₁.heap.NoLimit) (hg : s₁.gens = #[])
    (hT : ∀ p ∈ cs, s₁.heap.get? p.2 = some { cls := .none, data := .fields #[] }) (nT : ∀ p ∈ cs, K.lookup p.2 = none) (C : ∀ p ∈ cs, PySem.W.CodeHd s₁.heap p.1 p.2)
    (hbm : ∃ (bm : Addr) (ob : Obj), mg "__builtins__" = some (.ref bm) ∧ bm ≠ builtinsNs ∧ s₁.heap.get? bm = some ob ∧ ob.cls = .type "module" ∧ ob.dict = some builtinsNs ∧ ob.data = .plain)
    (hwl : WellAll w.params s₁.heap vals ds) (hpl : plWs ds = true) (hwt : ∀ d ∈ ds, d.weight ≤ 1048576) (hr : Room k callerA)
    (F : ∀ base : Heap, K.In base → base.Ns mainGlobals mg → (∀ p ∈ cs, LamX.TabB base mg p.1 p.2) → FnOk P w K mg base CX k fa fd ps sp) (hbind : ∀ (s : Shared) (us : List Value), us.length = ps.length → BindsTo s fd ⟨us, []⟩ (ps.zip us)) (hlen : ds.length = ps.length)
    (hsp : ∀ (H : Hp) (xs : List V), (∀ p ∈ cs, H p.2 = some (.tbl #[])) → DwAll K H xs ds → sp xs H (fun v H' => Dw K H' v d0) fun _ _ _ => False)
    (hCX : ∀ H e s', CX [] H s₁ (fun _ _ _ => False) e s' → False) :
    codeAny (model P w) callerA (.call (.ref fa) ⟨vals, []⟩) (fun r s' => ∃ u as, r = .ok (.ret u) ∧ ReadsW R cl s'.heap u d0 as ∧ OldK s₁.heap s'.heap ∧ s'.os = s₁.os ∧ AllBare s'.gens) s₁ := by
  obtain ⟨A, ho, ar⟩ := area_all ds vals hwl hpl hwt
  have isT : ∀ b : Addr, b ∈ cs.map (·.2) → s₁.heap.get? b = some { cls := .none, data := .fields #[] } := fun b hb => by
    obtain ⟨p, hp, e⟩ := List.mem_map.mp hb
    rw [← e]
    exact hT p hp
  have memT : ∀ p ∈ cs, p.2 ∈ cs.map (·.2) := fun p hp => List.mem_map.mpr ⟨p, hp, rfl⟩
  have seqT : ∀ {b : Addr} {vs : List Value}, (s₁.heap.get? b = some { cls := .type "list", data := .seq vs.toArray } ∨ s₁.heap.get? b = some { cls := .type "tuple", data := .seq vs.toArray }) → ¬ b ∈ cs.map (·.2) := fun {b vs} h z => by
    have q := isT b z
    rcases h with e | e
    · rw [e] at q
      have z' : Data.seq vs.toArray _ = Data.fields #[] := congrArg Obj.data (Option.some.inj q)
      cases z'
    · rw [e] at q
      have z' : Data.seq vs.toArray _ = Data.fields #[] := congrArg Obj.data (Option.some.inj q)
      cases z'
  have nA : ∀ b o, argH K s₁.heap A b = some o → ¬ b ∈ cs.map (·.2) := fun b o q => by
    obtain ⟨_, vs, _, _, ⟨e, _⟩ | ⟨e, _⟩⟩ := argH_is ar q
    · exact seqT (.inl e)
    · exact seqT (.inr e)
  have hO : ∀ b, tabH cs (argH K s₁.heap A) b = none ∨ b ∈ cs.map (·.2) ∨ ∃ o u, tabH cs (argH K s₁.heap A) b = some (.frz o u) := fun b => by
    by_cases hb : b ∈ cs.map (·.2)
    · exact .inr (.inl hb)
    · rw [tabH_out hb]
      rcases argH_only (K := K) ar b with z | z
      · exact .inl z
      · exact .inr (.inr z)
  have hok : HOk P w (tabH cs (argH K s₁.heap A)) s₁.heap := fun b u q => by
    by_cases hb : b ∈ cs.map (·.2)
    · rw [tabH_in hb] at q
      cases q
      exact isT b hb
    · rw [tabH_out hb] at q
      have nn : ∀ c o, argH K s₁.heap A c = some o → tabH cs (argH K s₁.heap A) c = some o := fun c o z => (tabH_out (nA c o z)).trans z
      exact (argH_ok (P := P) (w := w) ar b u q).stay (fun _ _ _ z => z) (fun c z => nn c _ z) fun c xs z => nn c _ z
  have hS := tabH_dwAll nA ds _ (dw_all KX ar ds vals hwl hpl ho)
  have hV := vals_toV ho
  have hH : ∀ p ∈ cs, tabH cs (argH K s₁.heap A) p.2 = some (.tbl #[]) := fun p hp => tabH_in (memT p hp)
  have hK : ∀ b u, tabH cs (argH K s₁.heap A) b = some u → K.lookup b = none := fun b u q => by
    by_cases hb : b ∈ cs.map (·.2)
    · obtain ⟨p, hp, e⟩ := List.mem_map.mp hb
      rw [← e]
      exact nT p hp
    · rw [tabH_out hb] at q
      exact (argH_is ar q).1
  have noD : ∀ {b : Addr} {o : Obj}, s₁.heap.get? b = some o → (∀ vs n, o.data ≠ .seq vs n) → o.data ≠ .fields #[] → tabH cs (argH K s₁.heap A) b = none := fun {b o} e h1 h2 => by
    cases q : tabH cs (argH K s₁.heap A) b with
    | none => rfl
    | some u =>
      by_cases hb : b ∈ cs.map (·.2)
      · rw [isT b hb] at e
        cases e
        exact (h2 rfl).elim
      · rw [tabH_out hb] at q
        obtain ⟨_, vs, _, _, ⟨e2, _⟩ | ⟨e2, _⟩⟩ := argH_is ar q
        · rw [e2] at e
          cases e
          exact (h1 _ _ rfl).elim
        · rw [e2] at e
          cases e
          exact (h1 _ _ rfl).elim
  have noA : ∀ {b : Addr} {o : Obj} {es : Array DictEntry} {ep : Nat}, s₁.heap.get? b = some o → o.data = .dict es ep → tabH cs (argH K s₁.heap A) b = none := fun {b o es ep} e d => by
    refine noD e (fun vs n z => ?_) fun z => ?_
    · rw [d] at z
      cases z
    · rw [d] at z
      cases z
  generalize tabH cs (argH K s₁.heap A) = H at hO hok hS hK noA noD hH
  have base_of : ∀ {b : Addr} {o : Obj}, s₁.heap.get? b = some o → H b = none → (hidT s₁.heap H).get? b = some o := fun e n => hidT_get e n
  have nsK : ∀ {b : Addr} {m : Str → Option Value}, s₁.heap.Ns b m → (hidT s₁.heap H).Ns b m := fun {b m} ⟨o, es, ep, e, d, r⟩ => ⟨o, es, ep, base_of e (noA e d), d, r⟩
  have nK : ∀ b o, K.lookup b = some o → H b = none := fun b o e => by
    cases q : H b with
    | none => rfl
    | some u =>
      rw [hK b u q] at e
      cases e
  have hKb : K.In (hidT s₁.heap H) := fun b o e => base_of (KX b o e) (nK b o e)
  have hM : L2.Mod K mg (hidT s₁.heap H) := ⟨hKb, nsK hns, ⟨mb, nsK hb, hbb⟩, let ⟨mc, h1, h2⟩ := hlim; ⟨mc, nsK h1, h2⟩⟩
  have TB : ∀ p ∈ cs, LamX.TabB (hidT s₁.heap H) mg p.1 p.2 := fun p hp => by
    have hTp := hT p hp
    refine ⟨?_, ?_, fun z => ?_⟩
    · obtain ⟨o, us, file, tf, flags, tg, inF, text, tt, e1, r1, r2, r3, r4, r5, r6, r7, r8, hne⟩ := C p hp
      refine ⟨o, us, file, tf, flags, tg, inF, text, tt, base_of e1 (noD e1 (fun vs n z => ?_) fun z => ?_), r1, r2, r3, r4, r5, r6, r7, r8, hne⟩
      · rw [r2] at z
        cases z
      · rw [r2] at z
        cases z
        simp at r3
    · obtain ⟨bm, ob, b1, b2, b3, b4, b5, b6⟩ := hbm
      have nG : bm ≠ mainGlobals := fun q => by
        obtain ⟨o, es, ep, e, hd, _⟩ := hns
        rw [q, e] at b3
        cases b3
        rw [hd] at b6
        cases b6
      have nP : bm ≠ p.2 := fun q => by
        rw [q, hTp] at b3
        cases b3
        cases b6
      refine ⟨bm, ob, b1, b2, nG, nP, base_of b3 (noD b3 (fun vs n z => ?_) fun z => ?_), b4, b5, b6⟩
      · rw [b6] at z
        cases z
      · rw [b6] at z
        cases z
    · obtain ⟨o, es, ep, e, hd, _⟩ := hns
      rw [z, hTp] at e
      cases e
      cases hd
  have e0 : Env0 P w K mg (hidT s₁.heap H) callerA [] s₁ H := ⟨rfl, hM, fun b o e => of_hidT e, Nat.le_of_eq (hidT_size _ _), trivial, fun b hb => absurd (show b ∈ ([] : List Addr) from hb) (by simp), hok, .of_eq hg⟩
  have hl : vals.length = ps.length := by rw [wellAll_len hwl]; exact hlen
  refine codeAny_mono ((F _ hKb (nsK hns) TB).run callerA [] s₁ H ⟨vals, []⟩ vals (vals.map toV) _ _ hr e0 (hbind s₁ vals hl) hV (hsp H _ hH hS)) fun r s' x => ?_
  cases r with
  | error e => exact (hCX H e s' x).elim
  | ok fl =>
    cases fl with
    | next => exact False.elim x
    | brk => exact False.elim x
    | cont => exact False.elim x
    | ret u =>
      obtain ⟨v, H', os, bare, un, hok', r', q⟩ := x
      have key : ∀ b o, b ∉ cs.map (·.2) → s₁.heap.get? b = some o → s'.heap.get? b = some o := fun b o nb e => by
        cases q2 : H b with
        | none => exact un.keep b o e q2 (by intro z; exact absurd (show b ∈ ([] : List Addr) from z) (by simp)) (by simp)
        | some u2 =>
          rcases hO b with z | z | ⟨ob, u3, z⟩
          · rw [q2] at z
            cases z
          · exact absurd z nb
          · have z2 := un.frzs b ob _ z
            obtain ⟨e1, _⟩ := hok b _ z
            obtain ⟨e2, _⟩ := hok' b _ z2
            rw [e] at e1
            cases e1
            exact e2
      have grown : ∀ p ∈ cs, ∃ more : Array Value, s'.heap.get? p.2 = some { cls := .none, data := .fields more } := fun p hp => by
        obtain ⟨more, z⟩ := un.tbls p.2 #[] (hH p hp)
        exact ⟨_, hok' p.2 _ z⟩
      have KX' : K.In s'.heap := fun b o e => key b o (fun z => by
        obtain ⟨p, hp, ep⟩ := List.mem_map.mp z
        rw [← ep, nT p hp] at e
        cases e) (KX b o e)
      obtain ⟨as, hrd⟩ := Dw.reads (R := R) (cl := cl) hok' KX' d0 v u q r'
      refine ⟨u, as, rfl, hrd, ⟨fun b o e => ?_, fun b o e => ?_⟩, os, bare⟩
      · by_cases hb : b ∈ cs.map (·.2)
        · obtain ⟨p, hp, ep⟩ := List.mem_map.mp hb
          obtain ⟨more, hm⟩ := grown p hp
          rw [← ep] at e ⊢
          rw [hT p hp] at e
          cases e
          exact .inr (.inl ⟨((C p hp).tab (hT p hp)).isCodeTable, rfl, #[], more, rfl, by rw [Array.empty_append]; exact hm⟩)
        · exact .inl (key b o hb e)
      · by_cases hb : b ∈ cs.map (·.2)
        · obtain ⟨p, hp, ep⟩ := List.mem_map.mp hb
          obtain ⟨more, hm⟩ := grown p hp
          rw [← ep]
          exact ⟨_, hm⟩
        · exact ⟨o, key b o hb e⟩
/-- walk_spec with tables: cs, the code objects of the defs that make defs, each found by its def's name -/
theorem walk_specT {r : OpenSpec} {k : Nat} {q : Program} {loose : List Str} {XP : (Str → Option Value) → Heap → Prop} {YP : World → Heap → Prop} {d : DefRec} {K : Params → PySem.W.Frag} {CX : World → CXT} {ps : List Str} {sp : World → PySem.W.Frag → Sp} {cs : List (Addr × Addr)}
    (hwell : r.wellSaid = true) (hdf : d.params.defaults = []) (hlen : r.args.length = ps.length) (hr : Room k callerA)
    (hY : ∀ (w : World) (h : Heap), YP w h → (K w.params).In h)
    (hcs : ∀ p ∈ cs, ∃ (x : Str) (e : DefRec), (recsOf q).find? (fun e => e.name == x) = some e ∧ ∀ P : Params, PySem.W.tabIn (K P) x = some p ∧ (K P).lookup p.2 = none)
    (F : ∀ (w : World) (mg : Str → Option Value) (fa : Addr) (h : Heap), YP w h → (K w.params).In h → h.Ns mainGlobals mg → mg d.name = some (.ref fa) →
      ∃ fd : FuncData, (∀ (s : Shared) (us : List Value), us.length = ps.length → BindsTo s fd ⟨us, []⟩ (ps.zip us)) ∧
        ∀ base : Heap, (K w.params).In base → base.Ns mainGlobals mg → (∀ p ∈ cs, LamX.TabB base mg p.1 p.2) → FnOk r.prog w (K w.params) mg base (CX w) k fa fd ps (sp w (K w.params)))
    (hsp : ∀ (w : World) (H : Hp) (xs : List V) (a : Codec.denoteAll r.args), (∀ p ∈ cs, H p.2 = some (.tbl #[])) → Codec.withinAll r.args a = true → Codec.app r.args r.asked a = true → DwAll (K w.params) H xs (Codec.encAll r.args a) →
      sp w (K w.params) xs H (fun v H' => Dw (K w.params) H' v (r.ret.enc (Codec.app r.args r.f a))) fun _ _ _ => False)
    (hCX : ∀ (w : World) (H : Hp) (s : Shared) (e : Value) (s' : Shared), CX w [] H s (fun _ _ _ => False) e s' → False) :
    PySem.W.WalkOS q loose XP YP r d [] (fun f vs => PySem.call f vs) := by
  intro w s₀ s₁ mg mb G Y fa o pm cd doc dV kV ho hd hcd hD hmg hg args vals as hpre hlay hrd hwl hlo
  obtain ⟨a, e1, e2⟩ := PySem.W.os_pre_some hpre
  obtain ⟨e3, hwi⟩ := Codec.encAll_of_decAll r.args args a e1
  subst e3
  have KX := hY w _ Y
  have tabs : ∀ p ∈ cs, PySem.W.CodeHd s₁.heap p.1 p.2 ∧ s₁.heap.get? p.2 = some (PySem.W.tabObj #[]) := fun p hp => by
    obtain ⟨x, e, h1, h2⟩ := hcs p hp
    exact PySem.W.tab_of G.T KX h1 (h2 w.params).1
  obtain ⟨fd, hb, hF⟩ := F w mg fa _ Y KX G.T.g hmg
  refine PySem.W.enter_call (codeAny_mono (spec_callT (R := []) (cl := classAt s₀.heap) (d0 := r.ret.enc (Codec.app r.args r.f a)) KX G.T.g G.T.b G.T.builtins G.T.nolimit hg (fun p hp => (tabs p hp).2) (fun p hp => by
      obtain ⟨x, e, h1, h2⟩ := hcs p hp
      exact (h2 w.params).2) (fun p hp => (tabs p hp).1) G.T.bmain hwl (pl_encAll _ _) (layable_weight hlay) hr hF hb (by rw [encAll_len]; exact hlen)
    (fun H xs hO hS => hsp w H xs a hO hwi e2 hS) fun H e s' => hCX w H s₁ e s') fun r' s' hq => ?_)
  obtain ⟨u, as', rfl, h1, h2, h3, h4⟩ := hq
  exact ⟨.inl ⟨u, _, as', rfl, fun _ => rfl, h1, (OpenSpec.post_iff hwell hwi _ _).mpr rfl, fun z => Bool.noConfusion (show false = true from z)⟩, h2, h3, h4⟩
end St
set_option Elab.async false
set_option linter.all false
set_option maxRecDepth 100000
set_option maxHeartbeats 2000000
/-! W6: plans as rows. -/
namespace St
open PySem PySem.Spec PyProof.Rows L2 NdefX LamX
/-- a row of decisions, as values -/
def nats (d : List Nat) : List V := d.map fun (x : Nat) => V.int x
theorem nats_len (d : List Nat) : (nats d).length = d.length := List.length_map _
theorem nats_get {d : List Nat} {i x : Nat} (h : d[i]? = some x) : (nats d)[i]? = some (V.int x) := by
  unfold nats
  rw [List.getElem?_map, h]
  rfl
/-- at a a list of the lists rs, which hold the rows t -/
structure RowsAt (H : Hp) (a : Addr) (rs : List Addr) (t : List (List Nat)) : Prop where
  at_ : H a = some (.lst (rs.map V.ref))
  len : rs.length = t.length
  row : ∀ (i : Nat) (r : Addr), rs[i]? = some r → ∃ d : List Nat, t[i]? = some d ∧ H r = some (.lst (nats d))
  nd : rs.Nodup
  ne : a ∉ rs
/-- .. all of them new -/
structure NewRows (H H' : Hp) (a : Addr) (rs : List Addr) (t : List (List Nat)) : Prop where
  at_ : RowsAt H' a rs t
  fresh : H a = Option.none
  free : ∀ r, r ∈ rs → H r = Option.none
theorem take_snoc {α : Type} : ∀ {l : List α} {i : Nat} {x : α}, l[i]? = some x → l.take (i + 1) = l.take i ++ [x]
  | [], i, x, h => by simp at h
  | a :: l, 0, x, h => by
    have e : a = x := Option.some.inj h
    subst e
    rfl
  | a :: l, i + 1, x, h => by
    show a :: l.take (i + 1) = a :: l.take i ++ [x]
    rw [take_snoc (show l[i]? = some x from h)]
    rfl
/-- a new row is laid and put at the end -/
theorem RowsAt.snoc {H : Hp} {a D : Addr} {rs : List Addr} {t : List (List Nat)} {d : List Nat} (R : RowsAt H a rs t) (hD : H D = Option.none) : RowsAt (upd (upd H D (.lst (nats d))) a (.lst (rs.map V.ref ++ [V.ref D]))) a (rs ++ [D]) (t ++ [d]) := by
  have aD : a ≠ D := ne_of_none R.at_ hD
  have hDr : D ∉ rs := fun z => by
    obtain ⟨q, hq⟩ := List.mem_iff_getElem?.mp z
    obtain ⟨d, _, hd⟩ := R.row q D hq
    rw [hd] at hD
    cases hD
  refine ⟨?_, ?_, fun q r e => ?_, ?_, ?_⟩
  · rw [upd_same, List.map_append]
    rfl
  · rw [List.length_append, List.length_append, R.len]
    rfl
  · by_cases hq : q < rs.length
    · rw [List.getElem?_append_left hq] at e
      obtain ⟨d, h1, h2⟩ := R.row q r e
      have hm : r ∈ rs := List.mem_of_getElem? e
      refine ⟨d, ?_, ?_⟩
      · rw [List.getElem?_append_left (by rw [← R.len]; exact hq)]
        exact h1
      · rw [upd_ne (fun z => R.ne (by rw [← z]; exact hm)), upd_ne (fun z => hDr (by rw [← z]; exact hm))]
        exact h2
    · rw [List.getElem?_append_right (by omega)] at e
      have e2 : q = rs.length := by
        have := (List.getElem?_eq_some_iff.mp e).1
        have h1 : ([D] : List Addr).length = 1 := rfl
        omega
      subst e2
      rw [Nat.sub_self] at e
      have e3 : D = r := Option.some.inj e
      subst e3
      refine ⟨d, ?_, ?_⟩
      · rw [R.len, List.getElem?_append_right (Nat.le_refl _), Nat.sub_self]
        rfl
      · rw [upd_ne aD.symm, upd_same]
  · rw [List.nodup_append]
    refine ⟨R.nd, List.nodup_cons.mpr ⟨by simp, List.nodup_nil⟩, fun x hx y hy => ?_⟩
    have : y = D := by simpa using hy
    subst this
    exact fun z => hDr (by rw [← z]; exact hx)
  · rw [List.mem_append]
    exact fun z => z.elim R.ne fun z => aD (by simpa using z)
/-- the rows of a rule -/
def table (h : Nat) (g : Nat → Nat → Nat) : List (List Nat) := (List.range (h + 1)).map fun n => (List.range (n + 1)).map fun s => g n s
theorem table_get {h : Nat} {g : Nat → Nat → Nat} {n : Nat} (hn : n ≤ h) : (table h g)[n]? = some ((List.range (n + 1)).map fun s => g n s) := by
  unfold table
  rw [List.getElem?_map, List.getElem?_range (by omega)]
  rfl
/-- what a rule's function promises -/
def spc (g : Nat → Nat → Nat) (h : Nat) : Sp := fun vs H Q _ => ∃ n s : Nat, vs = [.int n, .int s] ∧ n ≤ h ∧ s ≤ n ∧ Q (.int (g n s)) H
section
variable {P : Program} {w : World} {K : PySem.W.Frag} {mg : Str → Option Value} {base : Heap}
def sp_rows_by (P : Program) (w : World) (K : PySem.W.Frag) (mg : Str → Option Value) (base : Heap) : Sp := fun vs H Q _ => ∃ (h : Nat) (f : Addr) (g : Nat → Nat → Nat) (G : Hp → Prop), vs = [.int h, .ref f] ∧ h ≤ 20 ∧ G H ∧ (∀ H1 H2, G H1 → Same H1 H2 → G H2) ∧
  CloOk P w K mg base 2 f G (spc g h) ∧ ∀ H' a rs, Same H H' → NewRows H H' a rs (table h g) → Q (.ref a) H'
theorem c_rows_by (gl : Glb mg) (F : DefB K mg "rows_by" s_rows_by ["horizon", "decide"]) : Cal0 P w K mg base 3 "rows_by" (sp_rows_by P w K mg base) := by
  obtain ⟨fa, fd, F, b⟩ := F.ex
  refine C8.cal0 F b .nil (C8.fnScope_by (N := ["horizon", "decide", "rows", "n", "s"]) (by decide +kernel)) (fun vs H Q E h => ?_) (fun cdv A outer s H vs Q E hr h => ?_)
  · obtain ⟨_, _, _, _, rfl, _⟩ := h
    rfl
  · obtain ⟨h, f, g, G, rfl, hh, hG, mono, clo, k⟩ := h
    have nd : (["horizon", "decide", "rows", "n", "s"] : List Str).Nodup := by decide +kernel
    refine ⟨_, pss_cons (ps_set (i := 2) nd rfl (.inl rfl) (pe_lst pa_nil))
      (pss_cons (ps_for PassesOwn.never rfl (pi_range1 rfl gl.range (pa_cons (pe_op op_add (pv 0) pe_int) pa_nil)) (pg_name (i := 3) nd rfl (.inr rfl))
        (pss_one (ps_expr (pe_bm PySem.F.plainAttrs_list PySem.F.slot_list_append PySem.F.type_list_append mt_append (pv 2)
          (pa_cons (pe_lc (own := [("s", 4)]) (g := gName 4) (tt := tYes) rfl nd (pi_range1 rfl gl.range (pa_cons (pe_op op_add (pv 3) pe_int) pa_nil)) (blkOk_by (N := ["horizon", "decide", "rows", "n", "s"]) (sc := C8.fnScope s_rows_by) (by decide +kernel))
            (fun _ _ _ _ _ => pg_name (i := 4) nd rfl (.inl rfl)) (fun _ _ _ _ _ => pts_nil) (fun _ _ _ _ _ => pe_clo (P := P) (w := w) (K := K) (mg := mg) (base := base) rfl rfl rfl rfl rfl (i := 1) (k := 2) hr (by decide) rfl (by first | exact Or.inl rfl | exact Or.inr (Or.inl rfl) | exact Or.inr (Or.inr rfl)) (pa_cons (pv 3) (pa_cons (pv 4) pa_nil)))) pa_nil)))))
      (pss_one (ps_ret (pv 2)))), ?_⟩
    refine ⟨Nat.zero_le _, fun l hl => ?_⟩
    refine ⟨_, rfl, _, _, rfl, rfl, _, rfl, by omega, by omega, for_range (lo := 0) (n := h + 1) (fun i σ H' => ∃ v3 rs, σ = [some (.int h), some (.ref f), some (.ref l), v3, none] ∧ Same H H' ∧ RowsAt H' l rs ((table h g).take i) ∧ ∀ r, r ∈ rs → H r = Option.none)
      ⟨none, [], rfl, same_upd hl, ⟨upd_same, rfl, fun i r e => by simp at e, List.nodup_nil, by simp⟩, fun r hr => absurd hr (by simp)⟩ ?_ ?_⟩
    · rintro i σ H1 hi ⟨v3, rs, rfl, s1, R, fr⟩
      have e0 : (0 + (i : Int)) = (i : Int) := Int.zero_add _
      rw [e0]
      have hz := sizeLine_eq
      refine ⟨_, rfl, .inl ⟨rfl, _, SqL.of R.at_⟩, _, rfl, _, _, rfl, rfl, _, rfl, by omega, by omega, fun D hD => lc_range (lo := 0) (n := i + 1) (fun j H2 => H2 = upd H1 D (.lst (nats ((List.range j).map (g i))))) rfl ?_ ?_⟩
      · rintro j H2 hj rfl
        have e1 : (0 + (j : Int)) = (j : Int) := Int.zero_add _
        rw [e1]
        have gg : G (upd H1 D (.lst (nats ((List.range j).map (g i))))) := mono _ _ (mono _ _ hG s1) (same_upd hD)
        refine ⟨rfl, f, G, spc g h, rfl, clo, gg, _, rfl, _, rfl, gg, i, j, rfl, by omega, by omega, _, upd_same, ?_, ?_⟩
        · rw [nats_len, List.length_map, List.length_range]
          omega
        · rw [upd_upd, List.range_succ, List.map_append]
          unfold nats
          rw [List.map_append]
          rfl
      · rintro H2 rfl
        have lD : l ≠ D := ne_of_none R.at_ hD
        have lenR : rs.length = i := by
          rw [R.len, List.length_take]
          unfold table
          rw [List.length_map, List.length_range]
          omega
        refine ⟨l, _, _, rfl, rfl, (upd_ne lD).trans R.at_, ?_, ?_⟩
        · rw [List.length_map, lenR]
          omega
        · have e2 : (table h g).take (i + 1) = (table h g).take i ++ [(List.range (i + 1)).map (g i)] := take_snoc (table_get (by omega))
          refine ⟨_, rs ++ [D], rfl, fun b o e => ?_, ?_, fun r hr => ?_⟩
          · rw [upd_ne (ne_of_none e hl)]
            exact same_upd hD _ _ (s1 _ _ e)
          · rw [e2]
            exact R.snoc hD
          · rcases List.mem_append.mp hr with z | z
            · exact fr r z
            · have : r = D := by simpa using z
              subst this
              exact s1.free hD
    · rintro σ H1 ⟨v3, rs, rfl, s1, R, fr⟩
      refine ⟨_, rfl, ?_⟩
      have e : (table h g).take (h + 1) = table h g := List.take_of_length_le (by unfold table; rw [List.length_map, List.length_range]; omega)
      rw [e] at R
      exact k H1 l rs s1 ⟨R, hl, fr⟩
end
end St
set_option Elab.async false
set_option linter.all false
set_option maxRecDepth 100000
set_option maxHeartbeats 2000000
/-! W7: the makers of plans: a rule within, handed to rows_by. -/
namespace St
open PySem PySem.Spec PyProof.Rows L2 NdefX LamX
/-- what stood stands, but the tables of code objects, and these tell the same -/
structure Kp (T : List NTab) (H H' : Hp) : Prop where
  ext : ExtN H H'
  tab : TabsN T H → TabsN T H'
  non : ∀ b, H' b = Option.none → H b = Option.none
theorem Kp.refl (T : List NTab) (H : Hp) : Kp T H H := ⟨ExtN.refl H, id, fun _ h => h⟩
theorem Kp.trans {T : List NTab} {H H1 H2 : Hp} (a : Kp T H H1) (b : Kp T H1 H2) : Kp T H H2 := ⟨a.ext.trans b.ext, fun h => b.tab (a.tab h), fun c h => a.non c (b.non c h)⟩
theorem Kp.of {T : List NTab} {H H' : Hp} (s : Same H H') : Kp T H H' := ⟨fun b o e _ => s b o e, fun h => h.ext s, fun b h => s.free h⟩
theorem Kp.lst {T : List NTab} {H H' : Hp} (k : Kp T H H') {a : Addr} {xs : List V} (e : H a = some (.lst xs)) : H' a = some (.lst xs) := k.ext _ _ e fun _ z => by cases z
theorem Kp.tup {T : List NTab} {H H' : Hp} (k : Kp T H H') {a : Addr} {xs : List V} (e : H a = some (.tup xs)) : H' a = some (.tup xs) := k.ext _ _ e fun _ z => by cases z
theorem Kp.ins {T : List NTab} {H H' : Hp} (k : Kp T H H') {a C dx : Addr} {fs : List (Str × V)} (e : H a = some (.ins C dx fs)) : H' a = some (.ins C dx fs) := k.ext _ _ e fun _ z => by cases z
theorem Kp.seq {T : List NTab} {K : PySem.W.Frag} {H H' : Hp} {a : Addr} {xs : List V} (k : Kp T H H') (h : SqL K H a xs) : SqL K H' a xs := by
  rcases h with (h | ⟨o, h⟩) | h
  · exact .inl (.inl (k.lst h))
  · exact .inl (.inr ⟨o, k.ext _ _ h fun _ z => by cases z⟩)
  · exact .inr h
theorem Kp.rows {T : List NTab} {H H' : Hp} {a : Addr} {rs : List Addr} {t : List (List Nat)} (k : Kp T H H') (R : RowsAt H a rs t) : RowsAt H' a rs t :=
  ⟨k.lst R.at_, R.len, fun i r e => let ⟨d, h1, h2⟩ := R.row i r e; ⟨d, h1, k.lst h2⟩, R.nd, R.ne⟩
/-- behind the call that was handed a nested def -/
theorem after_clo {T : List NTab} {H H1 L H' : Hp} {a : Addr} {rs : List Addr} {t : List (List Nat)} (k : Kp T H H1) (dis : ∀ b o, L b = some o → H1 b = Option.none) (s : Same (over L H1) H') (N : NewRows (over L H1) H' a rs t) :
    Kp T H (under L H') ∧ NewRows H (under L H') a rs t := by
  have noL : ∀ b, over L H1 b = Option.none → L b = Option.none ∧ H1 b = Option.none := fun b h => by
    cases e : L b with
    | none => exact ⟨rfl, by rw [over_none e] at h; exact h⟩
    | some o => rw [over_some e] at h; cases h
  have s1 : Same H1 (under L H') := fun b o e => by
    cases l : L b with
    | some q => rw [dis b q l] at e; cases e
    | none =>
      rw [under_none l]
      exact s b o (by rw [over_none l]; exact e)
  refine ⟨k.trans (Kp.of s1), ⟨⟨?_, N.at_.len, fun i r e => ?_, N.at_.nd, N.at_.ne⟩, ?_, fun r hr => ?_⟩⟩
  · rw [under_none (noL a N.fresh).1]
    exact N.at_.at_
  · obtain ⟨d, h1, h2⟩ := N.at_.row i r e
    refine ⟨d, h1, ?_⟩
    rw [under_none (noL r (N.free r (List.mem_of_getElem? e))).1]
    exact h2
  · exact k.non a (noL a N.fresh).2
  · exact k.non r (noL r (N.free r hr)).2
/-- the makers' last step: a nested def F is handed to rows_by -/
theorem made {P : Program} {w : World} {K : PySem.W.Frag} {mg : Str → Option Value} {base : Heap} {T : List NTab} {H H1 L : Hp} {fn : Addr} {F : NF} {ps fr : List Str} {wv : List V} {h : Nat} {g : Nat → Nat → Nat} {nsp : List (Option V) → Sp} {Q : VK} (hh : h ≤ 20) (k1 : Kp T H H1)
    (f1 : H1 fn = some (FnO fn F)) (cc1 : H1 F.c = some (CodeO F.c F.qual)) (Fn : NOk P w K mg base C8.CX0 2 fn F ps fr nsp) (C : CellsT F.cl fr wv L) (dis : ∀ b o, L b = some o → H1 b = Option.none)
    (hsp : ∀ (H2 : Hp) (n s : Nat) (Q2 : VK), Same H1 H2 → n ≤ h → s ≤ n → Q2 (.int (g n s)) H2 → nsp (wv.map some) [.int n, .int s] H2 Q2 (fun _ _ _ => False))
    (k : ∀ H' a rs, Kp T H H' → NewRows H H' a rs (table h g) → Q (.ref a) H') : sp_rows_by P w K mg base [.int h, .ref fn] (over L H1) (fun v H' => Q v (under L H')) (fun _ _ _ => False) := by
  have up : ∀ b o, H1 b = some o → over L H1 b = some o := fun b o e => by
    cases lb : L b with
    | none => rw [over_none lb]; exact e
    | some q => rw [dis b q lb] at e; cases e
  have kept : ∀ H2, Same (over L H1) H2 → Kept fn F L H2 := fun H2 s => ⟨s _ _ (up _ _ f1), s _ _ (up _ _ cc1), fun b o e => s _ _ (over_some e)⟩
  refine ⟨h, fn, g, Same (over L H1), rfl, hh, Same.refl _, fun H2 H3 a b => a.trans b, clo_of Fn C kept (fun b o e => ⟨fun z => ?_, fun z => ?_⟩) fun vs H2 Q2 s hs => ?_, fun H2 a rs s N => ?_⟩
  · have := dis b o e
    rw [z, f1] at this
    cases this
  · have := dis b o e
    rw [z] at this
    have q := this.symm.trans cc1
    cases q
  · obtain ⟨n, s', rfl, hn, hs, q⟩ := hs
    refine hsp (under L H2) n s' _ (fun b o e => ?_) hn hs ?_
    · cases lb : L b with
      | none =>
        rw [under_none lb]
        exact s b o (up b o e)
      | some q => rw [dis b q lb] at e; cases e
    · show Q2 (.int (g n s')) (over L (under L H2))
      rw [over_under (kept H2 s).2.2]
      exact q
  · obtain ⟨k2, N1⟩ := after_clo k1 dis s N
    exact k _ a rs k2 N1
/-- a def of the top whose code object is the one at c -/
structure DefT (K : PySem.W.Frag) (mg : Str → Option Value) (x : Str) (st : Stmt) (ps : List Str) (c : Addr) : Prop where
  ex : ∃ (f : Addr) (fd : FuncData) (oc : Value) (od : Option Addr) (dV kV doc pm : Value) (an : Option Addr) (ct : Value) (osl : Array (Option Value)), fd = PySem.W.fnOf x x (C8.fnArgs st) (C8.fnBody st) (C8.fnScope st) dV kV doc pm an (.ref c) ct ∧
    K.lookup f = some ⟨oc, od, .func fd, osl⟩ ∧ PySem.W.codeIn K (.ref c) x = true ∧ mg x = some (.ref f) ∧ PySem.W.keepIn K (.ref f) = true ∧ Binds K fd ps []
theorem clo_in {cells : List (Str × Addr)} {sc : Scope} {fr : List Str} (h : (sc.names.all fun y => !decide (y.2 = .free) || decide (y.1 ∈ fr)) = true) : ∀ y c, (cloFrom cells sc.names []).lookup y = some c → y ∈ fr := fun y c e => by
  rcases cloFrom_mem (PySem.mem_of_lookup e) with hm | ⟨h1, _⟩
  · cases hm
  · have := List.all_eq_true.mp h _ h1
    simpa using this
theorem intN {a b : Nat} (h : V.int (a : Int) = V.int (b : Int)) : a = b := Int.ofNat.inj (V.int.inj h)
def posOf : Stmt → Pos
  | .FunctionDef (pos := p) .. => p
  | _ => ⟨0, 0, 0, 0⟩
/-- the nested statement -/
def inner (st : Stmt) (j : Nat) : Stmt := (C8.fnBody st).getD j (.Pass ⟨0, 0, 0, 0⟩)
section
variable {P : Program} {w : World} {K : PySem.W.Frag} {mg : Str → Option Value} {base : Heap}
def sp_last_decision : Sp := fun vs H Q _ => ∃ s l : Nat, vs = [.int s, .int l] ∧ Q (.int (if l < s then 2 else 1 : Nat)) H
theorem c_last_decision (gl : Glb mg) (F : DefB K mg "last_decision" s_last_decision ["s", "limit"]) : Cal0 P w K mg base 1 "last_decision" sp_last_decision := by
  obtain ⟨fa, fd, F, b⟩ := F.ex
  refine C8.cal0 F b .nil (C8.fnScope_by (N := ["s", "limit"]) (by decide +kernel)) (fun vs H Q E h => ?_) (fun cdv A outer s H vs Q E hr h => ?_)
  · obtain ⟨_, _, rfl, _⟩ := h
    rfl
  · obtain ⟨s, l, rfl, k⟩ := h
    refine ⟨_, pss_one (ps_ret (pe_ifExp (pt_cmpR op_gt (pv 0) (pv 1) (nomark _)) (C8.pe_gc rfl gl.REJECT) (C8.pe_gc rfl gl.ACCEPT))), ?_⟩
    refine ⟨_, rfl, _, rfl, _, _, rfl, rfl, _, rfl, ?_⟩
    by_cases h : l < s
    · rw [decide_eq_true (show (l : Int) < (s : Int) by omega)]
      rw [if_pos h] at k
      exact iteT k
    · rw [decide_eq_false (show ¬ (l : Int) < (s : Int) by omega)]
      rw [if_neg h] at k
      exact iteF k
abbrev s_single_in : Stmt := inner s_single_rows 0
def ns_single : List (Option V) → Sp := fun ws vs H Q _ => ∃ h l n s : Nat, ws = [some (.int h), some (.int l)] ∧ vs = [.int n, .int s] ∧ n ≤ h ∧ Q (.int (Kxd7.singleRule h l n s)) H
theorem n_single (gl : Glb mg) (c1 : Cal0 P w K mg base 1 "last_decision" sp_last_decision) {f c : Addr} {q : Str} {cl : List (Str × Addr)} : NOk P w K mg base C8.CX0 2 f (NF.of s_single_in "decide" q cl c) ["n", "s"] ["horizon", "limit"] ns_single := by
  have S : NScope ["n", "s", "horizon", "limit"] ["n", "s"] ["horizon", "limit"] (C8.fnScope s_single_in) := nscope_by (by decide +kernel)
  refine nok_of S (fun doc pm ctv us hl => match us, hl with | [_, _], _ => rfl) (fun ws vs H Q E h => ?_) fun A outer s H vs ws Q E hr hf hc hw h => ?_
  · obtain ⟨_, _, _, _, _, rfl, _⟩ := h
    rfl
  · obtain ⟨h, l, n, s, rfl, rfl, hn, k⟩ := h
    refine ⟨_, pss_one (ps_ret (pe_ifExp (pt_cmpR op_eq (pv 0) (pv 2) (nomark _)) (C8.pe_c c1 hr (by decide) rfl (pa_cons (pv 1) (pa_cons (pv 3) pa_nil))) (C8.pe_gc rfl gl.GO_ON))), ?_⟩
    refine ⟨_, rfl, _, rfl, rfl, _, rfl, ?_⟩
    by_cases e : n = h
    · subst e
      rw [decide_eq_true rfl]
      refine iteT ⟨_, rfl, _, rfl, s, l, rfl, ?_⟩
      unfold Kxd7.singleRule at k
      rw [if_neg (Nat.lt_irrefl _)] at k
      exact k
    · rw [decide_eq_false (show ¬ V.int (n : Int) = V.int (h : Int) from fun z => e (intN z))]
      refine iteF ?_
      unfold Kxd7.singleRule at k
      rw [if_pos (by omega)] at k
      exact k
def nm_single : Nat → Nat → Str := fun _ _ => "single_rows.<locals>.decide"
def sp_single_rows (T : List NTab) : Sp := fun vs H Q _ => ∃ h l : Nat, vs = [.int h, .int l] ∧ h ≤ 20 ∧ TabsN T H ∧ ∀ H' a rs, Kp T H H' → NewRows H H' a rs (table h (Kxd7.singleRule h l)) → Q (.ref a) H'
theorem c_single_rows {T : List NTab} {c tb : Addr} (gl : Glb mg) (F : DefT K mg "single_rows" s_single_rows ["horizon", "limit"] c) (TB : TabB base mg c tb) (hm : (tb, nm_single) ∈ T) (hu : ∀ p ∈ T, p.1 = tb → p.2 = nm_single)
    (c1 : Cal0 P w K mg base 1 "last_decision" sp_last_decision) (c2 : Cal0 P w K mg base 3 "rows_by" (sp_rows_by P w K mg base)) : Cal0 P w K mg base 4 "single_rows" (sp_single_rows T) := by
  obtain ⟨f, fd, oc, od, dV, kV, doc, pm, an, ct, osl, rfl, lk, hcd, mgf, kp, b⟩ := F.ex
  refine ⟨f, _, ["horizon", "limit"], [], fn_of lk hcd (C8.fnScope_by (N := ["horizon", "limit", "decide"]) (by decide +kernel)) (fun vs H Q E h => ?_) fun A outer s H vs Q E hr h => ?_, mgf, kp, b, .nil⟩
  · obtain ⟨_, _, rfl, _⟩ := h
    rfl
  · obtain ⟨h, l, rfl, hh, hT, k⟩ := h
    have nd : (["horizon", "limit", "decide"] : List Str).Nodup := by decide +kernel
    have fb : ndefB (C8.fnScope s_single_rows) (C8.fnScope s_single_in) ["horizon", "limit"] = true := by decide +kernel
    have hst : s_single_in = .FunctionDef "decide" (C8.fnArgs s_single_in) (C8.fnBody s_single_in) [] none [] (C8.fnScope s_single_in) none "decide" (posOf s_single_in) := rfl
    have hfree := ndef_free fb
    have hfr := ndef_fr fb
    refine ⟨_, pss_cons (ps_ndefMS (i := 2) hst TB rfl hm (by rfl) hu hfree rfl rfl rfl nd rfl (.inl rfl) (.inl rfl))
      (pss_one (ps_ret (pe_cw (js := [0, 1]) c2 hr (by decide) rfl (fun ok => Caps.made ok hfree hfr rfl) (fun _ _ => rfl) (clo_in (by decide +kernel)) (by decide +kernel) (pa_cons (pv 0) (pa_cons (pv 2) pa_nil))))), ?_⟩
    refine ⟨hT, fun fn cc H1 eN nn T1 f0 f1 cc1 => ?_⟩
    refine ⟨_, rfl, _, rfl, [.int h, .int l], rfl, fun L C dis => ?_⟩
    exact made hh ⟨eN, fun _ => T1, nn⟩ f1 cc1 (n_single gl c1) C dis (fun H2 n s Q2 _ hn hs q => ⟨h, l, n, s, rfl, rfl, hn, q⟩) k
def sp_new_rows (T : List NTab) : Sp := fun vs H Q _ => ∃ h : Nat, vs = [.int h] ∧ h ≤ 20 ∧ TabsN T H ∧ ∀ H' a rs, Kp T H H' → NewRows H H' a rs (table h (Kxd7.singleRule h h)) → Q (.ref a) H'
theorem c_new_rows {T : List NTab} (F : DefB K mg "new_rows" s_new_rows ["horizon"]) (c1 : Cal0 P w K mg base 4 "single_rows" (sp_single_rows T)) : Cal0 P w K mg base 5 "new_rows" (sp_new_rows T) := by
  obtain ⟨fa, fd, F, b⟩ := F.ex
  refine C8.cal0 F b .nil (C8.fnScope_by (N := ["horizon"]) (by decide +kernel)) (fun vs H Q E h => ?_) (fun cdv A outer s H vs Q E hr h => ?_)
  · obtain ⟨_, rfl, _⟩ := h
    rfl
  · obtain ⟨h, rfl, hh, hT, k⟩ := h
    refine ⟨_, pss_one (ps_ret (C8.pe_c c1 hr (by decide) rfl (pa_cons (pv 0) (pa_cons (pv 0) pa_nil)))), ?_⟩
    exact ⟨_, rfl, _, rfl, h, h, rfl, hh, hT, k⟩
abbrev s_two_stage_in : Stmt := inner s_two_stage_rows 0
def ns_two_stage : List (Option V) → Sp := fun ws vs H Q _ => ∃ h f fl l n s : Nat, ws = [some (.int f), some (.int fl), some (.int h), some (.int l)] ∧ vs = [.int n, .int s] ∧ n ≤ h ∧ f < h ∧ Q (.int (Kxd7.twoStageRule f fl h l n s)) H
theorem n_two_stage (gl : Glb mg) (c1 : Cal0 P w K mg base 1 "last_decision" sp_last_decision) {f c : Addr} {q : Str} {cl : List (Str × Addr)} : NOk P w K mg base C8.CX0 2 f (NF.of s_two_stage_in "decide" q cl c) ["n", "s"] ["first", "first_limit", "horizon", "limit"] ns_two_stage := by
  have S : NScope ["n", "s", "first", "first_limit", "horizon", "limit"] ["n", "s"] ["first", "first_limit", "horizon", "limit"] (C8.fnScope s_two_stage_in) := nscope_by (by decide +kernel)
  refine nok_of S (fun doc pm ctv us hl => match us, hl with | [_, _], _ => rfl) (fun ws vs H Q E h => ?_) fun A outer s H vs ws Q E hr hf hc hw h => ?_
  · obtain ⟨_, _, _, _, _, _, _, rfl, _⟩ := h
    rfl
  · obtain ⟨h, f, fl, l, n, s, rfl, rfl, hn, hfh, k⟩ := h
    refine ⟨_, pss_cons (ps_if (pt_cmpR op_eq (pv 0) (pv 4) (nomark _)) (pss_one (ps_ret (C8.pe_c c1 hr (by decide) rfl (pa_cons (pv 1) (pa_cons (pv 5) pa_nil))))) pss_nil)
      (pss_one (ps_ret (pe_ifExp (PW.pt (pw_and (pt_cmpR op_eq (pv 0) (pv 2) (nomark _)) (pw_and1 (pt_cmpR op_le (pv 1) (pv 3) (nomark _))))) (C8.pe_gc rfl gl.ACCEPT) (C8.pe_gc rfl gl.GO_ON)))), ?_⟩
    refine ⟨_, rfl, _, rfl, rfl, _, rfl, ?_⟩
    unfold Kxd7.twoStageRule at k
    by_cases e : n = h
    · subst e
      rw [decide_eq_true rfl]
      refine iteT ⟨_, rfl, _, rfl, s, l, rfl, ?_⟩
      rw [if_neg (by omega), if_neg (Nat.lt_irrefl _)] at k
      exact k
    · rw [decide_eq_false (show ¬ V.int (n : Int) = V.int (h : Int) from fun z => e (intN z))]
      refine iteF ⟨_, rfl, _, rfl, rfl, _, rfl, ?_⟩
      by_cases e2 : n = f
      · subst e2
        rw [decide_eq_true rfl]
        refine iteT ⟨_, rfl, _, rfl, _, _, rfl, rfl, _, rfl, ?_⟩
        by_cases e3 : s ≤ fl
        · rw [decide_eq_true (show (s : Int) ≤ (fl : Int) by omega)]
          rw [if_pos ⟨rfl, e3⟩] at k
          exact iteT k
        · rw [decide_eq_false (show ¬ (s : Int) ≤ (fl : Int) by omega)]
          rw [if_neg (fun z => e3 z.2), if_pos (by omega)] at k
          exact iteF k
      · rw [decide_eq_false (show ¬ V.int (n : Int) = V.int (f : Int) from fun z => e2 (intN z))]
        rw [if_neg (fun z => e2 z.1), if_pos (by omega)] at k
        exact iteF (iteF k)
def nm_two_stage : Nat → Nat → Str := fun _ _ => "two_stage_rows.<locals>.decide"
def sp_two_stage_rows (T : List NTab) : Sp := fun vs H Q _ => ∃ h f fl l : Nat, vs = [.int h, .int f, .int fl, .int l] ∧ h ≤ 20 ∧ f < h ∧ TabsN T H ∧ ∀ H' a rs, Kp T H H' → NewRows H H' a rs (table h (Kxd7.twoStageRule f fl h l)) → Q (.ref a) H'
theorem c_two_stage_rows {T : List NTab} {c tb : Addr} (gl : Glb mg) (F : DefT K mg "two_stage_rows" s_two_stage_rows ["horizon", "first", "first_limit", "limit"] c) (TB : TabB base mg c tb) (hm : (tb, nm_two_stage) ∈ T) (hu : ∀ p ∈ T, p.1 = tb → p.2 = nm_two_stage)
    (c1 : Cal0 P w K mg base 1 "last_decision" sp_last_decision) (c2 : Cal0 P w K mg base 3 "rows_by" (sp_rows_by P w K mg base)) : Cal0 P w K mg base 4 "two_stage_rows" (sp_two_stage_rows T) := by
  obtain ⟨f, fd, oc, od, dV, kV, doc, pm, an, ct, osl, rfl, lk, hcd, mgf, kp, b⟩ := F.ex
  refine ⟨f, _, ["horizon", "first", "first_limit", "limit"], [], fn_of lk hcd (C8.fnScope_by (N := ["horizon", "first", "first_limit", "limit", "decide"]) (by decide +kernel)) (fun vs H Q E h => ?_) fun A outer s H vs Q E hr h => ?_, mgf, kp, b, .nil⟩
  · obtain ⟨_, _, _, _, rfl, _⟩ := h
    rfl
  · obtain ⟨h, fi, fl, l, rfl, hh, hf, hT, k⟩ := h
    have nd : (["horizon", "first", "first_limit", "limit", "decide"] : List Str).Nodup := by decide +kernel
    have fb : ndefB (C8.fnScope s_two_stage_rows) (C8.fnScope s_two_stage_in) ["first", "first_limit", "horizon", "limit"] = true := by decide +kernel
    have hst : s_two_stage_in = .FunctionDef "decide" (C8.fnArgs s_two_stage_in) (C8.fnBody s_two_stage_in) [] none [] (C8.fnScope s_two_stage_in) none "decide" (posOf s_two_stage_in) := rfl
    have hfree := ndef_free fb
    have hfr := ndef_fr fb
    refine ⟨_, pss_cons (ps_ndefMS (i := 4) hst TB rfl hm (by rfl) hu hfree rfl rfl rfl nd rfl (.inl rfl) (.inl rfl))
      (pss_one (ps_ret (pe_cw (js := [1, 2, 0, 3]) c2 hr (by decide) rfl (fun ok => Caps.made ok hfree hfr rfl) (fun _ _ => rfl) (clo_in (by decide +kernel)) (by decide +kernel) (pa_cons (pv 0) (pa_cons (pv 4) pa_nil))))), ?_⟩
    refine ⟨hT, fun fn cc H1 eN nn T1 f0 f1 cc1 => ?_⟩
    refine ⟨_, rfl, _, rfl, [.int fi, .int fl, .int h, .int l], rfl, fun L C dis => ?_⟩
    exact made hh ⟨eN, fun _ => T1, nn⟩ f1 cc1 (n_two_stage gl c1) C dis (fun H2 n s Q2 _ hn hs q => ⟨h, fi, fl, l, n, s, rfl, rfl, hn, hf, q⟩) k
end
end St
set_option Elab.async false
set_option linter.all false
set_option maxRecDepth 100000
set_option maxHeartbeats 2000000
/-! W8: the plan of likelihood ratios. -/
namespace St
open PySem PySem.Spec PyProof.Rows L2 NdefX LamX
theorem pow_small {x : Int} {s : Nat} (h0 : 0 ≤ x) (hx : x ≤ 1024) (hs : s ≤ 20) : (x ^ s).natAbs < 2 ^ 201 := by
  rw [Int.natAbs_pow]
  have h1 : x.natAbs ≤ 2 ^ 10 := by omega
  have h2 : x.natAbs ^ s ≤ (2 ^ 10) ^ s := Nat.pow_le_pow_left h1 s
  rw [← Nat.pow_mul] at h2
  have h3 : 2 ^ (10 * s) ≤ 2 ^ 200 := Nat.pow_le_pow_right (by decide) (by omega)
  have h4 : 2 ^ 200 < 2 ^ 201 := Nat.pow_lt_pow_right (by decide) (by decide)
  omega
/-- the rule in whole numbers -/
def likeInt (p0 p1 d l ld hi hd : Int) (h n s : Nat) : Nat := if n = 0 then 0 else
  if hi * (p0 ^ s * (d - p0) ^ (n - s)) ≤ p1 ^ s * (d - p1) ^ (n - s) * hd then 2 else
  if p1 ^ s * (d - p1) ^ (n - s) * ld ≤ l * (p0 ^ s * (d - p0) ^ (n - s)) then 1 else if n = h then 1 else 0
section
variable {P : Program} {w : World} {K : PySem.W.Frag} {mg : Str → Option Value} {base : Heap}
abbrev s_likelihood_in : Stmt := inner s_likelihood_rows 6
/-- the ranges -/
structure LikeOk (p0 p1 d l ld hi hd : Int) : Prop where
  a : 0 ≤ p0 ∧ p0 ≤ d
  b : 0 ≤ p1 ∧ p1 ≤ d
  c : d ≤ 1000
  e : IsBound l ld
  f : IsBound hi hd
def ns_like (K : PySem.W.Frag) : List (Option V) → Sp := fun ws vs H Q _ => ∃ (p0 p1 d l ld hi hd : Int) (h n s : Nat) (f0 f1 s0 s1 : Addr), ws = [some (.ref f0), some (.ref f1), some (.int hi), some (.int hd), some (.int h), some (.int l), some (.int ld), some (.ref s0), some (.ref s1)] ∧ vs = [.int n, .int s] ∧ LikeOk p0 p1 d l ld hi hd ∧ h ≤ 20 ∧ n ≤ h ∧ s ≤ n ∧
  SqL K H f0 (pows (d - p0) (h + 1)) ∧ SqL K H f1 (pows (d - p1) (h + 1)) ∧ SqL K H s0 (pows p0 (h + 1)) ∧ SqL K H s1 (pows p1 (h + 1)) ∧ Q (.int (likeInt p0 p1 d l ld hi hd h n s)) H
theorem n_like (gl : Glb mg) {f c : Addr} {q : Str} {cl : List (Str × Addr)} : NOk P w K mg base C8.CX0 2 f (NF.of s_likelihood_in "decide" q cl c) ["n", "s"] ["failure0", "failure1", "high", "high_divisor", "horizon", "low", "low_divisor", "success0", "success1"] (ns_like K) := by
  have S : NScope ["n", "s", "failure0", "failure1", "high", "high_divisor", "horizon", "low", "low_divisor", "success0", "success1", "weight0", "weight1"] ["n", "s"] ["failure0", "failure1", "high", "high_divisor", "horizon", "low", "low_divisor", "success0", "success1"] (C8.fnScope s_likelihood_in) := nscope_by (by decide +kernel)
  refine nok_of S (fun doc pm ctv us hl => match us, hl with | [_, _], _ => rfl) (fun ws vs H Q E h => ?_) fun A outer s H vs ws Q E hr hf hc hw h => ?_
  · obtain ⟨_, _, _, _, _, _, _, _, _, _, _, _, _, _, _, rfl, _⟩ := h
    rfl
  · obtain ⟨p0, p1, d, l, ld, hi, hd, h, n, s, f0, f1, s0, s1, rfl, rfl, ok, hh, hn, hs, e1, e2, e3, e4, k⟩ := h
    have nd := S.nd
    refine ⟨_, pss_cons (ps_if (pt_cmpR op_eq (pv 0) pe_int (nomark _)) (pss_one (ps_ret (C8.pe_gc rfl gl.GO_ON))) pss_nil)
      (pss_cons (ps_set (i := 11) nd rfl (.inl rfl) (pe_op op_mulW (pe_ix ix_list (pv 9) (pv 1) (fun _ _ => rfl)) (pe_ix ix_list (pv 2) (pe_op op_sub (pv 0) (pv 1)) (fun _ _ => rfl))))
      (pss_cons (ps_set (i := 12) nd rfl (.inl rfl) (pe_op op_mulW (pe_ix ix_list (pv 10) (pv 1) (fun _ _ => rfl)) (pe_ix ix_list (pv 3) (pe_op op_sub (pv 0) (pv 1)) (fun _ _ => rfl))))
      (pss_cons (ps_if (pt_cmpR op_ge (pe_op op_mulW (pv 12) (pv 5)) (pe_op op_mulW (pv 4) (pv 11)) (nomark _)) (pss_one (ps_ret (C8.pe_gc rfl gl.REJECT))) pss_nil)
      (pss_cons (ps_if (pt_cmpR op_le (pe_op op_mulW (pv 12) (pv 8)) (pe_op op_mulW (pv 7) (pv 11)) (nomark _)) (pss_one (ps_ret (C8.pe_gc rfl gl.ACCEPT))) pss_nil)
      (pss_one (ps_ret (pe_ifExp (pt_cmpR op_eq (pv 0) (pv 6) (nomark _)) (C8.pe_gc rfl gl.ACCEPT) (C8.pe_gc rfl gl.GO_ON)))))))), ?_⟩
    unfold likeInt at k
    refine ⟨_, rfl, rfl, _, rfl, ?_⟩
    by_cases z : n = 0
    · subst z
      rw [decide_eq_true (show V.int ((0 : Nat) : Int) = V.int 0 from rfl)]
      rw [if_pos rfl] at k
      exact iteT k
    · rw [decide_eq_false (show ¬ V.int (n : Int) = V.int 0 from fun q => z (intN (b := 0) q))]
      rw [if_neg z] at k
      have B : ∀ {x : Int} {t : Nat}, 0 ≤ x ∧ x ≤ d → t ≤ 20 → (x ^ t).natAbs < 2 ^ 201 := fun {x t} hx ht => pow_small hx.1 (by have := ok.c; omega) ht
      have b0 : 0 ≤ d - p0 ∧ d - p0 ≤ d := by have := ok.a; omega
      have b1 : 0 ≤ d - p1 ∧ d - p1 ≤ d := by have := ok.b; omega
      have hns : (n : Int) - (s : Int) = ((n - s : Nat) : Int) := by omega
      have at0 : atI (pows (d - p0) (h + 1)) ((n : Int) - (s : Int)) = some (V.int ((d - p0) ^ (n - s))) := at_of hns (pows_get (by omega))
      have at1 : atI (pows (d - p1) (h + 1)) ((n : Int) - (s : Int)) = some (V.int ((d - p1) ^ (n - s))) := at_of hns (pows_get (by omega))
      have m0 : CMulW (p0 ^ s) ((d - p0) ^ (n - s)) := wide_mul (B ok.a (by omega)) (B b0 (by omega)) (by decide) (by decide) (by decide)
      have m1 : CMulW (p1 ^ s) ((d - p1) ^ (n - s)) := wide_mul (B ok.b (by omega)) (B b1 (by omega)) (by decide) (by decide) (by decide)
      have w0 : (p0 ^ s * (d - p0) ^ (n - s)).natAbs < 2 ^ 402 := wide_lt (B ok.a (by omega)) (B b0 (by omega))
      have w1 : (p1 ^ s * (d - p1) ^ (n - s)).natAbs < 2 ^ 402 := wide_lt (B ok.b (by omega)) (B b1 (by omega))
      have small : ∀ {x : Int}, 0 ≤ x ∧ x ≤ 1000000 → x.natAbs < 2 ^ 20 := fun {x} hx => by
        have : (2 : Nat) ^ 20 = 1048576 := by decide
        omega
      have c1 : CMulW (p1 ^ s * (d - p1) ^ (n - s)) hd := wide_mul w1 (small (x := hd) (by have := ok.f.1; omega)) (by decide) (by decide) (by decide)
      have c2 : CMulW hi (p0 ^ s * (d - p0) ^ (n - s)) := wide_mul (small ok.f.2) w0 (by decide) (by decide) (by decide)
      have c3 : CMulW (p1 ^ s * (d - p1) ^ (n - s)) ld := wide_mul w1 (small (x := ld) (by have := ok.e.1; omega)) (by decide) (by decide) (by decide)
      have c4 : CMulW l (p0 ^ s * (d - p0) ^ (n - s)) := wide_mul (small ok.e.2) w0 (by decide) (by decide) (by decide)
      refine iteF ⟨_, rfl, _, rfl, s0, _, _, _, rfl, rfl, e3, at_of rfl (pows_get (by omega)), _, rfl, _, rfl, _, rfl, _, _, rfl, rfl, f0, _, _, _, rfl, rfl, e1, at0, _, _, rfl, rfl, m0, ?_⟩
      refine ⟨_, rfl, _, rfl, s1, _, _, _, rfl, rfl, e4, at_of rfl (pows_get (by omega)), _, rfl, _, rfl, _, rfl, _, _, rfl, rfl, f1, _, _, _, rfl, rfl, e2, at1, _, _, rfl, rfl, m1, ?_⟩
      refine ⟨_, rfl, _, rfl, _, _, rfl, rfl, c1, _, rfl, _, rfl, _, _, rfl, rfl, c2, _, _, rfl, rfl, _, rfl, ?_⟩
      by_cases h2 : hi * (p0 ^ s * (d - p0) ^ (n - s)) ≤ p1 ^ s * (d - p1) ^ (n - s) * hd
      · rw [decide_eq_true h2]
        rw [if_pos h2] at k
        exact iteT k
      · rw [decide_eq_false h2]
        rw [if_neg h2] at k
        refine iteF ⟨_, rfl, _, rfl, _, _, rfl, rfl, c3, _, rfl, _, rfl, _, _, rfl, rfl, c4, _, _, rfl, rfl, _, rfl, ?_⟩
        by_cases h3 : p1 ^ s * (d - p1) ^ (n - s) * ld ≤ l * (p0 ^ s * (d - p0) ^ (n - s))
        · rw [decide_eq_true h3]
          rw [if_pos h3] at k
          exact iteT k
        · rw [decide_eq_false h3]
          rw [if_neg h3] at k
          refine iteF ⟨_, rfl, _, rfl, rfl, _, rfl, ?_⟩
          by_cases e : n = h
          · subst e
            rw [decide_eq_true rfl]
            rw [if_pos rfl] at k
            exact iteT k
          · rw [decide_eq_false (show ¬ V.int (n : Int) = V.int (h : Int) from fun z => e (intN z))]
            rw [if_neg e] at k
            exact iteF k
def nm_like : Nat → Nat → Str := fun _ _ => "likelihood_rows.<locals>.decide"
def sp_likelihood_rows (K : PySem.W.Frag) (T : List NTab) : Sp := fun vs H Q _ => ∃ (p0 p1 d l ld hi hd : Int) (h : Nat) (ca ba : Addr), vs = [.int h, .ref ca, .ref ba] ∧ SqT K H ca [.int p0, .int p1, .int d] ∧ SqT K H ba [.int l, .int ld, .int hi, .int hd] ∧ LikeOk p0 p1 d l ld hi hd ∧ h ≤ 20 ∧ TabsN T H ∧
  ∀ H' a rs, Kp T H H' → NewRows H H' a rs (table h (likeInt p0 p1 d l ld hi hd h)) → Q (.ref a) H'
theorem same_sqT {K : PySem.W.Frag} {H H' : Hp} {a : Addr} {xs : List V} (e : Same H H') (h : SqT K H a xs) : SqT K H' a xs := by
  rcases h with (h | ⟨o, h⟩) | h
  · exact .inl (.inl (e _ _ h))
  · exact .inl (.inr ⟨o, e _ _ h⟩)
  · exact .inr h
theorem New.same_at {H H1 H2 : Hp} {p : Addr} {o : HO} (n : New H H1 p o) (s : Same H1 H2) : H2 p = some o := s _ _ n.at_
theorem c_likelihood_rows {T : List NTab} {c tb : Addr} (gl : Glb mg) (F : DefT K mg "likelihood_rows" s_likelihood_rows ["horizon", "chances", "bounds"] c) (TB : TabB base mg c tb) (hm : (tb, nm_like) ∈ T) (hu : ∀ p ∈ T, p.1 = tb → p.2 = nm_like)
    (c1 : Cal0 P w K mg base 1 "powers" sp_powers) (c2 : Cal0 P w K mg base 3 "rows_by" (sp_rows_by P w K mg base)) : Cal0 P w K mg base 4 "likelihood_rows" (sp_likelihood_rows K T) := by
  obtain ⟨f, fd, oc, od, dV, kV, doc, pm, an, ct, osl, rfl, lk, hcd, mgf, kp, b⟩ := F.ex
  refine ⟨f, _, ["horizon", "chances", "bounds"], [], fn_of lk hcd (C8.fnScope_by (N := ["horizon", "chances", "bounds", "p0", "p1", "divisor", "decide", "failure0", "failure1", "high", "high_divisor", "low", "low_divisor", "success0", "success1"]) (by decide +kernel)) (fun vs H Q E h => ?_) fun A outer s H vs Q E hr h => ?_, mgf, kp, b, .nil⟩
  · obtain ⟨_, _, _, _, _, _, _, _, _, _, rfl, _⟩ := h
    rfl
  · obtain ⟨p0, p1, d, l, ld, hi, hd, h, ca, ba, rfl, hc, hb, ok, hh, hT, k⟩ := h
    have nd : (["horizon", "chances", "bounds", "p0", "p1", "divisor", "decide", "failure0", "failure1", "high", "high_divisor", "low", "low_divisor", "success0", "success1"] : List Str).Nodup := by decide +kernel
    have fb : ndefB (C8.fnScope s_likelihood_rows) (C8.fnScope s_likelihood_in) ["failure0", "failure1", "high", "high_divisor", "horizon", "low", "low_divisor", "success0", "success1"] = true := by decide +kernel
    have hst : s_likelihood_in = .FunctionDef "decide" (C8.fnArgs s_likelihood_in) (C8.fnBody s_likelihood_in) [] none [] (C8.fnScope s_likelihood_in) none "decide" (posOf s_likelihood_in) := rfl
    have hfree := ndef_free fb
    have hfr := ndef_fr fb
    refine ⟨_, pss_cons (ps_asg (pv 1) (pg_tup rfl (pgs_cons (pg_name (i := 3) nd rfl (.inl rfl)) (pgs_cons (pg_name (i := 4) nd rfl (.inl rfl)) (pgs_cons (pg_name (i := 5) nd rfl (.inl rfl)) pgs_nil)))))
      (pss_cons (ps_asg (pv 2) (pg_tup rfl (pgs_cons (pg_name (i := 11) nd rfl (.inr rfl)) (pgs_cons (pg_name (i := 12) nd rfl (.inr rfl)) (pgs_cons (pg_name (i := 9) nd rfl (.inr rfl)) (pgs_cons (pg_name (i := 10) nd rfl (.inr rfl)) pgs_nil))))))
      (pss_cons (ps_set (i := 13) nd rfl (.inr rfl) (C8.pe_c c1 hr (by decide) rfl (pa_cons (pv 3) (pa_cons (pv 0) pa_nil))))
      (pss_cons (ps_set (i := 14) nd rfl (.inr rfl) (C8.pe_c c1 hr (by decide) rfl (pa_cons (pv 4) (pa_cons (pv 0) pa_nil))))
      (pss_cons (ps_set (i := 7) nd rfl (.inr rfl) (C8.pe_c c1 hr (by decide) rfl (pa_cons (pe_op op_sub (pv 5) (pv 3)) (pa_cons (pv 0) pa_nil))))
      (C8.pss_cut (ps_set (i := 8) nd rfl (.inr rfl) (C8.pe_c c1 hr (by decide) rfl (pa_cons (pe_op op_sub (pv 5) (pv 4)) (pa_cons (pv 0) pa_nil))))
      (pss_cons (ps_ndefMS (i := 6) hst TB rfl hm (by rfl) hu hfree rfl rfl rfl nd rfl (.inl rfl) (.inl rfl))
      (pss_one (ps_ret (pe_cw (js := [7, 8, 9, 10, 0, 11, 12, 13, 14]) c2 hr (by decide) rfl (fun ok => Caps.made ok hfree hfr rfl) (fun _ _ => rfl) (clo_in (by decide +kernel)) (by decide +kernel) (pa_cons (pv 0) (pa_cons (pv 6) pa_nil)))))))))))
      , ?_⟩
    have small : ∀ {x : Int}, 0 ≤ x ∧ x ≤ d → -(2 ^ 64) < x ∧ x < 2 ^ 64 := fun {x} hx => by
      have := ok.c
      omega
    have b0 : 0 ≤ d - p0 ∧ d - p0 ≤ d := by have := ok.a; omega
    have b1 : 0 ≤ d - p1 ∧ d - p1 ≤ d := by have := ok.b; omega
    refine ⟨_, rfl, ca, _, rfl, hc, rfl, _, _, rfl, _, _, rfl, _, _, rfl, rfl, ?_⟩
    refine ⟨_, rfl, ba, _, rfl, hb, rfl, _, _, rfl, _, _, rfl, _, _, rfl, _, _, rfl, rfl, ?_⟩
    refine ⟨_, rfl, _, rfl, p0, h, rfl, small ok.a, by omega, fun H1 s0 N0 => ?_⟩
    refine ⟨_, rfl, _, rfl, p1, h, rfl, small ok.b, by omega, fun H2 s1 N1 => ?_⟩
    refine ⟨_, rfl, _, rfl, _, _, rfl, rfl, _, rfl, d - p0, h, rfl, small b0, by omega, fun H3 f0 N2 => ?_⟩
    refine ⟨fun σ' H4 => ∃ s0 s1 f0 f1 : Addr, σ' = [some (.int h), some (.ref ca), some (.ref ba), some (.int p0), some (.int p1), some (.int d), none, some (.ref f0), some (.ref f1), some (.int hi), some (.int hd), some (.int l), some (.int ld), some (.ref s0), some (.ref s1)] ∧ Same H H4 ∧
      H4 s0 = some (.lst (pows p0 (h + 1))) ∧ H4 s1 = some (.lst (pows p1 (h + 1))) ∧ H4 f0 = some (.lst (pows (d - p0) (h + 1))) ∧ H4 f1 = some (.lst (pows (d - p1) (h + 1))), ?_, ?_⟩
    · refine ⟨_, rfl, _, rfl, _, _, rfl, rfl, _, rfl, d - p1, h, rfl, small b1, by omega, fun H4 f1 N3 => ?_⟩
      exact ⟨s0, s1, f0, f1, rfl, ((N0.same.trans N1.same).trans N2.same).trans N3.same, ((N1.same.trans N2.same).trans N3.same) _ _ N0.at_, (N2.same.trans N3.same) _ _ N1.at_, N3.same _ _ N2.at_, N3.at_⟩
    · rintro σ' H4 ⟨s0, s1, f0, f1, rfl, s4, a1, a2, a3, a4⟩
      have k4 : Kp T H H4 := Kp.of s4
      refine ⟨k4.tab hT, fun fn cc H5 eN nn T1 _ g1 cc1 => ?_⟩
      refine ⟨_, rfl, _, rfl, [.ref f0, .ref f1, .int hi, .int hd, .int h, .int l, .int ld, .ref s0, .ref s1], rfl, fun L C dis => ?_⟩
      have k5 : Kp T H4 H5 := ⟨eN, fun _ => T1, nn⟩
      exact made hh (k4.trans k5) g1 cc1 (n_like gl) C dis (fun H6 n s Q2 s6 hn hs q => ⟨p0, p1, d, l, ld, hi, hd, h, n, s, f0, f1, s0, s1, rfl, rfl, ok, hh, hn, hs, SqL.of (s6 _ _ (k5.lst a3)), SqL.of (s6 _ _ (k5.lst a4)), SqL.of (s6 _ _ (k5.lst a1)), SqL.of (s6 _ _ (k5.lst a2)), q⟩) k
end
end St
set_option Elab.async false
set_option linter.all false
set_option maxRecDepth 100000
set_option maxHeartbeats 2000000
/-! W9: curtailing. -/
namespace St
open PySem PySem.Spec PyProof.Rows L2 NdefX LamX
def cdec (d f s : Nat) : Nat := if d = 0 ∧ f = s then f else d
def curRow (r later : List Nat) : List Nat := (List.range r.length).map fun s => cdec (r.getD s 0) (later.getD s 0) (later.getD (s + 1) 0)
def curT : List (List Nat) → List (List Nat)
  | [] => []
  | [r] => [r]
  | r :: q :: rest => curRow r ((curT (q :: rest)).headD []) :: curT (q :: rest)
theorem curRow_len (r l : List Nat) : (curRow r l).length = r.length := by
  unfold curRow
  rw [List.length_map, List.length_range]
theorem curT_len : ∀ l : List (List Nat), (curT l).length = l.length
  | [] => rfl
  | [_] => rfl
  | r :: q :: rest => by
    show (curT (q :: rest)).length + 1 = _
    rw [curT_len (q :: rest)]
    rfl
theorem curT_head : ∀ {r : List Nat} {rest : List (List Nat)}, ∃ c, (curT (r :: rest))[0]? = some c ∧ (curT (r :: rest)).headD [] = c ∧ c.length = r.length
  | r, [] => ⟨r, rfl, rfl, rfl⟩
  | r, q :: rest => ⟨_, rfl, rfl, curRow_len _ _⟩
theorem curT_step {t : List (List Nat)} {n : Nat} {r : List Nat} (hr : t[n]? = some r) (hn : n + 1 < t.length) : curT (t.drop n) = curRow r ((curT (t.drop (n + 1))).headD []) :: curT (t.drop (n + 1)) := by
  obtain ⟨h1, e1⟩ := List.getElem?_eq_some_iff.mp hr
  rw [List.drop_eq_getElem_cons h1, e1, List.drop_eq_getElem_cons hn]
  rfl
/-- a list that stands is put in front -/
theorem RowsAt.cons {H : Hp} {a D : Addr} {rs : List Addr} {t : List (List Nat)} {d : List Nat} (R : RowsAt H a rs t) (hD : H D = some (.lst (nats d))) (nDr : D ∉ rs) (nDa : D ≠ a) : RowsAt (upd H a (.lst ((D :: rs).map V.ref))) a (D :: rs) (d :: t) := by
  refine ⟨upd_same, ?_, fun q r e => ?_, List.nodup_cons.mpr ⟨nDr, R.nd⟩, ?_⟩
  · rw [List.length_cons, List.length_cons, R.len]
  · cases q with
    | zero =>
      have e3 : D = r := Option.some.inj e
      subst e3
      exact ⟨d, rfl, by rw [upd_ne nDa]; exact hD⟩
    | succ q =>
      have e' : rs[q]? = some r := e
      obtain ⟨d', h1, h2⟩ := R.row q r e'
      refine ⟨d', h1, ?_⟩
      rw [upd_ne (fun z => R.ne (by rw [← z]; exact List.mem_of_getElem? e'))]
      exact h2
  · intro z
    rcases List.mem_cons.mp z with z | z
    · exact nDa z.symm
    · exact R.ne z
theorem RowsAt.same {H H' : Hp} {a : Addr} {rs : List Addr} {t : List (List Nat)} (R : RowsAt H a rs t) (s : Same H H') : RowsAt H' a rs t :=
  ⟨s _ _ R.at_, R.len, fun i r e => let ⟨d, h1, h2⟩ := R.row i r e; ⟨d, h1, s _ _ h2⟩, R.nd, R.ne⟩
theorem RowsAt.get {H : Hp} {a : Addr} {rs : List Addr} {t : List (List Nat)} (R : RowsAt H a rs t) {n : Nat} {d : List Nat} (h : t[n]? = some d) : ∃ r, rs[n]? = some r ∧ (rs.map V.ref)[n]? = some (V.ref r) ∧ H r = some (.lst (nats d)) := by
  have hn : n < rs.length := by rw [R.len]; exact (List.getElem?_eq_some_iff.mp h).1
  obtain ⟨d', h1, h2⟩ := R.row n _ (List.getElem?_eq_getElem hn)
  rw [h] at h1
  cases h1
  exact ⟨_, List.getElem?_eq_getElem hn, by rw [List.getElem?_map, List.getElem?_eq_getElem hn]; rfl, h2⟩
theorem getD_get {l : List Nat} {i : Nat} (h : i < l.length) : l[i]? = some (l.getD i 0) := by
  rw [List.getElem?_eq_getElem h]
  simp [List.getD, h]
theorem atI_end {xs : List V} {v : V} (h : xs[xs.length - 1]? = some v) : atI xs (-1) = some v := by
  have hn : xs ≠ [] := by
    intro e
    subst e
    simp at h
  have e : xs = xs.dropLast ++ [v] := by
    have e1 := (List.dropLast_concat_getLast hn).symm
    have e2 : xs.getLast hn = v := by
      rw [List.getLast_eq_getElem]
      have := (List.getElem?_eq_some_iff.mp h).2
      exact this
    rw [e2] at e1
    exact e1
  rw [e]
  exact atI_last _ _
section
variable {P : Program} {w : World} {K : PySem.W.Frag} {mg : Str → Option Value} {base : Heap}
def sp_curtailed_decision : Sp := fun vs H Q _ => ∃ d f s : Nat, vs = [.int d, .int f, .int s] ∧ Q (.int (cdec d f s : Nat)) H
theorem c_curtailed_decision (gl : Glb mg) (F : DefB K mg "curtailed_decision" s_curtailed_decision ["decision", "failure", "success"]) : Cal0 P w K mg base 1 "curtailed_decision" sp_curtailed_decision := by
  obtain ⟨fa, fd, F, b⟩ := F.ex
  refine C8.cal0 F b .nil (C8.fnScope_by (N := ["decision", "failure", "success"]) (by decide +kernel)) (fun vs H Q E h => ?_) (fun cdv A outer s H vs Q E hr h => ?_)
  · obtain ⟨_, _, _, rfl, _⟩ := h
    rfl
  · obtain ⟨d, f, s, rfl, k⟩ := h
    refine ⟨_, pss_cons (ps_if (PW.pt (pw_and (pt_cmpR op_eq (pv 0) (C8.pe_gc rfl gl.GO_ON) (nomark _)) (pw_and1 (pt_cmpR op_eq (pv 1) (pv 2) (nomark _))))) (pss_one (ps_ret (pv 1))) pss_nil) (pss_one (ps_ret (pv 0))), ?_⟩
    refine ⟨_, rfl, rfl, _, rfl, ?_⟩
    unfold cdec at k
    by_cases h : d = 0
    · subst h
      rw [decide_eq_true (show V.int ((0 : Nat) : Int) = V.int 0 from rfl)]
      refine iteT ⟨_, rfl, _, rfl, rfl, _, rfl, ?_⟩
      by_cases e : f = s
      · subst e
        rw [decide_eq_true rfl]
        rw [if_pos ⟨rfl, rfl⟩] at k
        exact iteT ⟨_, rfl, k⟩
      · rw [decide_eq_false (show ¬ V.int (f : Int) = V.int (s : Int) from fun z => e (intN z))]
        rw [if_neg (fun z => e z.2)] at k
        exact iteF ⟨_, rfl, k⟩
    · rw [decide_eq_false (show ¬ V.int (d : Int) = V.int 0 from fun z => h (intN (b := 0) z))]
      rw [if_neg (fun z => h z.1)] at k
      exact iteF (iteF ⟨_, rfl, k⟩)
/-- the rows have the lengths 1, 2, .. -/
def Tri (t : List (List Nat)) : Prop := ∀ (n : Nat) (r : List Nat), t[n]? = some r → r.length = n + 1
def sp_curtailed_rows : Sp := fun vs H Q _ => ∃ (a : Addr) (rs : List Addr) (t : List (List Nat)) (h : Nat), vs = [.ref a] ∧ RowsAt H a rs t ∧ t.length = h + 1 ∧ h ≤ 20 ∧ Tri t ∧ ∀ H' q rs', Same H H' → NewRows H H' q rs' (curT t) → Q (.ref q) H'
theorem c_curtailed_rows (gl : Glb mg) (F : DefB K mg "curtailed_rows" s_curtailed_rows ["rows"]) (c1 : Cal0 P w K mg base 1 "curtailed_decision" sp_curtailed_decision) : Cal0 P w K mg base 2 "curtailed_rows" sp_curtailed_rows := by
  obtain ⟨fa, fd, F, b⟩ := F.ex
  refine C8.cal0 F b .nil (C8.fnScope_by (N := ["rows", "later", "curtailed", "n", "row", "s", "decision"]) (by decide +kernel)) (fun vs H Q E h => ?_) (fun cdv A outer s H vs Q E hr h => ?_)
  · obtain ⟨_, _, _, _, rfl, _⟩ := h
    rfl
  · obtain ⟨a, rs, t, h, rfl, R, ht, hh, tri, k⟩ := h
    have nd : (["rows", "later", "curtailed", "n", "row", "s", "decision"] : List Str).Nodup := by decide +kernel
    have hz := sizeLine_eq
    refine ⟨_, pss_cons (ps_set (i := 1) nd rfl (.inl rfl) (pe_callTy call_list_of (by rfl) gl.list (by decide +kernel) (pa_cons (pe_ix ix_list (pv 0) (pe_un un_neg pe_int) (fun _ _ => rfl)) pa_nil)))
      (pss_cons (ps_set (i := 2) nd rfl (.inl rfl) (pe_lst (pa_cons (pv 1) pa_nil)))
      (pss_cons (ps_for PassesOwn.never rfl (pi_range3 rfl gl.range (pa_cons (pe_op op_sub (pe_callB call_len_seq (by rfl) gl.len PySem.boot_len (pa_cons (pv 0) pa_nil)) pe_int) (pa_cons (pe_un un_neg pe_int) (pa_cons (pe_un un_neg pe_int) pa_nil)))) (pg_name (i := 3) nd rfl (.inl rfl))
        (pss_cons (ps_set (i := 4) nd rfl (.inl rfl) (pe_lst pa_nil))
        (pss_cons (ps_for PassesOwn.never rfl (pi_enum rfl gl.enumerate (pa_cons (pe_ix ix_list (pv 0) (pv 3) (fun _ _ => rfl)) pa_nil)) (pg_tup rfl (pgs_cons (pg_name (i := 5) nd rfl (.inl rfl)) (pgs_cons (pg_name (i := 6) nd rfl (.inl rfl)) pgs_nil)))
          (pss_one (ps_expr (pe_bm PySem.F.plainAttrs_list PySem.F.slot_list_append PySem.F.type_list_append mt_append (pv 4)
            (pa_cons (C8.pe_c c1 hr (by decide) rfl (pa_cons (pv 6) (pa_cons (pe_ix ix_list (pv 1) (pv 5) (fun _ _ => rfl)) (pa_cons (pe_ix ix_list (pv 1) (pe_op op_add (pv 5) pe_int) (fun _ _ => rfl)) pa_nil)))) pa_nil)))))
        (pss_cons (ps_expr (pe_bm PySem.F.plainAttrs_list PySem.F.slot_list_insert PySem.F.type_list_insert mt_insert (pv 2) (pa_cons pe_int (pa_cons (pv 4) pa_nil))))
        (pss_one (ps_set (i := 1) nd rfl (.inl rfl) (pv 4)))))))
      (pss_one (ps_ret (pv 2))))), ?_⟩
    obtain ⟨dh, hdh⟩ : ∃ d, t[h]? = some d := ⟨_, List.getElem?_eq_getElem (by omega)⟩
    obtain ⟨rh, hrh, hrh2, hrh3⟩ := R.get hdh
    have lenR : (rs.map V.ref).length = h + 1 := by rw [List.length_map, R.len, ht]
    have tri_h := tri h dh hdh
    refine ⟨_, rfl, _, rfl, a, _, _, _, rfl, rfl, SqL.of R.at_, atI_end (by rw [lenR]; exact hrh2), rh, _, rfl, .inl (SqL.of hrh3), fun l hl => ?_⟩
    refine ⟨_, rfl, (by show 1 ≤ sizeLine; decide), fun q hq => ?_⟩
    have lq : l ≠ q := ne_of_none upd_same hq
    have s0 : Same H (upd (upd H l (.lst (nats dh))) q (.lst [.ref l])) := (same_upd hl).trans (same_upd hq)
    have rg : RgC (((rs.map V.ref).length : Int) - 2) (-1) (-1) h := by
      have e : ((((rs.map V.ref).length : Int) - 2) - (-1)).toNat = h := by omega
      have z := RgC.neg (i := ((rs.map V.ref).length : Int) - 2) (j := -1) (by omega) (by omega) (by omega) (by omega)
      rw [e] at z
      exact z
    refine ⟨_, rfl, a, _, rfl, .inl (SqL.of (s0 _ _ R.at_)), _, _, rfl, rfl, _, rfl, _, rfl, _, _, _, h, rfl, rg, for_rangeC (lo := ((rs.map V.ref).length : Int) - 2) (c := -1) (n := h)
      (fun i σ H' => ∃ (la : Addr) (rs' : List Addr) (v3 v4 v5 v6 : Option V), σ = [some (.ref a), some (.ref la), some (.ref q), v3, v4, v5, v6] ∧ Same H H' ∧ RowsAt H' q rs' (curT (t.drop (h - i))) ∧ rs'[0]? = some la ∧ ∀ r, r ∈ rs' → H r = Option.none)
      ⟨l, [l], none, none, none, none, rfl, s0, ?_, rfl, fun r hr => ?_⟩ ?_ ?_⟩
    · have e : t.drop (h - 0) = [dh] := by
        rw [Nat.sub_zero, List.drop_eq_getElem_cons (by omega)]
        have := (List.getElem?_eq_some_iff.mp hdh).2
        rw [this, List.drop_of_length_le (by omega)]
      rw [e]
      refine ⟨upd_same, rfl, fun i r e => ?_, List.nodup_cons.mpr ⟨by simp, List.nodup_nil⟩, by simpa using lq.symm⟩
      cases i with
      | zero =>
        have e3 : l = r := Option.some.inj e
        subst e3
        exact ⟨dh, rfl, by rw [upd_ne lq, upd_same]⟩
      | succ i => simp at e
    · have : r = l := by simpa using hr
      subst this
      exact hl
    · rintro i σ H1 hi ⟨la, rs', v3, v4, v5, v6, rfl, s1, R1, hla, fr⟩
      obtain ⟨n, hn⟩ : ∃ n : Nat, n + 1 = h - i := ⟨h - 1 - i, by omega⟩
      have en : (((rs.map V.ref).length : Int) - 2) + (i : Nat) * (-1) = (n : Int) := by omega
      rw [en]
      obtain ⟨d0, hd0⟩ : ∃ d, t[n]? = some d := ⟨_, List.getElem?_eq_getElem (by omega)⟩
      obtain ⟨r0, hr0, hr02, hr03⟩ := R.get hd0
      have tri0 := tri n d0 hd0
      obtain ⟨d1, hd1⟩ : ∃ d, t[n + 1]? = some d := ⟨_, List.getElem?_eq_getElem (by omega)⟩
      have tri1 := tri (n + 1) d1 hd1
      have ecut : t.drop (h - i) = d1 :: t.drop (n + 2) := by
        rw [← hn, List.drop_eq_getElem_cons (by omega)]
        have := (List.getElem?_eq_some_iff.mp hd1).2
        rw [this]
      obtain ⟨c, hc0, hc1, hc2⟩ := curT_head (r := d1) (rest := t.drop (n + 2))
      rw [← ecut] at hc0 hc1
      have Hla : H1 la = some (.lst (nats c)) := by
        obtain ⟨d', e1, e2⟩ := R1.row 0 la hla
        rw [hc0] at e1
        cases e1
        exact e2
      have Hr0 := s1 _ _ hr03
      refine ⟨Nat.zero_le _, fun D hD => ?_⟩
      have sD : Same H1 (upd H1 D (.lst [])) := same_upd hD
      refine ⟨_, rfl, _, rfl, a, _, _, _, rfl, rfl, SqL.of (sD _ _ (s1 _ _ R.at_)), at_of rfl hr02, r0, _, rfl, SqL.of (sD _ _ Hr0), for_enum (K := K) (a := r0) (xs := nats d0)
        (fun j σ H2 => ∃ v5 v6 : Option V, σ = [some (.ref a), some (.ref la), some (.ref q), some (.int n), some (.ref D), v5, v6] ∧ Same H1 H2 ∧ H2 D = some (.lst (nats ((List.range j).map fun s => cdec (d0.getD s 0) (c.getD s 0) (c.getD (s + 1) 0)))))
        ⟨v5, v6, rfl, sD, upd_same⟩ (fun j σ H2 _ ⟨_, _, _, s2, _⟩ => SqL.of (s2 _ _ Hr0)) ?_ ?_⟩
      · rintro j x σ H2 T hx ⟨v5, v6, rfl, s2, hD2⟩ hT
        have hj : j < d0.length := by
          have := (List.getElem?_eq_some_iff.mp hx).1
          rw [nats_len] at this
          exact this
        have ex : x = V.int (d0.getD j 0 : Nat) := by
          have := nats_get (getD_get hj)
          rw [this] at hx
          exact (Option.some.inj hx).symm
        subst ex
        have sT : Same H2 (upd H2 T (.tup [.int (j : Nat), .int (d0.getD j 0 : Nat)])) := same_upd hT
        have DT : D ≠ T := ne_of_none hD2 hT
        have Hla2 := sT _ _ (s2 _ _ Hla)
        refine ⟨T, _, rfl, SqT.of upd_same, rfl, _, _, rfl, _, _, rfl, rfl, ?_⟩
        refine ⟨_, rfl, .inl ⟨rfl, _, SqL.of (sT _ _ hD2)⟩, _, rfl, _, rfl, _, rfl, la, _, _, _, rfl, rfl, SqL.of Hla2, at_of rfl (nats_get (getD_get (show j < c.length by omega))),
          _, rfl, _, rfl, _, _, rfl, rfl, la, _, _, _, rfl, rfl, SqL.of Hla2, at_of (j := j + 1) (by omega) (nats_get (getD_get (show j + 1 < c.length by omega))), _, _, _, rfl, D, _, _, rfl, rfl, sT _ _ hD2, ?_, ?_⟩
        · rw [nats_len, List.length_map, List.length_range]
          omega
        · refine ⟨_, _, rfl, fun b o e => ?_, ?_⟩
          · rw [upd_ne (ne_of_none e hD)]
            exact sT _ _ (s2 _ _ e)
          · rw [upd_same, List.range_succ, List.map_append]
            unfold nats
            rw [List.map_append]
            rfl
      · rintro σ H2 ⟨v5, v6, rfl, s2, hD2⟩
        rw [nats_len] at hD2
        have hq2 : H2 q = some (.lst (rs'.map V.ref)) := s2 _ _ R1.at_
        have qD : q ≠ D := ne_of_none R1.at_ hD
        refine ⟨_, rfl, .inl ⟨rfl, _, SqL.of hq2⟩, _, rfl, q, _, 0, _, rfl, rfl, hq2, ?_, by decide, by decide, ?_⟩
        · rw [List.length_map, R1.len, curT_len, List.length_drop]
          omega
        · have nDr : D ∉ rs' := fun z => by
            obtain ⟨m, hm⟩ := List.mem_iff_getElem?.mp z
            obtain ⟨d, _, hd⟩ := R1.row m D hm
            rw [hd] at hD
            cases hD
          have R3 := (R1.same s2).cons hD2 nDr qD.symm
          have ed : curT (t.drop n) = curRow d0 c :: curT (t.drop (h - i)) := by
            rw [curT_step hd0 (by omega), hn, hc1]
          refine ⟨_, rfl, D, D :: rs', _, _, _, _, rfl, fun b o e => ?_, ?_, rfl, fun r hr => ?_⟩
          · rw [upd_ne (ne_of_none e ((same_upd hl).free hq))]
            exact s2 _ _ (s1 _ _ e)
          · have e1 : h - (i + 1) = n := by omega
            rw [e1, ed]
            exact R3
          · rcases List.mem_cons.mp hr with z | z
            · rw [z]
              exact s1.free hD
            · exact fr r z
    · rintro σ H1 ⟨la, rs', v3, v4, v5, v6, rfl, s1, R1, hla, fr⟩
      rw [Nat.sub_self, List.drop_zero] at R1
      exact ⟨_, rfl, k H1 q rs' s1 ⟨R1, (same_upd hl).free hq, fr⟩⟩
end
end St
set_option Elab.async false
set_option linter.all false
set_option maxRecDepth 100000
set_option maxHeartbeats 2000000
/-! W10: paths through a plan. -/
namespace St
open PySem PySem.Spec PyProof.Rows L2 NdefX LamX
/-- the next row of counts, as the specification makes it -/
def nextRow (ds cs : List Nat) : List Nat :=
  let o := cs.zipIdx.map fun z => if ds.getD z.2 1 = 0 then z.1 else 0
  List.zipWith (· + ·) (o ++ [0]) (0 :: o)
/-- the count at i, where it goes on and is among the first j -/
def msk (ds cs : List Nat) (j i : Nat) : Nat := if i < j ∧ ds.getD i 1 = 0 then cs.getD i 0 else 0
/-- what stands at i when j points have been gone through -/
def nval (ds cs : List Nat) (j : Nat) : Nat → Nat
  | 0 => msk ds cs j 0
  | i + 1 => msk ds cs j (i + 1) + msk ds cs j i
theorem msk_zero (ds cs : List Nat) (i : Nat) : msk ds cs 0 i = 0 := by
  unfold msk
  exact if_neg (by omega)
theorem msk_skip {ds cs : List Nat} {j : Nat} (h : ds.getD j 1 ≠ 0) (i : Nat) : msk ds cs (j + 1) i = msk ds cs j i := by
  unfold msk
  by_cases e : i = j
  · subst e
    rw [if_neg (fun z => h z.2), if_neg (fun z => h z.2)]
  · by_cases q : i < j ∧ ds.getD i 1 = 0
    · rw [if_pos q, if_pos ⟨by omega, q.2⟩]
    · rw [if_neg q, if_neg (fun z => q ⟨by omega, z.2⟩)]
theorem msk_here {ds cs : List Nat} {j : Nat} (h : ds.getD j 1 = 0) : msk ds cs (j + 1) j = cs.getD j 0 := by
  unfold msk
  exact if_pos ⟨by omega, h⟩
theorem msk_self (ds cs : List Nat) (j : Nat) : msk ds cs j j = 0 := by
  unfold msk
  exact if_neg (by omega)
theorem msk_above {ds cs : List Nat} {j i : Nat} (h : j ≤ i) : msk ds cs j i = 0 := by
  unfold msk
  exact if_neg (by omega)
theorem msk_other {ds cs : List Nat} {j i : Nat} (e : i ≠ j) : msk ds cs (j + 1) i = msk ds cs j i := by
  unfold msk
  by_cases q : i < j ∧ ds.getD i 1 = 0
  · rw [if_pos q, if_pos ⟨by omega, q.2⟩]
  · rw [if_neg q, if_neg (fun z => q ⟨by omega, z.2⟩)]
theorem msk_full {ds cs : List Nat} {i : Nat} (h : i < cs.length) : msk ds cs cs.length i = if ds.getD i 1 = 0 then cs.getD i 0 else 0 := by
  unfold msk
  by_cases e : ds.getD i 1 = 0
  · rw [if_pos ⟨h, e⟩, if_pos e]
  · rw [if_neg (fun z => e z.2), if_neg e]
def nrow (ds cs : List Nat) (m j : Nat) : List Nat := (List.range m).map (nval ds cs j)
theorem nrow_len (ds cs : List Nat) (m j : Nat) : (nrow ds cs m j).length = m := by
  unfold nrow
  rw [List.length_map, List.length_range]
theorem nrow_get {ds cs : List Nat} {m j i : Nat} (h : i < m) : (nrow ds cs m j)[i]? = some (nval ds cs j i) := by
  unfold nrow
  rw [List.getElem?_map, List.getElem?_range h]
  rfl
theorem nrow_zero (ds cs : List Nat) (m : Nat) : nrow ds cs m 0 = List.replicate m 0 := by
  refine List.ext_getElem? fun i => ?_
  by_cases h : i < m
  · rw [nrow_get h, List.getElem?_replicate, if_pos h]
    cases i with
    | zero => exact congrArg some (msk_zero ds cs 0)
    | succ i =>
      show some (msk ds cs 0 (i + 1) + msk ds cs 0 i) = _
      rw [msk_zero, msk_zero]
  · rw [List.getElem?_eq_none (by rw [nrow_len]; omega), List.getElem?_eq_none (by rw [List.length_replicate]; omega)]
theorem nrow_skip {ds cs : List Nat} {m j : Nat} (h : ds.getD j 1 ≠ 0) : nrow ds cs m (j + 1) = nrow ds cs m j := by
  unfold nrow
  refine List.map_congr_left fun i _ => ?_
  cases i with
  | zero => exact msk_skip h 0
  | succ i =>
    show msk ds cs (j + 1) (i + 1) + msk ds cs (j + 1) i = msk ds cs j (i + 1) + msk ds cs j i
    rw [msk_skip h, msk_skip h]
theorem nrow_step {ds cs : List Nat} {m j : Nat} (h : ds.getD j 1 = 0) (hj : j + 1 < m) :
    nrow ds cs m (j + 1) = ((nrow ds cs m j).set j (nval ds cs j j + cs.getD j 0)).set (j + 1) (nval ds cs j (j + 1) + cs.getD j 0) := by
  refine List.ext_getElem? fun i => ?_
  by_cases hi : i < m
  · rw [nrow_get hi]
    by_cases e1 : j + 1 = i
    · subst e1
      rw [List.getElem?_set_self (by rw [List.length_set, nrow_len]; exact hi)]
      show some (msk ds cs (j + 1) (j + 1) + msk ds cs (j + 1) j) = some (msk ds cs j (j + 1) + msk ds cs j j + cs.getD j 0)
      rw [msk_self, msk_here h, msk_above (by omega), msk_self]
    · rw [List.getElem?_set_ne e1]
      by_cases e2 : j = i
      · subst e2
        rw [List.getElem?_set_self (by rw [nrow_len]; exact hi)]
        cases j with
        | zero =>
          show some (msk ds cs 1 0) = some (msk ds cs 0 0 + cs.getD 0 0)
          rw [msk_here h, msk_self, Nat.zero_add]
        | succ j =>
          show some (msk ds cs (j + 1 + 1) (j + 1) + msk ds cs (j + 1 + 1) j) = some (msk ds cs (j + 1) (j + 1) + msk ds cs (j + 1) j + cs.getD (j + 1) 0)
          rw [msk_here h, msk_self, msk_other (by omega : j ≠ j + 1), Nat.zero_add, Nat.add_comm]
      · rw [List.getElem?_set_ne e2, nrow_get hi]
        congr 1
        cases i with
        | zero => exact msk_other (by omega)
        | succ i =>
          show msk ds cs (j + 1) (i + 1) + msk ds cs (j + 1) i = msk ds cs j (i + 1) + msk ds cs j i
          rw [msk_other (by omega), msk_other (by omega)]
  · rw [List.getElem?_eq_none (by rw [nrow_len]; omega), List.getElem?_eq_none (by rw [List.length_set, List.length_set, nrow_len]; omega)]
theorem mask_get {ds cs : List Nat} {i : Nat} (h : i < cs.length) : (cs.zipIdx.map fun z => if ds.getD z.2 1 = 0 then z.1 else 0)[i]? = some (msk ds cs cs.length i) := by
  rw [List.getElem?_map, List.getElem?_zipIdx, List.getElem?_eq_getElem h, msk_full h]
  have e : cs.getD i 0 = cs[i] := by simp [List.getD, h]
  rw [e]
  show some (if ds.getD (0 + i) 1 = 0 then cs[i] else 0) = _
  rw [Nat.zero_add]
theorem nrow_all (ds cs : List Nat) : nrow ds cs (cs.length + 1) cs.length = nextRow ds cs := by
  refine List.ext_getElem? fun i => ?_
  have hml : (cs.zipIdx.map fun z => if ds.getD z.2 1 = 0 then z.1 else 0).length = cs.length := by
    rw [List.length_map, List.length_zipIdx]
  unfold nextRow
  simp only []
  rw [List.getElem?_zipWith]
  by_cases hi : i < cs.length + 1
  · rw [nrow_get hi]
    by_cases h1 : i < cs.length
    · rw [List.getElem?_append_left (by rw [hml]; exact h1), mask_get h1]
      cases i with
      | zero => rfl
      | succ i =>
        rw [List.getElem?_cons_succ, mask_get (by omega)]
        rfl
    · have e0 : i = cs.length := by omega
      rw [List.getElem?_append_right (by rw [hml]; omega), hml, e0, Nat.sub_self]
      cases hc : cs.length with
      | zero =>
        show some (msk ds cs 0 0) = some (0 + 0)
        rw [msk_self]
      | succ n =>
        have hm := mask_get (ds := ds) (cs := cs) (i := n) (by omega)
        rw [List.getElem?_cons_succ, hm, hc]
        show some (msk ds cs (n + 1) (n + 1) + msk ds cs (n + 1) n) = some (0 + msk ds cs (n + 1) n)
        rw [msk_self]
  · rw [List.getElem?_eq_none (by rw [nrow_len]; omega), List.getElem?_eq_none (by rw [List.length_append, hml]; show cs.length + 1 ≤ i; omega)]
theorem nextRow_len (ds cs : List Nat) : (nextRow ds cs).length = cs.length + 1 := by
  rw [← nrow_all, nrow_len]
section
variable {P : Program} {w : World} {K : PySem.W.Frag} {mg : Str → Option Value} {base : Heap}
def sp_next_counts (K : PySem.W.Frag) : Sp := fun vs H Q _ => ∃ (a b : Addr) (ds cs : List Nat), vs = [.ref a, .ref b] ∧ SqL K H a (nats ds) ∧ SqL K H b (nats cs) ∧ ds.length = cs.length ∧ cs.length ≤ 100 ∧ ∀ H' p, New H H' p (.lst (nats (nextRow ds cs))) → Q (.ref p) H'
theorem nats_set (d : List Nat) (i x : Nat) : (nats d).set i (.int x) = nats (d.set i x) := by
  unfold nats
  rw [List.map_set]
theorem ixN_nat {n j : Nat} (h : j < n) : ixN n (j : Int) = some j := by
  unfold ixN
  rw [if_pos (by omega), if_pos (by omega)]
  rfl
theorem c_next_counts (gl : Glb mg) (F : DefB K mg "next_counts" s_next_counts ["decisions", "counts"]) : Cal0 P w K mg base 1 "next_counts" (sp_next_counts K) := by
  obtain ⟨fa, fd, F, b⟩ := F.ex
  refine C8.cal0 F b .nil (C8.fnScope_by (N := ["decisions", "counts", "following", "s", "count"]) (by decide +kernel)) (fun vs H Q E h => ?_) (fun cdv A outer s H vs Q E hr h => ?_)
  · obtain ⟨_, _, _, _, rfl, _⟩ := h
    rfl
  · obtain ⟨a, b, ds, cs, rfl, ha, hb, hl, hc, k⟩ := h
    have nd : (["decisions", "counts", "following", "s", "count"] : List Str).Nodup := by decide +kernel
    have hz := sizeLine_eq
    refine ⟨_, pss_cons (ps_set (i := 2) nd rfl (.inl rfl) (pe_op op_rep (pe_lst (pa_cons pe_int pa_nil)) (pe_op op_add (pe_callB call_len_seq (by rfl) gl.len PySem.boot_len (pa_cons (pv 1) pa_nil)) pe_int)))
      (pss_cons (ps_for PassesOwn.never rfl (pi_enum rfl gl.enumerate (pa_cons (pv 1) pa_nil)) (pg_tup rfl (pgs_cons (pg_name (i := 3) nd rfl (.inl rfl)) (pgs_cons (pg_name (i := 4) nd rfl (.inl rfl)) pgs_nil)))
        (pss_one (ps_if (pt_cmpR op_eq (pe_ix ix_list (pv 0) (pv 3) (fun _ _ => rfl)) (C8.pe_gc rfl gl.GO_ON) (nomark _))
          (pss_cons (ps_augS (pv 2) (pv 3) pget_list (pv 4) ip_add set_list)
          (pss_one (ps_augS (pv 2) (pe_op op_add (pv 3) pe_int) pget_list (pv 4) ip_add set_list))) pss_nil)))
      (pss_one (ps_ret (pv 2)))), ?_⟩
    have lenC : (nats cs).length = cs.length := nats_len cs
    refine ⟨(by show 1 ≤ sizeLine; decide), fun z0 hz0 => ?_⟩
    have sz := same_upd (o := .lst [V.int 0]) hz0
    refine ⟨_, rfl, b, _, rfl, .inl (sz.seq hb), _, _, rfl, rfl, z0, _, _, rfl, rfl, upd_same, by omega, by omega, by show 1 * _ ≤ sizeLine; omega, fun l hl => ?_⟩
    have erep : (List.replicate (((nats cs).length : Int) + 1).toNat [V.int 0]).flatten = nats (nrow ds cs (cs.length + 1) 0) := by
      rw [lenC, nrow_zero, show ((cs.length : Int) + 1).toNat = cs.length + 1 by omega]
      unfold nats
      rw [List.map_replicate]
      generalize cs.length + 1 = m
      induction m with
      | zero => rfl
      | succ m ih =>
        rw [List.replicate_succ, List.flatten_cons, ih, List.replicate_succ]
        rfl
    rw [erep]
    have s1 : Same H (upd (upd H z0 (.lst [V.int 0])) l (.lst (nats (nrow ds cs (cs.length + 1) 0)))) := sz.trans (same_upd hl)
    have hlH : H l = Option.none := sz.free hl
    refine ⟨_, rfl, b, _, rfl, s1.seq hb, for_enum (K := K) (a := b) (xs := nats cs) (fun j σ H' => ∃ v3 v4 : Option V, σ = [some (.ref a), some (.ref b), some (.ref l), v3, v4] ∧ Same H H' ∧ H' l = some (.lst (nats (nrow ds cs (cs.length + 1) j))))
      ⟨none, none, rfl, s1, upd_same⟩ (fun j σ H2 _ ⟨_, _, _, s2, _⟩ => s2.seq hb) ?_ ?_⟩
    · rintro j x σ H2 T hx ⟨v3, v4, rfl, s2, hl2⟩ hT
      have hj : j < cs.length := by
        have := (List.getElem?_eq_some_iff.mp hx).1
        rw [nats_len] at this
        exact this
      have ex : x = V.int (cs.getD j 0 : Nat) := by
        have := nats_get (getD_get hj)
        rw [this] at hx
        exact (Option.some.inj hx).symm
      subst ex
      have sT : Same H2 (upd H2 T (.tup [.int (j : Nat), .int (cs.getD j 0 : Nat)])) := same_upd hT
      have hd : ds[j]? = some (ds.getD j 1) := by
        have hj' : j < ds.length := by omega
        rw [List.getElem?_eq_getElem hj']
        simp [List.getD, hj']
      have hl3 := sT _ _ hl2
      have hs3 : Same H (upd H2 T (.tup [.int (j : Nat), .int (cs.getD j 0 : Nat)])) := s2.trans sT
      have keep : ∀ (H4 : Hp) (o : HO), Same H H4 → Same H (upd H4 l o) := fun H4 o s4 b o e => by
        rw [upd_ne (ne_of_none e hlH)]
        exact s4 _ _ e
      refine ⟨T, _, rfl, SqT.of upd_same, rfl, _, _, rfl, _, _, rfl, rfl, ?_⟩
      refine ⟨_, rfl, _, rfl, a, _, _, _, rfl, rfl, hs3.seq ha, at_of rfl (nats_get hd), rfl, _, rfl, ?_⟩
      by_cases h0 : ds.getD j 1 = 0
      · rw [h0, decide_eq_true (show V.int ((0 : Nat) : Int) = V.int 0 from rfl)]
        have g1 : (nats (nrow ds cs (cs.length + 1) j))[((j : Nat) : Int).toNat]? = some (V.int (nval ds cs j j : Nat)) := nats_get (nrow_get (by omega))
        refine iteT ⟨_, rfl, _, rfl, l, _, _, _, rfl, rfl, SqL.of hl3, by omega, g1, _, rfl, _, _, rfl, rfl, l, _, _, j, rfl, rfl, hl3, ixN_nat (by rw [nats_len, nrow_len]; omega), ?_⟩
        have e1 : V.int ((nval ds cs j j : Nat) + (cs.getD j 0 : Nat) : Int) = V.int (((nval ds cs j j + cs.getD j 0 : Nat)) : Int) := by rw [Int.natCast_add]
        rw [e1, nats_set]
        have g2 : (nats ((nrow ds cs (cs.length + 1) j).set j (nval ds cs j j + cs.getD j 0)))[(((j : Nat) : Int) + 1).toNat]? = some (V.int (nval ds cs j (j + 1) : Nat)) := by
          refine nats_get ?_
          rw [show (((j : Nat) : Int) + 1).toNat = j + 1 by omega, List.getElem?_set_ne (by omega)]
          exact nrow_get (by omega)
        refine ⟨_, rfl, _, rfl, _, _, rfl, rfl, l, _, _, _, rfl, rfl, SqL.of upd_same, by omega, g2, _, rfl, _, _, rfl, rfl, l, _, _, j + 1, rfl, rfl, upd_same, ?_, ?_⟩
        · have e2 : ((j : Nat) : Int) + 1 = ((j + 1 : Nat) : Int) := by omega
          show ixN _ (((j : Nat) : Int) + 1) = _
          rw [e2]
          exact ixN_nat (by rw [nats_len, List.length_set, nrow_len]; omega)
        · refine ⟨_, _, rfl, keep _ _ (keep _ _ hs3), ?_⟩
          rw [upd_same]
          have e3 : V.int ((nval ds cs j (j + 1) : Nat) + (cs.getD j 0 : Nat) : Int) = V.int (((nval ds cs j (j + 1) + cs.getD j 0 : Nat)) : Int) := by rw [Int.natCast_add]
          show some (HO.lst ((nats _).set (j + 1) (V.int ((nval ds cs j (j + 1) : Nat) + (cs.getD j 0 : Nat) : Int)))) = _
          rw [e3, nats_set, nrow_step h0 (by omega)]
      · rw [decide_eq_false (show ¬ V.int (ds.getD j 1 : Nat) = V.int 0 from fun z => h0 (intN (b := 0) z))]
        refine iteF ⟨_, _, rfl, hs3, ?_⟩
        rw [nrow_skip h0]
        exact hl3
    · rintro σ H2 ⟨v3, v4, rfl, s2, hl2⟩
      rw [nats_len, nrow_all] at hl2
      exact ⟨_, rfl, k H2 l ⟨s2, hlH, hl2⟩⟩
end
end St
set_option Elab.async false
set_option linter.all false
set_option maxRecDepth 100000
set_option maxHeartbeats 2000000
/-! W11: path counts and stops of a plan. -/
namespace St
open PySem PySem.Spec PyProof.Rows L2 NdefX LamX
/-- the plan whose rows are t -/
abbrev planT (h : Nat) (t : List (List Nat)) : Kxd7.Plan := ⟨h, t⟩
theorem pathRow_succ (h : Nat) (t : List (List Nat)) (n : Nat) : Kxd7.pathRow (planT h t) (n + 1) = nextRow (t.getD n []) (Kxd7.pathRow (planT h t) n) := rfl
theorem pathRow_len (h : Nat) (t : List (List Nat)) : ∀ n, (Kxd7.pathRow (planT h t) n).length = n + 1
  | 0 => rfl
  | n + 1 => by rw [pathRow_succ, nextRow_len, pathRow_len h t n]
/-- a list that stands is put at the end -/
theorem RowsAt.push {H : Hp} {a D : Addr} {rs : List Addr} {t : List (List Nat)} {d : List Nat} (R : RowsAt H a rs t) (hD : H D = some (.lst (nats d))) (nDr : D ∉ rs) (nDa : D ≠ a) : RowsAt (upd H a (.lst (rs.map V.ref ++ [V.ref D]))) a (rs ++ [D]) (t ++ [d]) := by
  refine ⟨?_, ?_, fun q r e => ?_, ?_, ?_⟩
  · rw [upd_same, List.map_append]
    rfl
  · rw [List.length_append, List.length_append, R.len]
    rfl
  · by_cases hq : q < rs.length
    · rw [List.getElem?_append_left hq] at e
      obtain ⟨d, h1, h2⟩ := R.row q r e
      refine ⟨d, ?_, ?_⟩
      · rw [List.getElem?_append_left (by rw [← R.len]; exact hq)]
        exact h1
      · rw [upd_ne (fun z => R.ne (by rw [← z]; exact List.mem_of_getElem? e))]
        exact h2
    · rw [List.getElem?_append_right (by omega)] at e
      have e2 : q = rs.length := by
        have := (List.getElem?_eq_some_iff.mp e).1
        have h1 : ([D] : List Addr).length = 1 := rfl
        omega
      subst e2
      rw [Nat.sub_self] at e
      have e3 : D = r := Option.some.inj e
      subst e3
      refine ⟨d, ?_, ?_⟩
      · rw [R.len, List.getElem?_append_right (Nat.le_refl _), Nat.sub_self]
        rfl
      · rw [upd_ne nDa]
        exact hD
  · rw [List.nodup_append]
    refine ⟨R.nd, List.nodup_cons.mpr ⟨by simp, List.nodup_nil⟩, fun x hx y hy => ?_⟩
    have : y = D := by simpa using hy
    subst this
    exact fun z => nDr (by rw [← z]; exact hx)
  · rw [List.mem_append]
    exact fun z => z.elim R.ne fun z => nDa (show a = D by simpa using z).symm
theorem RowsAt.notin {H : Hp} {a D : Addr} {rs : List Addr} {t : List (List Nat)} (R : RowsAt H a rs t) (hD : H D = Option.none) : D ∉ rs ∧ D ≠ a := by
  refine ⟨fun z => ?_, fun z => ?_⟩
  · obtain ⟨q, hq⟩ := List.mem_iff_getElem?.mp z
    obtain ⟨d, _, hd⟩ := R.row q D hq
    rw [hd] at hD
    cases hD
  · rw [z, R.at_] at hD
    cases hD
theorem cut_last (xs : List V) : cutV xs none (some (-1)) = xs.take (xs.length - 1) := by
  unfold cutV
  show (xs.drop 0).take ((if (-1 : Int) < 0 then ((-1 : Int) + (xs.length : Int)).toNat else min (-1 : Int).toNat xs.length) - 0) = _
  rw [if_pos (by decide), List.drop_zero]
  congr 1
  omega
def rowsOf (h : Nat) (t : List (List Nat)) (n : Nat) : List (List Nat) := (List.range n).map (Kxd7.pathRow (planT h t))
/-- the rows that follow r0, the one at m -/
def rowAt (t : List (List Nat)) (m : Nat) (r0 : List Nat) : Nat → List Nat
  | 0 => r0
  | n + 1 => nextRow (t.getD (m + n) []) (rowAt t m r0 n)
/-- the first rows, and n more behind them -/
def behindL (t beg : List (List Nat)) (m : Nat) (r0 : List Nat) (n : Nat) : List (List Nat) := beg ++ (List.range n).map fun i => rowAt t m r0 (i + 1)
theorem behindL_succ (t beg : List (List Nat)) (m : Nat) (r0 : List Nat) (n : Nat) : behindL t beg m r0 (n + 1) = behindL t beg m r0 n ++ [nextRow (t.getD (m + n) []) (rowAt t m r0 n)] := by
  unfold behindL
  rw [List.range_succ, List.map_append, List.append_assoc]
  rfl
theorem behindL_len {t beg : List (List Nat)} {m : Nat} {r0 : List Nat} (hb : beg.length = m + 1) (n : Nat) : (behindL t beg m r0 n).length = m + 1 + n := by
  unfold behindL
  rw [List.length_append, List.length_map, List.length_range, hb]
theorem behindL_get {t beg : List (List Nat)} {m : Nat} {r0 : List Nat} (hb : beg.length = m + 1) (h0 : beg[m]? = some r0) {n i : Nat} (hi : i ≤ n) : (behindL t beg m r0 n)[m + i]? = some (rowAt t m r0 i) := by
  unfold behindL
  cases i with
  | zero =>
    rw [List.getElem?_append_left (by omega)]
    exact h0
  | succ i =>
    rw [List.getElem?_append_right (by omega), List.getElem?_map, show m + (i + 1) - beg.length = i by omega, List.getElem?_range (by omega)]
    rfl
theorem rowAt_len {t : List (List Nat)} {m : Nat} {r0 : List Nat} (h0 : r0.length = m + 1) : ∀ n, (rowAt t m r0 n).length = m + 1 + n
  | 0 => h0
  | n + 1 => by
    show (nextRow _ (rowAt t m r0 n)).length = _
    rw [nextRow_len, rowAt_len h0 n]
    omega
theorem rowAt_path (h : Nat) (t : List (List Nat)) : ∀ n, rowAt t 0 [1] n = Kxd7.pathRow (planT h t) n
  | 0 => rfl
  | n + 1 => by
    show nextRow (t.getD (0 + n) []) (rowAt t 0 [1] n) = _
    rw [pathRow_succ, rowAt_path h t n, Nat.zero_add]
theorem behindL_path (h : Nat) (t : List (List Nat)) : ∀ n, behindL t [[1]] 0 [1] n = rowsOf h t (n + 1)
  | 0 => rfl
  | n + 1 => by
    rw [behindL_succ, behindL_path h t n]
    unfold rowsOf
    rw [List.range_succ (n := n + 1), List.map_append, rowAt_path h, Nat.zero_add]
    rfl
theorem cut_mid (xs : List V) {m : Nat} (hm : m < xs.length) : cutV xs (some (m : Int)) (some (-1)) = (xs.drop m).take (xs.length - 1 - m) := by
  unfold cutV
  show (xs.drop (HT.sIx xs.length 0 (some (m : Int)))).take ((if (-1 : Int) < 0 then ((-1 : Int) + (xs.length : Int)).toNat else min (-1 : Int).toNat xs.length) - HT.sIx xs.length 0 (some (m : Int))) = _
  rw [if_pos (by decide), HT.sIx_nat, Nat.min_eq_left (Nat.le_of_lt hm)]
  congr 1
  omega
section
variable {P : Program} {w : World} {K : PySem.W.Frag} {mg : Str → Option Value} {base : Heap}
def sp_counts_behind : Sp := fun vs H Q _ => ∃ (a b : Addr) (rs bs : List Addr) (t beg : List (List Nat)) (h m : Nat) (r0 : List Nat), vs = [.ref a, .ref b] ∧ RowsAt H a rs t ∧ t.length = h + 1 ∧ h ≤ 20 ∧ Tri t ∧ RowsAt H b bs beg ∧ beg.length = m + 1 ∧ m ≤ h ∧ beg[m]? = some r0 ∧ r0.length = m + 1 ∧
  ∀ H' q rs', Same H H' → RowsAt H' q (bs ++ rs') (behindL t beg m r0 (h - m)) → H q = Option.none → (∀ r, r ∈ rs' → H r = Option.none) → Q (.ref q) H'
theorem c_counts_behind (gl : Glb mg) (F : DefB K mg "counts_behind" s_counts_behind ["rows", "beginning"]) (c1 : Cal0 P w K mg base 1 "next_counts" (sp_next_counts K)) : Cal0 P w K mg base 2 "counts_behind" sp_counts_behind := by
  obtain ⟨fa, fd, F, b⟩ := F.ex
  refine C8.cal0 F b .nil (C8.fnScope_by (N := ["rows", "beginning", "found", "decisions"]) (by decide +kernel)) (fun vs H Q E h => ?_) (fun cdv A outer s H vs Q E hr h => ?_)
  · obtain ⟨_, _, _, _, _, _, _, _, _, rfl, _⟩ := h
    rfl
  · obtain ⟨a, b, rs, bs, t, beg, h, m, r0, rfl, R, ht, hh, tri, Rb, hb, hm, h0, hl0, k⟩ := h
    have nd : (["rows", "beginning", "found", "decisions"] : List Str).Nodup := by decide +kernel
    have hz := sizeLine_eq
    refine ⟨_, pss_cons (ps_set (i := 2) nd rfl (.inl rfl) (pe_callTy call_list_of (by rfl) gl.list (by decide +kernel) (pa_cons (pv 1) pa_nil)))
      (pss_cons (ps_for PassesOwn.never rfl (pi_list (pe_slice sl_list (pv 0) (po_some (pe_op op_sub (pe_callB call_len_seq (by rfl) gl.len PySem.boot_len (pa_cons (pv 1) pa_nil)) pe_int)) (po_some (pe_un un_neg pe_int)))) (pg_name (i := 3) nd rfl (.inl rfl))
        (pss_one (ps_expr (pe_bm PySem.F.plainAttrs_list PySem.F.slot_list_append PySem.F.type_list_append mt_append (pv 2)
          (pa_cons (C8.pe_c c1 hr (by decide) rfl (pa_cons (pv 3) (pa_cons (pe_ix ix_list (pv 2) (pe_un un_neg pe_int) (fun _ _ => rfl)) pa_nil))) pa_nil)))))
      (pss_one (ps_ret (pv 2)))), ?_⟩
    have lenR : (rs.map V.ref).length = h + 1 := by rw [List.length_map, R.len, ht]
    have lenB : (bs.map V.ref).length = m + 1 := by rw [List.length_map, Rb.len, hb]
    refine ⟨_, rfl, b, _, rfl, .inl (SqL.of Rb.at_), fun q hq => ?_⟩
    have s0 : Same H (upd H q (.lst (bs.map V.ref))) := same_upd hq
    have Rq : RowsAt (upd H q (.lst (bs.map V.ref))) q bs beg := ⟨upd_same, Rb.len, fun i r e => let ⟨d, h1, h2⟩ := Rb.row i r e; ⟨d, h1, s0 _ _ h2⟩, Rb.nd, (Rb.notin hq).1⟩
    refine ⟨_, rfl, _, rfl, b, _, rfl, .inl (SqL.of (s0 _ _ Rb.at_)), _, _, rfl, rfl, _, rfl, _, rfl, _, rfl, a, _, rfl, SqL.of (s0 _ _ R.at_), fun c hc => ?_⟩
    have e0 : (((bs.map V.ref).length : Nat) : Int) - 1 = (m : Int) := by rw [lenB]; omega
    have ecut : cutV (rs.map V.ref) (some ((((bs.map V.ref).length : Nat) : Int) - 1)) (some (-1)) = ((rs.map V.ref).drop m).take (h - m) := by
      rw [e0, cut_mid _ (by omega), lenR]
      rfl
    have s1 : Same (upd H q (.lst (bs.map V.ref))) (upd (upd H q (.lst (bs.map V.ref))) c (.lst (cutV (rs.map V.ref) (some ((((bs.map V.ref).length : Nat) : Int) - 1)) (some (-1))))) := same_upd hc
    have cq : c ≠ q := fun z => by rw [z, upd_same] at hc; cases hc
    refine ⟨c, rfl, ⟨_, SqL.of upd_same⟩, ?_⟩
    rw [ecut] at s1 ⊢
    refine for_list (K := K) (a := c) (xs := ((rs.map V.ref).drop m).take (h - m)) (fun i σ H' => ∃ (rs' : List Addr) (v3 : Option V), σ = [some (.ref a), some (.ref b), some (.ref q), v3] ∧ Same H H' ∧ H' c = some (.lst (((rs.map V.ref).drop m).take (h - m))) ∧ RowsAt H' q (bs ++ rs') (behindL t beg m r0 i) ∧ ∀ r, r ∈ rs' → H r = Option.none)
      ⟨[], none, rfl, s0.trans s1, upd_same, ?_, fun r hr => absurd hr (by simp)⟩ (fun i σ H2 _ ⟨_, _, _, _, e, _⟩ => SqL.of e) ?_ ?_
    · have e : behindL t beg m r0 0 = beg := List.append_nil _
      rw [List.append_nil, e]
      exact Rq.same s1
    · rintro i x σ H1 hx ⟨rs', v3, rfl, s2, hc1, R1, fr⟩
      have hi : i < h - m := by
        have := (List.getElem?_eq_some_iff.mp hx).1
        rw [List.length_take] at this
        omega
      obtain ⟨d, hd⟩ : ∃ d, t[m + i]? = some d := ⟨_, List.getElem?_eq_getElem (by omega)⟩
      obtain ⟨r, hr1, hr2, hr3⟩ := R.get hd
      rw [List.getElem?_take_of_lt hi, List.getElem?_drop, hr2] at hx
      cases hx
      have triD := tri (m + i) d hd
      obtain ⟨r2, hq1, hq2, hq3⟩ := R1.get (behindL_get (t := t) hb h0 (Nat.le_refl i))
      have lenR1 : ((bs ++ rs').map V.ref).length = m + 1 + i := by
        rw [List.length_map, R1.len, behindL_len hb]
      have lenRow := rowAt_len (t := t) hl0 i
      refine ⟨_, rfl, .inl ⟨rfl, _, SqL.of R1.at_⟩, _, rfl, _, rfl, _, rfl, q, _, _, _, rfl, rfl, SqL.of R1.at_, atI_end (by rw [lenR1, show m + 1 + i - 1 = m + i by omega]; exact hq2), r, r2, d, rowAt t m r0 i, rfl, SqL.of (s2 _ _ hr3), SqL.of hq3, by rw [triD, lenRow]; omega, by rw [lenRow]; omega, fun H2 D N => ?_⟩
      refine ⟨q, _, _, rfl, rfl, N.same _ _ R1.at_, by rw [lenR1]; omega, ?_⟩
      obtain ⟨nDr, nDq⟩ := R1.notin N.fresh
      have R2 := (R1.same N.same).push N.at_ nDr nDq
      have e3 : t.getD (m + i) [] = d := by
        rw [List.getD_eq_getElem?_getD, hd]
        rfl
      refine ⟨rs' ++ [D], _, rfl, fun b o e => ?_, ?_, ?_, fun r hr => ?_⟩
      · rw [upd_ne (ne_of_none e hq)]
        exact N.same _ _ (s2 _ _ e)
      · rw [upd_ne cq]
        exact N.same _ _ hc1
      · rw [behindL_succ, e3, ← List.append_assoc]
        exact R2
      · rcases List.mem_append.mp hr with z | z
        · exact fr r z
        · have : r = D := by simpa using z
          subst this
          exact s2.free N.fresh
    · rintro σ H1 ⟨rs', v3, rfl, s2, hc1, R1, fr⟩
      have e : (((rs.map V.ref).drop m).take (h - m)).length = h - m := by
        rw [List.length_take, List.length_drop, lenR]
        omega
      rw [e] at R1
      exact ⟨_, rfl, k H1 q rs' s2 R1 hq fr⟩
def sp_path_counts : Sp := fun vs H Q _ => ∃ (a : Addr) (rs : List Addr) (t : List (List Nat)) (h : Nat), vs = [.ref a] ∧ RowsAt H a rs t ∧ t.length = h + 1 ∧ h ≤ 20 ∧ Tri t ∧ ∀ H' q rs', Same H H' → NewRows H H' q rs' (rowsOf h t (h + 1)) → Q (.ref q) H'
theorem c_path_counts (F : DefB K mg "path_counts" s_path_counts ["rows"]) (c1 : Cal0 P w K mg base 2 "counts_behind" sp_counts_behind) : Cal0 P w K mg base 3 "path_counts" sp_path_counts := by
  obtain ⟨fa, fd, F, b⟩ := F.ex
  refine C8.cal0 F b .nil (C8.fnScope_by (N := ["rows"]) (by decide +kernel)) (fun vs H Q E h => ?_) (fun cdv A outer s H vs Q E hr h => ?_)
  · obtain ⟨_, _, _, _, rfl, _⟩ := h
    rfl
  · obtain ⟨a, rs, t, h, rfl, R, ht, hh, tri, k⟩ := h
    have hz := sizeLine_eq
    refine ⟨_, pss_one (ps_ret (C8.pe_c c1 hr (by decide) rfl (pa_cons (pv 0) (pa_cons (pe_lst (pa_cons (pe_lst (pa_cons pe_int pa_nil)) pa_nil)) pa_nil)))), ?_⟩
    refine ⟨_, rfl, (by show 1 ≤ sizeLine; decide), fun l hl => ⟨(by show 1 ≤ sizeLine; decide), fun q hq => ?_⟩⟩
    have lq : l ≠ q := ne_of_none upd_same hq
    have s0 : Same H (upd (upd H l (.lst [V.int 1])) q (.lst [.ref l])) := (same_upd hl).trans (same_upd hq)
    refine ⟨a, q, rs, [l], t, [[1]], h, 0, [1], rfl, R.same s0, ht, hh, tri, ⟨upd_same, rfl, fun i r e => ?_, List.nodup_cons.mpr ⟨by simp, List.nodup_nil⟩, by simpa using lq.symm⟩, rfl, Nat.zero_le _, rfl, rfl, fun H' q' rs' s1 R1 f1 f2 => ?_⟩
    · cases i with
      | zero =>
        have e3 : l = r := Option.some.inj e
        subst e3
        refine ⟨[1], rfl, ?_⟩
        rw [upd_ne lq, upd_same]
        rfl
      | succ i => simp at e
    · rw [behindL_path h, Nat.sub_zero] at R1
      refine k H' q' ([l] ++ rs') (s0.trans s1) ⟨R1, s0.free f1, fun r hr => ?_⟩
      rcases List.mem_append.mp hr with z | z
      · have : r = l := by simpa using z
        rw [this]
        exact hl
      · exact s0.free (f2 r z)
end
end St
set_option Elab.async false
set_option linter.all false
set_option maxRecDepth 100000
set_option maxHeartbeats 2000000
/-! W12: the stops of a plan. -/
namespace St
open PySem PySem.Spec PyProof.Rows L2 NdefX LamX
/-- the stops of row n among the first j points -/
def rowStops (p : Kxd7.Plan) (n j : Nat) : List (Nat × Nat) := ((List.range j).filter fun s => Kxd7.decision p n s != 0 && (Kxd7.pathRow p n).getD s 0 != 0).map fun s => (n, s)
/-- the stops of the first n rows -/
def stopsN (p : Kxd7.Plan) (n : Nat) : List (Nat × Nat) := (List.range n).flatMap fun n => rowStops p n (n + 1)
theorem stops_eq (p : Kxd7.Plan) : Kxd7.stops p = stopsN p (p.horizon + 1) := rfl
theorem stopsN_succ (p : Kxd7.Plan) (n : Nat) : stopsN p (n + 1) = stopsN p n ++ rowStops p n (n + 1) := by
  unfold stopsN
  rw [List.range_succ, List.flatMap_append]
  simp
theorem rowStops_succ (p : Kxd7.Plan) (n j : Nat) : rowStops p n (j + 1) = rowStops p n j ++ if (Kxd7.decision p n j != 0 && (Kxd7.pathRow p n).getD j 0 != 0) = true then [(n, j)] else [] := by
  unfold rowStops
  rw [List.range_succ, List.filter_append, List.map_append]
  congr 1
  by_cases h : (Kxd7.decision p n j != 0 && (Kxd7.pathRow p n).getD j 0 != 0) = true
  · rw [if_pos h, List.filter_cons, if_pos h]
    rfl
  · rw [if_neg h, List.filter_cons, if_neg h]
    rfl
theorem rowStops_len (p : Kxd7.Plan) (n j : Nat) : (rowStops p n j).length ≤ j := by
  unfold rowStops
  rw [List.length_map]
  exact Nat.le_trans (List.length_filter_le _ _) (by rw [List.length_range]; exact Nat.le_refl _)
theorem stopsN_len (p : Kxd7.Plan) : ∀ n, n ≤ 21 → (stopsN p n).length ≤ n * 21
  | 0, _ => Nat.le_refl _
  | n + 1, h => by
    rw [stopsN_succ, List.length_append]
    have h1 := stopsN_len p n (by omega)
    have h2 := rowStops_len p n (n + 1)
    omega
/-- a stop, as the program has it -/
def stopV (p : Kxd7.Plan) (z : Nat × Nat) : List V := [.int z.1, .int z.2, .int (Kxd7.decision p z.1 z.2), .int (Kxd7.paths p z.1 z.2)]
/-- at a a list of tuples, the stops zs -/
structure StopsAt (H : Hp) (a : Addr) (ts : List Addr) (p : Kxd7.Plan) (zs : List (Nat × Nat)) : Prop where
  at_ : H a = some (.lst (ts.map V.ref))
  len : ts.length = zs.length
  tup : ∀ (i : Nat) (t : Addr), ts[i]? = some t → ∃ z, zs[i]? = some z ∧ H t = some (.tup (stopV p z))
theorem StopsAt.push {H : Hp} {a T : Addr} {ts : List Addr} {p : Kxd7.Plan} {zs : List (Nat × Nat)} {z : Nat × Nat} (S : StopsAt H a ts p zs) (hT : H T = some (.tup (stopV p z))) : StopsAt (upd H a (.lst (ts.map V.ref ++ [V.ref T]))) a (ts ++ [T]) p (zs ++ [z]) := by
  have ne : ∀ t xs, H t = some (.tup xs) → t ≠ a := fun t xs e q => by
    rw [q, S.at_] at e
    cases e
  refine ⟨?_, ?_, fun q r e => ?_⟩
  · rw [upd_same, List.map_append]
    rfl
  · rw [List.length_append, List.length_append, S.len]
    rfl
  · by_cases hq : q < ts.length
    · rw [List.getElem?_append_left hq] at e
      obtain ⟨d, h1, h2⟩ := S.tup q r e
      refine ⟨d, ?_, ?_⟩
      · rw [List.getElem?_append_left (by rw [← S.len]; exact hq)]
        exact h1
      · rw [upd_ne (ne _ _ h2)]
        exact h2
    · rw [List.getElem?_append_right (by omega)] at e
      have e2 : q = ts.length := by
        have := (List.getElem?_eq_some_iff.mp e).1
        have h1 : ([T] : List Addr).length = 1 := rfl
        omega
      subst e2
      rw [Nat.sub_self] at e
      have e3 : T = r := Option.some.inj e
      subst e3
      refine ⟨z, ?_, ?_⟩
      · rw [S.len, List.getElem?_append_right (Nat.le_refl _), Nat.sub_self]
        rfl
      · rw [upd_ne (ne _ _ hT)]
        exact hT
theorem StopsAt.same {H H' : Hp} {a : Addr} {ts : List Addr} {p : Kxd7.Plan} {zs : List (Nat × Nat)} (S : StopsAt H a ts p zs) (s : Same H H') : StopsAt H' a ts p zs :=
  ⟨s _ _ S.at_, S.len, fun i t e => let ⟨z, h1, h2⟩ := S.tup i t e; ⟨z, h1, s _ _ h2⟩⟩
section
variable {P : Program} {w : World} {K : PySem.W.Frag} {mg : Str → Option Value} {base : Heap}
def sp_stops : Sp := fun vs H Q _ => ∃ (a : Addr) (rs : List Addr) (t : List (List Nat)) (h : Nat), vs = [.ref a] ∧ RowsAt H a rs t ∧ t.length = h + 1 ∧ h ≤ 20 ∧ Tri t ∧ ∀ H' q ts, Same H H' → H q = Option.none → StopsAt H' q ts (planT h t) (Kxd7.stops (planT h t)) → Q (.ref q) H'
theorem c_stops (gl : Glb mg) (F : DefB K mg "stops" s_stops ["rows"]) (c1 : Cal0 P w K mg base 3 "path_counts" sp_path_counts) : Cal0 P w K mg base 4 "stops" sp_stops := by
  obtain ⟨fa, fd, F, b⟩ := F.ex
  refine C8.cal0 F b .nil (C8.fnScope_by (N := ["rows", "found", "n", "counts", "s", "count", "decision"]) (by decide +kernel)) (fun vs H Q E h => ?_) (fun cdv A outer s H vs Q E hr h => ?_)
  · obtain ⟨_, _, _, _, rfl, _⟩ := h
    rfl
  · obtain ⟨a, rs, t, h, rfl, R, ht, hh, tri, k⟩ := h
    have nd : (["rows", "found", "n", "counts", "s", "count", "decision"] : List Str).Nodup := by decide +kernel
    have hz := sizeLine_eq
    refine ⟨_, pss_cons (ps_set (i := 1) nd rfl (.inl rfl) (pe_lst pa_nil))
      (pss_cons (ps_for PassesOwn.never rfl (pi_enum rfl gl.enumerate (pa_cons (C8.pe_c c1 hr (by decide) rfl (pa_cons (pv 0) pa_nil)) pa_nil)) (pg_tup rfl (pgs_cons (pg_name (i := 2) nd rfl (.inl rfl)) (pgs_cons (pg_name (i := 3) nd rfl (.inl rfl)) pgs_nil)))
        (pss_one (ps_for PassesOwn.never rfl (pi_enum rfl gl.enumerate (pa_cons (pv 3) pa_nil)) (pg_tup rfl (pgs_cons (pg_name (i := 4) nd rfl (.inl rfl)) (pgs_cons (pg_name (i := 5) nd rfl (.inl rfl)) pgs_nil)))
          (pss_cons (ps_set (i := 6) nd rfl (.inl rfl) (pe_ix ix_list (pe_ix ix_list (pv 0) (pv 2) (fun _ _ => rfl)) (pv 4) (fun _ _ => rfl)))
          (pss_one (ps_if (PW.pt (pw_and (pt_cmpR op_ne (pv 6) (C8.pe_gc rfl gl.GO_ON) (nomark _)) (pw_and1 (pt_cmpR op_gt (pv 5) pe_int (nomark _)))))
            (pss_one (ps_expr (pe_bm PySem.F.plainAttrs_list PySem.F.slot_list_append PySem.F.type_list_append mt_append (pv 1) (pa_cons (pe_tup (pa_cons (pv 2) (pa_cons (pv 4) (pa_cons (pv 6) (pa_cons (pv 5) pa_nil))))) pa_nil)))) pss_nil))))))
      (pss_one (ps_ret (pv 1)))), ?_⟩
    refine ⟨Nat.zero_le _, fun q hq => ?_⟩
    have sq : Same H (upd H q (.lst [])) := same_upd hq
    refine ⟨_, rfl, a, rs, t, h, rfl, R.same sq, ht, hh, tri, fun H1 pc ps s1 N1 => ?_⟩
    have lenP : (rowsOf h t (h + 1)).length = h + 1 := by
      unfold rowsOf
      rw [List.length_map, List.length_range]
    have sH1 : Same H H1 := sq.trans s1
    have getP : ∀ {n : Nat}, n ≤ h → (rowsOf h t (h + 1))[n]? = some (Kxd7.pathRow (planT h t) n) := fun {n} hn => by
      unfold rowsOf
      rw [List.getElem?_map, List.getElem?_range (by omega)]
      rfl
    have lenPs : (ps.map V.ref).length = h + 1 := by rw [List.length_map, N1.at_.len, lenP]
    refine ⟨pc, _, rfl, SqL.of N1.at_.at_, for_enum (K := K) (a := pc) (xs := ps.map V.ref) (fun n σ H' => ∃ (ts : List Addr) (v2 v3 v4 v5 v6 : Option V), σ = [some (.ref a), some (.ref q), v2, v3, v4, v5, v6] ∧ Same H H' ∧ RowsAt H' pc ps (rowsOf h t (h + 1)) ∧ StopsAt H' q ts (planT h t) (stopsN (planT h t) n))
      ⟨[], none, none, none, none, none, rfl, sH1, N1.at_, ⟨s1 _ _ upd_same, rfl, fun i t e => by simp at e⟩⟩ (fun n σ H2 _ ⟨_, _, _, _, _, _, _, _, R2, _⟩ => SqL.of R2.at_) ?_ ?_⟩
    · rintro n x σ H2 T hx ⟨ts, v2, v3, v4, v5, v6, rfl, s2, R2, S2⟩ hT
      have hn : n ≤ h := by
        have := (List.getElem?_eq_some_iff.mp hx).1
        omega
      obtain ⟨r, hr1, hr2, hr3⟩ := R2.get (getP hn)
      rw [hr2] at hx
      cases hx
      obtain ⟨d, hd⟩ : ∃ d, t[n]? = some d := ⟨_, List.getElem?_eq_getElem (by omega)⟩
      obtain ⟨r0, hd1, hd2, hd3⟩ := R.get hd
      have triD := tri n d hd
      have sT : Same H2 (upd H2 T (.tup [.int (n : Nat), .ref r])) := same_upd hT
      have dec : ∀ {s : Nat}, s ≤ n → d[s]? = some (Kxd7.decision (planT h t) n s) := fun {s} hs => by
        have e : t.getD n [] = d := by
          rw [List.getD_eq_getElem?_getD, hd]
          rfl
        have hs' : s < d.length := by omega
        show d[s]? = some ((t.getD n []).getD s 1)
        rw [e, List.getElem?_eq_getElem hs']
        simp [List.getD, hs']
      refine ⟨T, _, rfl, SqT.of upd_same, rfl, _, _, rfl, _, _, rfl, rfl, ?_⟩
      refine ⟨_, rfl, r, _, rfl, SqL.of (sT _ _ hr3), for_enum (K := K) (a := r) (xs := nats (Kxd7.pathRow (planT h t) n)) (fun j σ H' => ∃ (ts : List Addr) (v4 v5 v6 : Option V), σ = [some (.ref a), some (.ref q), some (.int n), some (.ref r), v4, v5, v6] ∧ Same H H' ∧ RowsAt H' pc ps (rowsOf h t (h + 1)) ∧ StopsAt H' q ts (planT h t) (stopsN (planT h t) n ++ rowStops (planT h t) n j))
        ⟨ts, v4, v5, v6, rfl, s2.trans sT, R2.same sT, ?_⟩ (fun j σ H3 _ ⟨_, _, _, _, _, _, R3, _⟩ => ?_) ?_ ?_⟩
      · have e : stopsN (planT h t) n ++ rowStops (planT h t) n 0 = stopsN (planT h t) n := List.append_nil _
        rw [e]
        exact S2.same sT
      · obtain ⟨r', e1, _, e3⟩ := R3.get (getP hn)
        rw [hr1] at e1
        cases e1
        exact SqL.of e3
      · rintro j x σ H3 T2 hx ⟨ts, v4, v5, v6, rfl, s3, R3, S3⟩ hT2
        have hj : j ≤ n := by
          have := (List.getElem?_eq_some_iff.mp hx).1
          rw [nats_len, pathRow_len] at this
          omega
        have ex : x = V.int (Kxd7.paths (planT h t) n j : Nat) := by
          have := nats_get (getD_get (show j < (Kxd7.pathRow (planT h t) n).length by rw [pathRow_len]; omega))
          rw [this] at hx
          exact (Option.some.inj hx).symm
        subst ex
        have sT2 : Same H3 (upd H3 T2 (.tup [.int (j : Nat), .int (Kxd7.paths (planT h t) n j : Nat)])) := same_upd hT2
        have s4 := s3.trans sT2
        have R4 := R3.same sT2
        have S4 := S3.same sT2
        refine ⟨T2, _, rfl, SqT.of upd_same, rfl, _, _, rfl, _, _, rfl, rfl, ?_⟩
        refine ⟨_, rfl, _, rfl, a, _, _, _, rfl, rfl, SqL.of (s4 _ _ R.at_), at_of rfl hd2, _, rfl, r0, _, _, _, rfl, rfl, SqL.of (s4 _ _ hd3), at_of rfl (nats_get (dec hj)), ?_⟩
        refine ⟨_, rfl, rfl, _, rfl, ?_⟩
        have fin : (Kxd7.decision (planT h t) n j != 0 && (Kxd7.pathRow (planT h t) n).getD j 0 != 0) = false → rowStops (planT h t) n (j + 1) = rowStops (planT h t) n j := fun e => by
          rw [rowStops_succ, if_neg (by rw [e]; exact Bool.false_ne_true), List.append_nil]
        by_cases h0 : Kxd7.decision (planT h t) n j = 0
        · have e0 : (!decide (V.int (Kxd7.decision (planT h t) n j : Nat) = V.int 0)) = false := by
            rw [decide_eq_true (by rw [h0]; rfl)]
            rfl
          rw [e0]
          refine iteF (iteF ⟨ts, _, _, _, rfl, s4, R4, ?_⟩)
          rw [fin (by rw [h0]; rfl)]
          exact S4
        · have e0 : (!decide (V.int (Kxd7.decision (planT h t) n j : Nat) = V.int 0)) = true := by
            rw [decide_eq_false (show ¬ V.int (Kxd7.decision (planT h t) n j : Nat) = V.int 0 from fun z => h0 (intN (b := 0) z))]
            rfl
          rw [e0]
          refine iteT ⟨_, rfl, _, _, rfl, rfl, _, rfl, ?_⟩
          by_cases h1 : Kxd7.paths (planT h t) n j = 0
          · rw [decide_eq_false (show ¬ (0 : Int) < (Kxd7.paths (planT h t) n j : Int) by omega)]
            refine iteF ⟨ts, _, _, _, rfl, s4, R4, ?_⟩
            have h2 : (Kxd7.pathRow (planT h t) n).getD j 0 = 0 := h1
            rw [fin (by rw [h2]; simp)]
            exact S4
          · rw [decide_eq_true (show (0 : Int) < (Kxd7.paths (planT h t) n j : Int) by omega)]
            refine iteT ⟨_, rfl, .inl ⟨rfl, _, SqL.of S4.at_⟩, _, rfl, _, rfl, _, rfl, _, rfl, (by show 4 ≤ sizeLine; decide), fun T3 hT3 => ?_⟩
            have sT3 : Same _ (upd (upd H3 T2 (.tup [.int (j : Nat), .int (Kxd7.paths (planT h t) n j : Nat)])) T3 (.tup (stopV (planT h t) (n, j)))) := same_upd hT3
            have S5 := (S4.same sT3).push (z := (n, j)) upd_same
            have lts : ts.length ≤ 1000 := by
              rw [S3.len, List.length_append]
              have h1 := stopsN_len (planT h t) n (by omega)
              have h2 := rowStops_len (planT h t) n j
              omega
            refine ⟨q, _, _, rfl, rfl, sT3 _ _ S4.at_, by rw [List.length_map]; omega, ts ++ [T3], _, _, _, rfl, fun b o e => ?_, ?_, ?_⟩
            · rw [upd_ne (ne_of_none e hq)]
              exact sT3 _ _ (s4 _ _ e)
            · have R5 := R4.same sT3
              have npc : pc ≠ q := fun z => by
                have := N1.fresh
                rw [z, upd_same] at this
                cases this
              refine ⟨by rw [upd_ne npc]; exact R5.at_, R5.len, fun i r e => ?_, R5.nd, R5.ne⟩
              obtain ⟨d', h1, h2⟩ := R5.row i r e
              refine ⟨d', h1, ?_⟩
              have nrq : r ≠ q := fun z => by
                have := N1.free r (List.mem_of_getElem? e)
                rw [z, upd_same] at this
                cases this
              rw [upd_ne nrq]
              exact h2
            · have e5 : stopsN (planT h t) n ++ rowStops (planT h t) n (j + 1) = (stopsN (planT h t) n ++ rowStops (planT h t) n j) ++ [(n, j)] := by
                rw [rowStops_succ, if_pos, List.append_assoc]
                rw [Bool.and_eq_true]
                refine ⟨?_, ?_⟩
                · rw [bne_iff_ne]; exact h0
                · rw [bne_iff_ne]; exact h1
              rw [e5]
              exact S5
      · rintro σ H3 ⟨ts, v4, v5, v6, rfl, s3, R3, S3⟩
        rw [nats_len, pathRow_len, ← stopsN_succ] at S3
        exact ⟨ts, _, _, _, _, _, rfl, s3, R3, S3⟩
    · rintro σ H2 ⟨ts, v2, v3, v4, v5, v6, rfl, s2, R2, S2⟩
      rw [lenPs] at S2
      exact ⟨_, rfl, k H2 q ts s2 hq S2⟩
end
end St
set_option Elab.async false
set_option linter.all false
set_option maxRecDepth 100000
set_option maxHeartbeats 2000000
set_option exponentiation.threshold 100000
/-! W13: the problem of two probabilities, in whole numbers. -/
namespace St
open PySem PySem.Spec PyProof.Rows L2 NdefX LamX
/-- within a comprehension: the written part named -/
theorem ix_listK {X : Cx} {K : PySem.W.Frag} (e : X.K = K) : IxR X (rIxL K) := by
  subst e
  exact ix_list
theorem ix_tupK {X : Cx} {K : PySem.W.Frag} (e : X.K = K) : IxR X (rIxT K) := by
  subst e
  exact ix_tup
/-- the joint probability, times what makes all of them whole numbers -/
def wgt (h pr x d n s : Nat) : Nat := pr * d ^ (h - n) * x ^ s * (d - x) ^ (n - s)
theorem npow_small {x s : Nat} (hx : x ≤ 1024) (hs : s ≤ 20) : x ^ s < 2 ^ 201 := by
  have h2 : x ^ s ≤ (2 ^ 10) ^ s := Nat.pow_le_pow_left (by omega) s
  rw [← Nat.pow_mul] at h2
  have h3 : 2 ^ (10 * s) ≤ 2 ^ 200 := Nat.pow_le_pow_right (by decide) (by omega)
  have h4 : 2 ^ 200 < 2 ^ 201 := Nat.pow_lt_pow_right (by decide) (by decide)
  omega
theorem cast_pow (x n : Nat) : ((x : Int) ^ n) = ((x ^ n : Nat) : Int) := (Int.natCast_pow x n).symm
theorem mul_lt2 {a b i j : Nat} (ha : a < 2 ^ i) (hb : b < 2 ^ j) : a * b < 2 ^ (i + j) := by
  rw [Nat.pow_add]
  exact Nat.mul_lt_mul'' ha hb
theorem cmulN {a b i j : Nat} (ha : a < 2 ^ i) (hb : b < 2 ^ j) (h0 : 0 < i) (h1 : 0 < j) (h : i + j ≤ 1000000) : CMulW (a : Int) (b : Int) := wide_mul (by rw [Int.natAbs_natCast]; exact ha) (by rw [Int.natAbs_natCast]; exact hb) h0 h1 h
section
variable {P : Program} {w : World} {K : PySem.W.Frag} {mg : Str → Option Value} {base : Heap}
def sp_joint_weights : Sp := fun vs H Q _ => ∃ h pr x d : Nat, vs = [.int h, .int pr, .int x, .int d] ∧ h ≤ 20 ∧ pr ≤ 1000 ∧ x ≤ d ∧ d ≤ 1000 ∧ ∀ H' a rs, Same H H' → NewRows H H' a rs (table h (wgt h pr x d)) → Q (.ref a) H'
theorem c_joint_weights (gl : Glb mg) (F : DefB K mg "joint_weights" s_joint_weights ["horizon", "prior", "p", "divisor"]) (c1 : Cal0 P w K mg base 1 "powers" sp_powers) : Cal0 P w K mg base 2 "joint_weights" sp_joint_weights := by
  obtain ⟨fa, fd, F, b⟩ := F.ex
  refine C8.cal0 F b .nil (C8.fnScope_by (N := ["horizon", "prior", "p", "divisor", "success", "failure", "scale", "weights", "n", "common", "s"]) (by decide +kernel)) (fun vs H Q E h => ?_) (fun cdv A outer s H vs Q E hr h => ?_)
  · obtain ⟨_, _, _, _, rfl, _⟩ := h
    rfl
  · obtain ⟨h, pr, x, d, rfl, hh, hpr, hx, hd, k⟩ := h
    have nd : (["horizon", "prior", "p", "divisor", "success", "failure", "scale", "weights", "n", "common", "s"] : List Str).Nodup := by decide +kernel
    have hz := sizeLine_eq
    refine ⟨_, pss_cons (ps_set (i := 4) nd rfl (.inr rfl) (C8.pe_c c1 hr (by decide) rfl (pa_cons (pv 2) (pa_cons (pv 0) pa_nil))))
      (pss_cons (ps_set (i := 5) nd rfl (.inr rfl) (C8.pe_c c1 hr (by decide) rfl (pa_cons (pe_op op_sub (pv 3) (pv 2)) (pa_cons (pv 0) pa_nil))))
      (pss_cons (ps_set (i := 6) nd rfl (.inl rfl) (C8.pe_c c1 hr (by decide) rfl (pa_cons (pv 3) (pa_cons (pv 0) pa_nil))))
      (pss_cons (ps_set (i := 7) nd rfl (.inl rfl) (pe_lst pa_nil))
      (pss_cons (ps_for PassesOwn.never rfl (pi_range1 rfl gl.range (pa_cons (pe_op op_add (pv 0) pe_int) pa_nil)) (pg_name (i := 8) nd rfl (.inr rfl))
        (pss_cons (ps_set (i := 9) nd rfl (.inr rfl) (pe_op op_mulW (pv 1) (pe_ix ix_list (pv 6) (pe_op op_sub (pv 0) (pv 8)) (fun _ _ => rfl))))
        (pss_one (ps_expr (pe_bm PySem.F.plainAttrs_list PySem.F.slot_list_append PySem.F.type_list_append mt_append (pv 7)
          (pa_cons (pe_lc (own := [("s", 10)]) (g := gName 10) (tt := tYes) rfl nd (pi_range1 rfl gl.range (pa_cons (pe_op op_add (pv 8) pe_int) pa_nil)) (blkOk_by (N := ["horizon", "prior", "p", "divisor", "success", "failure", "scale", "weights", "n", "common", "s"]) (sc := C8.fnScope s_joint_weights) (by decide +kernel))
            (fun _ _ _ _ _ => pg_name (i := 10) nd rfl (.inl rfl)) (fun _ _ _ _ _ => pts_nil) (fun _ _ _ _ _ => pe_op op_mulW (pe_op op_mulW (pv 9) (pe_ix (ix_listK (K := K) rfl) (pv 4) (pv 10) (fun _ _ => rfl))) (pe_ix (ix_listK (K := K) rfl) (pv 5) (pe_op op_sub (pv 8) (pv 10)) (fun _ _ => rfl)))) pa_nil))))))
      (pss_one (ps_ret (pv 7))))))), ?_⟩
    have ed : (d : Int) - (x : Int) = ((d - x : Nat) : Int) := by omega
    refine ⟨_, rfl, _, rfl, x, h, rfl, ⟨by omega, by omega⟩, by omega, fun H1 sa N1 => ?_⟩
    refine ⟨_, rfl, _, rfl, _, _, rfl, rfl, _, rfl, (d : Int) - (x : Int), h, rfl, ⟨by omega, by omega⟩, by omega, fun H2 fa N2 => ?_⟩
    refine ⟨_, rfl, _, rfl, d, h, rfl, ⟨by omega, by omega⟩, by omega, fun H3 ca N3 => ?_⟩
    refine ⟨Nat.zero_le _, fun l hl => ?_⟩
    have s3 : Same H H3 := (N1.same.trans N2.same).trans N3.same
    have a1 : H3 sa = some (.lst (pows x (h + 1))) := (N2.same.trans N3.same) _ _ N1.at_
    have a2 : H3 fa = some (.lst (pows ((d : Int) - (x : Int)) (h + 1))) := N3.same _ _ N2.at_
    have a3 := N3.at_
    have hlH := s3.free hl
    have sl : Same H3 (upd H3 l (.lst [])) := same_upd hl
    refine ⟨_, rfl, _, _, rfl, rfl, _, rfl, by omega, by omega, for_range (lo := 0) (n := h + 1) (fun i σ H' => ∃ v8 v9 rs, σ = [some (.int h), some (.int pr), some (.int x), some (.int d), some (.ref sa), some (.ref fa), some (.ref ca), some (.ref l), v8, v9, none] ∧ Same H3 H' ∧ RowsAt H' l rs ((table h (wgt h pr x d)).take i) ∧ ∀ r, r ∈ rs → H3 r = Option.none)
      ⟨none, none, [], rfl, sl, ⟨upd_same, rfl, fun i r e => by simp at e, List.nodup_nil, by simp⟩, fun r hr => absurd hr (by simp)⟩ ?_ ?_⟩
    · rintro i σ H4 hi ⟨v8, v9, rs, rfl, s4, R, fr⟩
      have e0 : (0 + (i : Int)) = (i : Int) := Int.zero_add _
      rw [e0]
      have b1 : d ^ (h - i) < 2 ^ 201 := npow_small (by omega) (by omega)
      have hpr2 : pr < 2 ^ 10 := by omega
      have ecom : V.int ((pr : Int) * (d : Int) ^ (h - i)) = V.int ((pr * d ^ (h - i) : Nat) : Int) := by rw [cast_pow, Int.natCast_mul]
      refine ⟨_, rfl, _, rfl, _, rfl, _, rfl, _, _, rfl, rfl, ca, _, _, _, rfl, rfl, SqL.of (s4 _ _ a3), at_of (j := h - i) (by omega) (pows_get (by omega)), _, _, rfl, rfl, by rw [cast_pow]; exact cmulN hpr2 b1 (by decide) (by decide) (by decide), ?_⟩
      rw [show (fun i j : Int => V.int (i * j)) (pr : Int) ((d : Int) ^ (h - i)) = _ from ecom]
      refine ⟨_, rfl, .inl ⟨rfl, _, SqL.of R.at_⟩, _, rfl, _, _, rfl, rfl, _, rfl, by omega, by omega, fun D hD => lc_range (lo := 0) (n := i + 1) (fun j H5 => H5 = upd H4 D (.lst (nats ((List.range j).map (wgt h pr x d i))))) rfl ?_ ?_⟩
      · rintro j H5 hj rfl
        have e1 : (0 + (j : Int)) = (j : Int) := Int.zero_add _
        rw [e1]
        have s5 : Same H3 (upd H4 D (.lst (nats ((List.range j).map (wgt h pr x d i))))) := s4.trans (same_upd hD)
        have b2 : x ^ j < 2 ^ 201 := npow_small (by omega) (by omega)
        have b3 : (d - x) ^ (i - j) < 2 ^ 201 := npow_small (by omega) (by omega)
        have b4 := mul_lt2 hpr2 b1
        have b5 := mul_lt2 b4 b2
        refine ⟨rfl, _, rfl, _, rfl, _, rfl, sa, _, _, _, rfl, rfl, SqL.of (s5 _ _ a1), at_of rfl (pows_get (by omega)), _, _, rfl, rfl, by rw [cast_pow]; exact cmulN b4 b2 (by decide) (by decide) (by decide), _, rfl, _, rfl, _, rfl, _, _, rfl, rfl, fa, _, _, _, rfl, rfl, SqL.of (s5 _ _ a2), at_of (j := i - j) (by omega) (pows_get (by omega)), _, _, rfl, rfl, ?_, _, upd_same, ?_, ?_⟩
        · rw [cast_pow, ← Int.natCast_mul, ed, cast_pow]
          exact cmulN b5 b3 (by decide) (by decide) (by decide)
        · rw [nats_len, List.length_map, List.length_range]
          omega
        · rw [upd_upd, List.range_succ, List.map_append]
          unfold nats
          rw [List.map_append]
          have e9 : V.int ((((pr * d ^ (h - i) : Nat) : Int) * (x : Int) ^ j) * ((d : Int) - (x : Int)) ^ (i - j)) = V.int (wgt h pr x d i j : Nat) := by
            unfold wgt
            rw [ed, cast_pow, cast_pow, ← Int.natCast_mul, ← Int.natCast_mul]
          show upd H4 D (.lst (_ ++ [V.int ((((pr * d ^ (h - i) : Nat) : Int) * (x : Int) ^ j) * ((d : Int) - (x : Int)) ^ (i - j))])) = _
          rw [e9]
          rfl
      · rintro H5 rfl
        have lD : l ≠ D := ne_of_none R.at_ hD
        have lenR : rs.length = i := by
          rw [R.len, List.length_take]
          unfold table
          rw [List.length_map, List.length_range]
          omega
        refine ⟨l, _, _, rfl, rfl, (upd_ne lD).trans R.at_, ?_, ?_⟩
        · rw [List.length_map, lenR]
          omega
        · have e2 : (table h (wgt h pr x d)).take (i + 1) = (table h (wgt h pr x d)).take i ++ [(List.range (i + 1)).map (wgt h pr x d i)] := take_snoc (table_get (by omega))
          refine ⟨_, _, rs ++ [D], rfl, fun b o e => ?_, ?_, fun r hr => ?_⟩
          · rw [upd_ne (ne_of_none e hl)]
            exact same_upd hD _ _ (s4 _ _ e)
          · rw [e2]
            exact R.snoc hD
          · rcases List.mem_append.mp hr with z | z
            · exact fr r z
            · have : r = D := by simpa using z
              subst this
              exact s4.free hD
    · rintro σ H4 ⟨v8, v9, rs, rfl, s4, R, fr⟩
      refine ⟨_, rfl, ?_⟩
      have e : (table h (wgt h pr x d)).take (h + 1) = table h (wgt h pr x d) := List.take_of_length_le (by unfold table; rw [List.length_map, List.length_range]; omega)
      rw [e] at R
      exact k H4 l rs (s3.trans s4) ⟨R, hlH, fun r hr => s3.free (fr r hr)⟩
end
end St
set_option Elab.async false
set_option linter.all false
set_option maxRecDepth 100000
set_option maxHeartbeats 2000000
set_option exponentiation.threshold 100000
/-! W14: the best decisions of a row. -/
namespace St
open PySem PySem.Spec PyProof.Rows L2 NdefX LamX
/-- the numbers of a problem -/
structure PB where
  p0 : Nat
  p1 : Nat
  d : Nat
  pr : Nat
  pd : Nat
  c : Nat
  l0 : Nat
  l1 : Nat
def pF (b : PB) : List (Str × V) := [("p0", .int b.p0), ("p1", .int b.p1), ("divisor", .int b.d), ("prior", .int b.pr), ("prior_divisor", .int b.pd), ("cost", .int b.c), ("loss0", .int b.l0), ("loss1", .int b.l1)]
def ProbAt (C : Addr) (H : Hp) (a : Addr) (b : PB) : Prop := ∃ dx, H a = some (.ins C dx (pF b))
theorem lk_here {k : Str} {v : V} {r : List (Str × V)} : List.lookup k ((k, v) :: r) = some v := by
  have e : (k == k) = true := beq_self_eq_true k
  simp only [List.lookup, e]
theorem lk_past {k g : Str} {v : V} {r : List (Str × V)} (h : (k == g) = false) : List.lookup k ((g, v) :: r) = List.lookup k r := by
  simp only [List.lookup, h]
theorem pF_p0 (b : PB) : (pF b).lookup ("p0" : Str) = some (.int b.p0) := lk_here
theorem pF_p1 (b : PB) : (pF b).lookup ("p1" : Str) = some (.int b.p1) := (lk_past (by decide +kernel)).trans lk_here
theorem pF_d (b : PB) : (pF b).lookup ("divisor" : Str) = some (.int b.d) := (lk_past (by decide +kernel)).trans ((lk_past (by decide +kernel)).trans lk_here)
theorem pF_pr (b : PB) : (pF b).lookup ("prior" : Str) = some (.int b.pr) := (lk_past (by decide +kernel)).trans ((lk_past (by decide +kernel)).trans ((lk_past (by decide +kernel)).trans lk_here))
theorem pF_pd (b : PB) : (pF b).lookup ("prior_divisor" : Str) = some (.int b.pd) := (lk_past (by decide +kernel)).trans ((lk_past (by decide +kernel)).trans ((lk_past (by decide +kernel)).trans ((lk_past (by decide +kernel)).trans lk_here)))
theorem pF_c (b : PB) : (pF b).lookup ("cost" : Str) = some (.int b.c) := (lk_past (by decide +kernel)).trans ((lk_past (by decide +kernel)).trans ((lk_past (by decide +kernel)).trans ((lk_past (by decide +kernel)).trans ((lk_past (by decide +kernel)).trans lk_here))))
theorem pF_l0 (b : PB) : (pF b).lookup ("loss0" : Str) = some (.int b.l0) := (lk_past (by decide +kernel)).trans ((lk_past (by decide +kernel)).trans ((lk_past (by decide +kernel)).trans ((lk_past (by decide +kernel)).trans ((lk_past (by decide +kernel)).trans ((lk_past (by decide +kernel)).trans lk_here)))))
theorem pF_l1 (b : PB) : (pF b).lookup ("loss1" : Str) = some (.int b.l1) := (lk_past (by decide +kernel)).trans ((lk_past (by decide +kernel)).trans ((lk_past (by decide +kernel)).trans ((lk_past (by decide +kernel)).trans ((lk_past (by decide +kernel)).trans ((lk_past (by decide +kernel)).trans ((lk_past (by decide +kernel)).trans lk_here))))))
/-- the class Problem as the top has written it -/
structure PCls (K : PySem.W.Frag) (C : Addr) : Prop where
  cl : Cls K C
  p0 : NoAttr K C "p0"
  p1 : NoAttr K C "p1"
  d : NoAttr K C "divisor"
  pr : NoAttr K C "prior"
  pd : NoAttr K C "prior_divisor"
  c : NoAttr K C "cost"
  l0 : NoAttr K C "loss0"
  l1 : NoAttr K C "loss1"
/-- the cheaper way to stop -/
def stopN (a r : Nat) : Nat × Nat := if a ≤ r then (1, a) else (2, r)
def pairV (z : Nat × Nat) : List V := [.int z.1, .int z.2]
/-- at a a list of pairs -/
structure PairsAt (H : Hp) (a : Addr) (ts : List Addr) (l : List (Nat × Nat)) : Prop where
  at_ : H a = some (.lst (ts.map V.ref))
  len : ts.length = l.length
  tup : ∀ (i : Nat) (t : Addr), ts[i]? = some t → ∃ z, l[i]? = some z ∧ H t = some (.tup (pairV z))
theorem PairsAt.push {H : Hp} {a T : Addr} {ts : List Addr} {l : List (Nat × Nat)} {z : Nat × Nat} (S : PairsAt H a ts l) (hT : H T = some (.tup (pairV z))) : PairsAt (upd H a (.lst (ts.map V.ref ++ [V.ref T]))) a (ts ++ [T]) (l ++ [z]) := by
  have ne : ∀ t xs, H t = some (.tup xs) → t ≠ a := fun t xs e q => by
    rw [q, S.at_] at e
    cases e
  refine ⟨?_, ?_, fun q r e => ?_⟩
  · rw [upd_same, List.map_append]
    rfl
  · rw [List.length_append, List.length_append, S.len]
    rfl
  · by_cases hq : q < ts.length
    · rw [List.getElem?_append_left hq] at e
      obtain ⟨d, h1, h2⟩ := S.tup q r e
      refine ⟨d, ?_, ?_⟩
      · rw [List.getElem?_append_left (by rw [← S.len]; exact hq)]
        exact h1
      · rw [upd_ne (ne _ _ h2)]
        exact h2
    · rw [List.getElem?_append_right (by omega)] at e
      have e2 : q = ts.length := by
        have := (List.getElem?_eq_some_iff.mp e).1
        have h1 : ([T] : List Addr).length = 1 := rfl
        omega
      subst e2
      rw [Nat.sub_self] at e
      have e3 : T = r := Option.some.inj e
      subst e3
      refine ⟨z, ?_, ?_⟩
      · rw [S.len, List.getElem?_append_right (Nat.le_refl _), Nat.sub_self]
        rfl
      · rw [upd_ne (ne _ _ hT)]
        exact hT
theorem PairsAt.same {H H' : Hp} {a : Addr} {ts : List Addr} {l : List (Nat × Nat)} (S : PairsAt H a ts l) (s : Same H H') : PairsAt H' a ts l :=
  ⟨s _ _ S.at_, S.len, fun i t e => let ⟨z, h1, h2⟩ := S.tup i t e; ⟨z, h1, s _ _ h2⟩⟩
theorem PairsAt.get {H : Hp} {a : Addr} {ts : List Addr} {l : List (Nat × Nat)} (S : PairsAt H a ts l) {n : Nat} {z : Nat × Nat} (h : l[n]? = some z) : ∃ t, (ts.map V.ref)[n]? = some (V.ref t) ∧ H t = some (.tup (pairV z)) := by
  have hn : n < ts.length := by rw [S.len]; exact (List.getElem?_eq_some_iff.mp h).1
  obtain ⟨d', h1, h2⟩ := S.tup n _ (List.getElem?_eq_getElem hn)
  rw [h] at h1
  cases h1
  exact ⟨_, by rw [List.getElem?_map, List.getElem?_eq_getElem hn]; rfl, h2⟩
/-- the best decision at a point -/
def bestN (b : PB) (later : List (Nat × Nat)) (w0 w1 s : Nat) : Nat × Nat :=
  let ch := stopN (b.l1 * w1) (b.l0 * w0)
  if later.isEmpty = true then ch else
    let g := b.c * (w0 + w1) + (later.getD s (0, 0)).2 + (later.getD (s + 1) (0, 0)).2
    if g < ch.2 then (0, g) else ch
def bestRow (b : PB) (w0 w1 : List Nat) (later : List (Nat × Nat)) : List (Nat × Nat) := (List.range w0.length).map fun s => bestN b later (w0.getD s 0) (w1.getD s 0) s
theorem getD_pair {l : List (Nat × Nat)} {i : Nat} (h : i < l.length) : l[i]? = some (l.getD i (0, 0)) := by
  rw [List.getElem?_eq_getElem h]
  simp [List.getD, h]
section
variable {P : Program} {w : World} {K : PySem.W.Frag} {mg : Str → Option Value} {base : Heap}
def sp_stopping : Sp := fun vs H Q _ => ∃ a r : Nat, vs = [.int a, .int r] ∧ ∀ H' p, New H H' p (.tup (pairV (stopN a r))) → Q (.ref p) H'
theorem c_stopping (gl : Glb mg) (F : DefB K mg "stopping" s_stopping ["accepting", "rejecting"]) : Cal0 P w K mg base 1 "stopping" sp_stopping := by
  obtain ⟨fa, fd, F, b⟩ := F.ex
  refine C8.cal0 F b .nil (C8.fnScope_by (N := ["accepting", "rejecting"]) (by decide +kernel)) (fun vs H Q E h => ?_) (fun cdv A outer s H vs Q E hr h => ?_)
  · obtain ⟨_, _, rfl, _⟩ := h
    rfl
  · obtain ⟨a, r, rfl, k⟩ := h
    refine ⟨_, pss_cons (ps_if (pt_cmpR op_le (pv 0) (pv 1) (nomark _)) (pss_one (ps_ret (pe_tup (pa_cons (C8.pe_gc rfl gl.ACCEPT) (pa_cons (pv 0) pa_nil))))) pss_nil)
      (pss_one (ps_ret (pe_tup (pa_cons (C8.pe_gc rfl gl.REJECT) (pa_cons (pv 1) pa_nil))))), ?_⟩
    refine ⟨_, rfl, _, rfl, _, _, rfl, rfl, _, rfl, ?_⟩
    unfold stopN at k
    by_cases h : a ≤ r
    · rw [decide_eq_true (show (a : Int) ≤ (r : Int) by omega)]
      rw [if_pos h] at k
      exact iteT ⟨_, rfl, (by show 2 ≤ sizeLine; decide), fun p hp => k _ p (new_upd hp)⟩
    · rw [decide_eq_false (show ¬ (a : Int) ≤ (r : Int) by omega)]
      rw [if_neg h] at k
      exact iteF ⟨_, rfl, (by show 2 ≤ sizeLine; decide), fun p hp => k _ p (new_upd hp)⟩
def sp_best_row (K : PySem.W.Frag) (C : Addr) : Sp := fun vs H Q _ => ∃ (pa a0 a1 la : Addr) (b : PB) (w0 w1 : List Nat) (lts : List Addr) (l : List (Nat × Nat)), vs = [.ref pa, .ref a0, .ref a1, .ref la] ∧ ProbAt C H pa b ∧ SqL K H a0 (nats w0) ∧ SqL K H a1 (nats w1) ∧ PairsAt H la lts l ∧
  w0.length = w1.length ∧ w0.length ≤ 100 ∧ (l = [] ∨ l.length = w0.length + 1) ∧ (∀ x ∈ w0, x < 2 ^ 700) ∧ (∀ x ∈ w1, x < 2 ^ 700) ∧ b.c ≤ 1000 ∧ b.l0 ≤ 100000 ∧ b.l1 ≤ 100000 ∧
  ∀ H' q ts, Same H H' → H q = Option.none → PairsAt H' q ts (bestRow b w0 w1 l) → Q (.ref q) H'
theorem c_best_row {C : Addr} (gl : Glb mg) (T_ : PCls K C) (F : DefB K mg "best_row" s_best_row ["problem", "weights0", "weights1", "later"]) (c1 : Cal0 P w K mg base 1 "stopping" sp_stopping) : Cal0 P w K mg base 2 "best_row" (sp_best_row K C) := by
  obtain ⟨fa, fd, F, b⟩ := F.ex
  refine C8.cal0 F b .nil (C8.fnScope_by (N := ["problem", "weights0", "weights1", "later", "best", "s", "weight0", "weight1", "choice", "going_on"]) (by decide +kernel)) (fun vs H Q E h => ?_) (fun cdv A outer s H vs Q E hr h => ?_)
  · obtain ⟨_, _, _, _, _, _, _, _, _, rfl, _⟩ := h
    rfl
  · obtain ⟨pa, a0, a1, la, b, w0, w1, lts, l, rfl, ⟨dx, hp⟩, h0, h1, hl, elen, hlen, hll, hw0, hw1, hc, hl0, hl1, k⟩ := h
    have nd : (["problem", "weights0", "weights1", "later", "best", "s", "weight0", "weight1", "choice", "going_on"] : List Str).Nodup := by decide +kernel
    have hz := sizeLine_eq
    refine ⟨_, pss_cons (ps_set (i := 4) nd rfl (.inl rfl) (pe_lst pa_nil))
      (pss_cons (ps_for PassesOwn.never rfl (pi_enum rfl gl.enumerate (pa_cons (pv 1) pa_nil)) (pg_tup rfl (pgs_cons (pg_name (i := 5) nd rfl (.inl rfl)) (pgs_cons (pg_name (i := 6) nd rfl (.inl rfl)) pgs_nil)))
        (pss_cons (ps_set (i := 7) nd rfl (.inl rfl) (pe_ix ix_list (pv 2) (pv 5) (fun _ _ => rfl)))
        (pss_cons (ps_set (i := 8) nd rfl (.inl rfl) (C8.pe_c c1 hr (by decide) rfl (pa_cons (pe_op op_mulW (pe_fld (pv 0) rfl) (pv 7)) (pa_cons (pe_op op_mulW (pe_fld (pv 0) rfl) (pv 6)) pa_nil))))
        (C8.pss_cut (ps_if (pt_truth (pv 3) (by intro _; rfl))
          (pss_cons (ps_set (i := 9) nd rfl (.inl rfl) (pe_op op_add (pe_op op_add (pe_op op_mulW (pe_fld (pv 0) rfl) (pe_op op_add (pv 6) (pv 7))) (pe_ix ix_tup (pe_ix ix_list (pv 3) (pv 5) (fun _ _ => rfl)) pe_int (fun _ _ => rfl))) (pe_ix ix_tup (pe_ix ix_list (pv 3) (pe_op op_add (pv 5) pe_int) (fun _ _ => rfl)) pe_int (fun _ _ => rfl))))
          (pss_one (ps_if (pt_cmpR op_lt (pv 9) (pe_ix ix_tup (pv 8) pe_int (fun _ _ => rfl)) (nomark _)) (pss_one (ps_set (i := 8) nd rfl (.inl rfl) (pe_tup (pa_cons (C8.pe_gc rfl gl.GO_ON) (pa_cons (pv 9) pa_nil))))) pss_nil))) pss_nil)
        (pss_one (ps_expr (pe_bm PySem.F.plainAttrs_list PySem.F.slot_list_append PySem.F.type_list_append mt_append (pv 4) (pa_cons (pv 8) pa_nil))))))))
      (pss_one (ps_ret (pv 4)))), ?_⟩
    refine ⟨Nat.zero_le _, fun q hq => ?_⟩
    have sq : Same H (upd H q (.lst [])) := same_upd hq
    refine ⟨_, rfl, a0, _, rfl, sq.seq h0, for_enum (K := K) (a := a0) (xs := nats w0) (fun j σ H' => ∃ (ts : List Addr) (v5 v6 v7 v8 v9 : Option V), σ = [some (.ref pa), some (.ref a0), some (.ref a1), some (.ref la), some (.ref q), v5, v6, v7, v8, v9] ∧ Same H H' ∧ PairsAt H' q ts ((List.range j).map fun s => bestN b l (w0.getD s 0) (w1.getD s 0) s))
      ⟨[], none, none, none, none, none, rfl, sq, ⟨upd_same, rfl, fun i t e => by simp at e⟩⟩ (fun j σ H2 _ ⟨_, _, _, _, _, _, _, s2, _⟩ => s2.seq h0) ?_ ?_⟩
    · rintro j x σ H2 T hx ⟨ts, v5, v6, v7, v8, v9, rfl, s2, S2⟩ hT
      have hj : j < w0.length := by
        have := (List.getElem?_eq_some_iff.mp hx).1
        rw [nats_len] at this
        exact this
      have ex : x = V.int (w0.getD j 0 : Nat) := by
        have := nats_get (getD_get hj)
        rw [this] at hx
        exact (Option.some.inj hx).symm
      subst ex
      have g1 := getD_get (show j < w1.length by omega)
      have b0 : w0.getD j 0 < 2 ^ 700 := hw0 _ (List.mem_of_getElem? (getD_get hj))
      have b1 : w1.getD j 0 < 2 ^ 700 := hw1 _ (List.mem_of_getElem? g1)
      generalize ey0 : w0.getD j 0 = y0 at *
      generalize ey1 : w1.getD j 0 = y1 at *
      have sT : Same H2 (upd H2 T (.tup [.int (j : Nat), .int (y0 : Nat)])) := same_upd hT
      have s3 := s2.trans sT
      have S3 := S2.same sT
      have m0 : CMulW (b.l0 : Int) (y0 : Int) := cmulN (i := 17) (j := 700) (by omega) b0 (by decide) (by decide) (by decide)
      have m1 : CMulW (b.l1 : Int) (y1 : Int) := cmulN (i := 17) (j := 700) (by omega) b1 (by decide) (by decide) (by decide)
      refine ⟨T, _, rfl, SqT.of upd_same, rfl, _, _, rfl, _, _, rfl, rfl, ?_⟩
      refine ⟨_, rfl, _, rfl, a1, _, _, _, rfl, rfl, s3.seq h1, at_of rfl (nats_get g1), ?_⟩
      refine ⟨_, rfl, pa, C, dx, _, _, rfl, s3 _ _ hp, T_.cl, T_.l1, pF_l1 b, _, rfl, _, _, rfl, rfl, m1, _, rfl, pa, C, dx, _, _, rfl, s3 _ _ hp, T_.cl, T_.l0, pF_l0 b, _, rfl, _, _, rfl, rfl, m0, b.l1 * y1, b.l0 * y0, ?_, fun H4 ct N4 => ?_⟩
      · show [V.int ((b.l1 : Int) * (y1 : Int)), V.int ((b.l0 : Int) * (y0 : Int))] = _
        rw [Int.natCast_mul, Int.natCast_mul]
      have s4 := s3.trans N4.same
      have S4 := S3.same N4.same
      refine ⟨fun σ' H' => ∃ (ct : Addr) (v9 : Option V), σ' = [some (.ref pa), some (.ref a0), some (.ref a1), some (.ref la), some (.ref q), some (.int j), some (.int y0), some (.int y1), some (.ref ct), v9] ∧ Same H4 H' ∧ H' ct = some (.tup (pairV (bestN b l y0 y1 j))), ?_, ?_⟩
      · have hl4 := hl.same s4
        refine ⟨_, rfl, !(lts.map V.ref).isEmpty, .inl ⟨_, SqL.of hl4.at_, rfl⟩, ?_⟩
        by_cases e : l = []
        · have e2 : lts = [] := List.eq_nil_of_length_eq_zero (by rw [hl.len, e]; rfl)
          rw [e2]
          refine iteF ⟨ct, v9, rfl, Same.refl _, ?_⟩
          have e3 : bestN b l y0 y1 j = stopN (b.l1 * y1) (b.l0 * y0) := by
            unfold bestN
            rw [e]
            rfl
          rw [e3]
          exact N4.at_
        · have ll : l.length = w0.length + 1 := hll.elim (fun z => absurd z e) id
          have e2 : (!(lts.map V.ref).isEmpty) = true := by
            cases lts with
            | nil =>
              have := hl.len
              rw [ll] at this
              simp at this
            | cons _ _ => rfl
          rw [e2]
          obtain ⟨t1, p1, p2⟩ := hl4.get (getD_pair (show j < l.length by omega))
          obtain ⟨t2, p3, p4⟩ := hl4.get (getD_pair (show j + 1 < l.length by omega))
          generalize eu : l.getD j (0, 0) = u at *
          generalize ev : l.getD (j + 1) (0, 0) = v at *
          have bs : y0 + y1 < 2 ^ 701 := by
            have : (2 : Nat) ^ 701 = 2 ^ 700 + 2 ^ 700 := by decide +kernel
            omega
          have m2 : CMulW (b.c : Int) ((y0 : Int) + (y1 : Int)) := by
            rw [← Int.natCast_add]
            exact cmulN (i := 10) (j := 701) (by omega) bs (by decide) (by decide) (by decide)
          have eb : bestN b l y0 y1 j = if b.c * (y0 + y1) + u.2 + v.2 < (stopN (b.l1 * y1) (b.l0 * y0)).2 then (0, b.c * (y0 + y1) + u.2 + v.2) else stopN (b.l1 * y1) (b.l0 * y0) := by
            unfold bestN
            simp only [eu, ev]
            rw [if_neg (by intro z; exact e (List.isEmpty_iff.mp z))]
          refine iteT ⟨_, rfl, pa, C, dx, _, _, rfl, s4 _ _ hp, T_.cl, T_.c, pF_c b, _, rfl, _, rfl, _, _, rfl, rfl, _, _, rfl, rfl, m2, _, rfl, _, rfl, la, _, _, _, rfl, rfl, SqL.of hl4.at_, at_of rfl p1, t1, _, _, _, rfl, rfl, SqT.of p2, at_of (j := 1) rfl rfl, _, _, rfl, rfl,
            _, rfl, _, rfl, _, _, rfl, rfl, la, _, _, _, rfl, rfl, SqL.of hl4.at_, at_of (j := j + 1) (by omega) p3, t2, _, _, _, rfl, rfl, SqT.of p4, at_of (j := 1) rfl rfl, _, _, rfl, rfl, ?_⟩
          refine ⟨_, rfl, _, rfl, ct, _, _, _, rfl, rfl, SqT.of N4.at_, at_of (j := 1) rfl rfl, _, _, rfl, rfl, _, rfl, ?_⟩
          have eg : (((b.c : Int) * ((y0 : Int) + (y1 : Int)) + (u.2 : Int)) + (v.2 : Int)) = ((b.c * (y0 + y1) + u.2 + v.2 : Nat) : Int) := by
            rw [Int.natCast_add, Int.natCast_add, Int.natCast_mul, Int.natCast_add]
          by_cases hg : b.c * (y0 + y1) + u.2 + v.2 < (stopN (b.l1 * y1) (b.l0 * y0)).2
          · rw [decide_eq_true (show (((b.c : Int) * ((y0 : Int) + (y1 : Int)) + (u.2 : Int)) + (v.2 : Int)) < ((stopN (b.l1 * y1) (b.l0 * y0)).2 : Int) by rw [eg]; omega)]
            refine iteT ⟨_, rfl, (by show 2 ≤ sizeLine; decide), fun p hpn => ⟨p, _, rfl, same_upd hpn, ?_⟩⟩
            rw [upd_same, eb, if_pos hg]
            show some (HO.tup [V.int 0, V.int (((b.c : Int) * ((y0 : Int) + (y1 : Int)) + (u.2 : Int)) + (v.2 : Int))]) = _
            rw [eg]
            rfl
          · rw [decide_eq_false (show ¬ (((b.c : Int) * ((y0 : Int) + (y1 : Int)) + (u.2 : Int)) + (v.2 : Int)) < ((stopN (b.l1 * y1) (b.l0 * y0)).2 : Int) by rw [eg]; omega)]
            refine iteF ⟨ct, _, rfl, Same.refl _, ?_⟩
            rw [eb, if_neg hg]
            exact N4.at_
      · rintro σ' H5 ⟨ct2, v9', rfl, s5, hct⟩
        have s6 := s4.trans s5
        have S6 := S4.same s5
        refine ⟨_, rfl, .inl ⟨rfl, _, SqL.of S6.at_⟩, _, rfl, q, _, _, rfl, rfl, S6.at_, ?_, ts ++ [ct2], _, _, _, _, _, rfl, fun c o e => ?_, ?_⟩
        · rw [List.length_map, S6.len, List.length_map, List.length_range]
          omega
        · rw [upd_ne (ne_of_none e hq)]
          exact s6 _ _ e
        · rw [List.range_succ, List.map_append]
          have S7 := S6.push hct
          have ez : (List.map (fun s => bestN b l (w0.getD s 0) (w1.getD s 0) s) [j]) = [bestN b l y0 y1 j] := by
            show [bestN b l (w0.getD j 0) (w1.getD j 0) j] = _
            rw [ey0, ey1]
          rw [ez]
          exact S7
    · rintro σ H2 ⟨ts, v5, v6, v7, v8, v9, rfl, s2, S2⟩
      rw [nats_len] at S2
      exact ⟨_, rfl, k H2 q ts s2 hq S2⟩
end
end St
set_option Elab.async false
set_option linter.all false
set_option maxRecDepth 100000
set_option maxHeartbeats 2000000
set_option exponentiation.threshold 100000
/-! W15: the optimal plan. -/
namespace St
open PySem PySem.Spec PyProof.Rows L2 NdefX LamX
/-- the rows of weights -/
def wRow (h pr x d n : Nat) : List Nat := (List.range (n + 1)).map (wgt h pr x d n)
/-- the best decisions k rows ahead of the horizon -/
def bestFrom (b : PB) (h : Nat) : Nat → List (Nat × Nat)
  | 0 => bestRow b (wRow h (b.pd - b.pr) b.p0 b.d h) (wRow h b.pr b.p1 b.d h) []
  | k + 1 => bestRow b (wRow h (b.pd - b.pr) b.p0 b.d (h - (k + 1))) (wRow h b.pr b.p1 b.d (h - (k + 1))) (bestFrom b h k)
theorem bestRow_len (b : PB) (w0 w1 : List Nat) (l : List (Nat × Nat)) : (bestRow b w0 w1 l).length = w0.length := by
  unfold bestRow
  rw [List.length_map, List.length_range]
theorem wRow_len (h pr x d n : Nat) : (wRow h pr x d n).length = n + 1 := by
  unfold wRow
  rw [List.length_map, List.length_range]
theorem bestFrom_len (b : PB) (h : Nat) : ∀ k, (bestFrom b h k).length = h - k + 1
  | 0 => by
    show (bestRow b _ _ []).length = _
    rw [bestRow_len, wRow_len]
    rfl
  | k + 1 => by
    show (bestRow b _ _ _).length = _
    rw [bestRow_len, wRow_len]
theorem wgt_small {h pr x d n s : Nat} (hh : h ≤ 20) (hpr : pr ≤ 1000) (hx : x ≤ d) (hd : d ≤ 1000) (hn : n ≤ h) (hs : s ≤ n) : wgt h pr x d n s < 2 ^ 700 := by
  have b1 : d ^ (h - n) < 2 ^ 201 := npow_small (by omega) (by omega)
  have b2 : x ^ s < 2 ^ 201 := npow_small (by omega) (by omega)
  have b3 : (d - x) ^ (n - s) < 2 ^ 201 := npow_small (by omega) (by omega)
  have b4 : pr * d ^ (h - n) * x ^ s * (d - x) ^ (n - s) < 2 ^ (10 + 201 + 201 + 201) := mul_lt2 (mul_lt2 (mul_lt2 (by omega : pr < 2 ^ 10) b1) b2) b3
  exact Nat.lt_of_lt_of_le b4 (Nat.pow_le_pow_right (by decide) (by decide))
theorem wRow_small {h pr x d n : Nat} (hh : h ≤ 20) (hpr : pr ≤ 1000) (hx : x ≤ d) (hd : d ≤ 1000) (hn : n ≤ h) : ∀ y ∈ wRow h pr x d n, y < 2 ^ 700 := fun y hy => by
  obtain ⟨s, hs, e⟩ := List.mem_map.mp hy
  have := List.mem_range.mp hs
  rw [← e]
  exact wgt_small hh hpr hx hd hn (by omega)
/-- the ranges of a problem -/
structure PBOk (b : PB) : Prop where
  p0 : 1 ≤ b.p0
  p01 : b.p0 < b.p1
  p1 : b.p1 < b.d
  d : b.d ≤ 1000
  pr : b.pr ≤ b.pd
  pd1 : 1 ≤ b.pd
  pd : b.pd ≤ 1000
  c : b.c ≤ 1000
  l0 : b.l0 ≤ 100000
  l1 : b.l1 ≤ 100000
/-- at a a list of lists of pairs -/
structure BRowsAt (H : Hp) (a : Addr) (rs : List Addr) (L : List (List (Nat × Nat))) : Prop where
  at_ : H a = some (.lst (rs.map V.ref))
  len : rs.length = L.length
  row : ∀ (i : Nat) (r : Addr), rs[i]? = some r → ∃ (l : List (Nat × Nat)) (ts : List Addr), L[i]? = some l ∧ PairsAt H r ts l
  ne : a ∉ rs
theorem BRowsAt.same {H H' : Hp} {a : Addr} {rs : List Addr} {L : List (List (Nat × Nat))} (R : BRowsAt H a rs L) (s : Same H H') : BRowsAt H' a rs L :=
  ⟨s _ _ R.at_, R.len, fun i r e => let ⟨l, ts, h1, h2⟩ := R.row i r e; ⟨l, ts, h1, h2.same s⟩, R.ne⟩
def bestRows (b : PB) (h i : Nat) : List (List (Nat × Nat)) := (List.range i).map fun k => bestFrom b h (i - 1 - k)
theorem bestRows_succ (b : PB) (h i : Nat) : bestRows b h (i + 1) = bestFrom b h i :: bestRows b h i := by
  unfold bestRows
  rw [List.range_succ_eq_map, List.map_cons, List.map_map]
  congr 1
  refine List.map_congr_left fun k hk => ?_
  show bestFrom b h (i + 1 - 1 - (k + 1)) = bestFrom b h (i - 1 - k)
  congr 1
  omega
section
variable {P : Program} {w : World} {K : PySem.W.Frag} {mg : Str → Option Value} {base : Heap}
def sp_best_rows (C : Addr) : Sp := fun vs H Q _ => ∃ (pa : Addr) (b : PB) (h : Nat), vs = [.int h, .ref pa] ∧ ProbAt C H pa b ∧ PBOk b ∧ h ≤ 20 ∧ ∀ H' q rs, Same H H' → H q = Option.none → (∀ r, r ∈ rs → H r = Option.none) → BRowsAt H' q rs (bestRows b h (h + 1)) → Q (.ref q) H'
theorem c_best_rows {C : Addr} (gl : Glb mg) (T_ : PCls K C) (F : DefB K mg "best_rows" s_best_rows ["horizon", "problem"]) (c1 : Cal0 P w K mg base 2 "joint_weights" sp_joint_weights) (c2 : Cal0 P w K mg base 2 "best_row" (sp_best_row K C)) : Cal0 P w K mg base 3 "best_rows" (sp_best_rows C) := by
  obtain ⟨fa, fd, F, b⟩ := F.ex
  refine C8.cal0 F b .nil (C8.fnScope_by (N := ["horizon", "problem", "prior0", "weights0", "weights1", "later", "rows", "n"]) (by decide +kernel)) (fun vs H Q E h => ?_) (fun cdv A outer s H vs Q E hr h => ?_)
  · obtain ⟨_, _, _, rfl, _⟩ := h
    rfl
  · obtain ⟨pa, b, h, rfl, ⟨dx, hp⟩, ok, hh, k⟩ := h
    have nd : (["horizon", "problem", "prior0", "weights0", "weights1", "later", "rows", "n"] : List Str).Nodup := by decide +kernel
    have hz := sizeLine_eq
    refine ⟨_, pss_cons (ps_set (i := 2) nd rfl (.inl rfl) (pe_op op_sub (pe_fld (pv 1) rfl) (pe_fld (pv 1) rfl)))
      (pss_cons (ps_set (i := 3) nd rfl (.inl rfl) (C8.pe_c c1 hr (by decide) rfl (pa_cons (pv 0) (pa_cons (pv 2) (pa_cons (pe_fld (pv 1) rfl) (pa_cons (pe_fld (pv 1) rfl) pa_nil))))))
      (pss_cons (ps_set (i := 4) nd rfl (.inl rfl) (C8.pe_c c1 hr (by decide) rfl (pa_cons (pv 0) (pa_cons (pe_fld (pv 1) rfl) (pa_cons (pe_fld (pv 1) rfl) (pa_cons (pe_fld (pv 1) rfl) pa_nil))))))
      (pss_cons (ps_set (i := 5) nd rfl (.inl rfl) (pe_lst pa_nil))
      (pss_cons (ps_set (i := 6) nd rfl (.inl rfl) (pe_lst pa_nil))
      (pss_cons (ps_for PassesOwn.never rfl (pi_range3 rfl gl.range (pa_cons (pv 0) (pa_cons (pe_un un_neg pe_int) (pa_cons (pe_un un_neg pe_int) pa_nil)))) (pg_name (i := 7) nd rfl (.inl rfl))
        (pss_cons (ps_set (i := 5) nd rfl (.inl rfl) (C8.pe_c c2 hr (by decide) rfl (pa_cons (pv 1) (pa_cons (pe_ix ix_list (pv 3) (pv 7) (fun _ _ => rfl)) (pa_cons (pe_ix ix_list (pv 4) (pv 7) (fun _ _ => rfl)) (pa_cons (pv 5) pa_nil))))))
        (pss_one (ps_expr (pe_bm PySem.F.plainAttrs_list PySem.F.slot_list_insert PySem.F.type_list_insert mt_insert (pv 6) (pa_cons pe_int (pa_cons (pv 5) pa_nil)))))))
      (pss_one (ps_ret (pv 6)))))))), ?_⟩
    have e0 : (b.pd : Int) - (b.pr : Int) = ((b.pd - b.pr : Nat) : Int) := by have := ok.pr; omega
    have o1 := ok.p0
    have o2 := ok.p01
    have o3 := ok.p1
    have o4 := ok.d
    have o5 := ok.pr
    have o6 := ok.pd
    refine ⟨_, rfl, pa, C, dx, _, _, rfl, hp, T_.cl, T_.pd, pF_pd b, _, rfl, pa, C, dx, _, _, rfl, hp, T_.cl, T_.pr, pF_pr b, _, _, rfl, rfl, ?_⟩
    refine ⟨_, rfl, _, rfl, _, rfl, pa, C, dx, _, _, rfl, hp, T_.cl, T_.p0, pF_p0 b, _, rfl, pa, C, dx, _, _, rfl, hp, T_.cl, T_.d, pF_d b, h, b.pd - b.pr, b.p0, b.d, ?_, hh, by omega, by omega, by omega, fun H1 wa0 rs0 s1 N1 => ?_⟩
    · show [V.int (h : Int), V.int ((b.pd : Int) - (b.pr : Int)), V.int (b.p0 : Int), V.int (b.d : Int)] = _
      rw [e0]
    refine ⟨_, rfl, _, rfl, pa, C, dx, _, _, rfl, s1 _ _ hp, T_.cl, T_.pr, pF_pr b, _, rfl, pa, C, dx, _, _, rfl, s1 _ _ hp, T_.cl, T_.p1, pF_p1 b, _, rfl, pa, C, dx, _, _, rfl, s1 _ _ hp, T_.cl, T_.d, pF_d b, h, b.pr, b.p1, b.d, rfl, hh, by omega, by omega, by omega, fun H2 wa1 rs1 s2 N2 => ?_⟩
    refine ⟨Nat.zero_le _, fun l0 hl0 => ⟨Nat.zero_le _, fun q hq => ?_⟩⟩
    have sl : Same H2 (upd (upd H2 l0 (.lst [])) q (.lst [])) := (same_upd hl0).trans (same_upd hq)
    have l0q : l0 ≠ q := ne_of_none upd_same hq
    have hq2 : H2 q = Option.none := (same_upd hl0).free hq
    have s12 := s1.trans s2
    have R0 := N1.at_.same s2
    have R1 := N2.at_
    have rg : RgC (h : Int) (-1) (-1) (h + 1) := by
      have e : ((h : Int) - (-1)).toNat = h + 1 := by omega
      have z := RgC.neg (i := (h : Int)) (j := -1) (by omega) (by omega) (by omega) (by omega)
      rw [e] at z
      exact z
    refine ⟨_, rfl, _, rfl, _, rfl, _, _, _, h + 1, rfl, rg, for_rangeC (lo := (h : Int)) (c := -1) (n := h + 1) (fun i σ H' => ∃ (la : Addr) (v7 : Option V) (lts : List Addr) (l : List (Nat × Nat)) (rs : List Addr), σ = [some (.int h), some (.ref pa), some (.int ((b.pd : Int) - (b.pr : Int))), some (.ref wa0), some (.ref wa1), some (.ref la), some (.ref q), v7] ∧ Same H2 H' ∧ PairsAt H' la lts l ∧ ((i = 0 ∧ l = []) ∨ (0 < i ∧ l = bestFrom b h (i - 1))) ∧ BRowsAt H' q rs (bestRows b h i) ∧ ∀ r, r ∈ rs → H2 r = Option.none)
      ⟨l0, none, [], [], [], rfl, sl, ⟨by rw [upd_ne l0q, upd_same]; rfl, rfl, fun i t e => by simp at e⟩, .inl ⟨rfl, rfl⟩, ⟨upd_same, rfl, fun i t e => by simp at e, by simp⟩, fun r hr => absurd hr (by simp)⟩ ?_ ?_⟩
    · rintro i σ H3 hi ⟨la, v7, lts, l, rs, rfl, s3, L3, hl, B3, fr⟩
      have en : (h : Int) + (i : Nat) * (-1) = ((h - i : Nat) : Int) := by omega
      rw [en]
      have g0 : (table h (wgt h (b.pd - b.pr) b.p0 b.d))[h - i]? = some (wRow h (b.pd - b.pr) b.p0 b.d (h - i)) := table_get (by omega)
      have g1 : (table h (wgt h b.pr b.p1 b.d))[h - i]? = some (wRow h b.pr b.p1 b.d (h - i)) := table_get (by omega)
      obtain ⟨r0, _, p1, p2⟩ := (R0.same s3).get g0
      obtain ⟨r1, _, p3, p4⟩ := (R1.same s3).get g1
      have hll : l = [] ∨ l.length = (wRow h (b.pd - b.pr) b.p0 b.d (h - i)).length + 1 := by
        rcases hl with ⟨_, e⟩ | ⟨z, e⟩
        · exact .inl e
        · refine .inr ?_
          rw [e, bestFrom_len, wRow_len]
          omega
      have ebest : bestRow b (wRow h (b.pd - b.pr) b.p0 b.d (h - i)) (wRow h b.pr b.p1 b.d (h - i)) l = bestFrom b h i := by
        rcases hl with ⟨z, e⟩ | ⟨z, e⟩
        · rw [z, e]
          rfl
        · obtain ⟨j, rfl⟩ : ∃ j, i = j + 1 := ⟨i - 1, by omega⟩
          rw [e]
          rfl
      refine ⟨_, rfl, _, rfl, _, rfl, wa0, _, _, _, rfl, rfl, SqL.of (s3 _ _ R0.at_), at_of rfl p1, _, rfl, _, rfl, wa1, _, _, _, rfl, rfl, SqL.of (s3 _ _ R1.at_), at_of rfl p3, _, rfl,
        pa, r0, r1, la, b, wRow h (b.pd - b.pr) b.p0 b.d (h - i), wRow h b.pr b.p1 b.d (h - i), lts, l, rfl, ⟨dx, s3 _ _ (s12 _ _ hp)⟩, SqL.of p2, SqL.of p4, L3, by rw [wRow_len, wRow_len], by rw [wRow_len]; omega, hll, wRow_small hh (by omega) (by omega) (by omega) (by omega), wRow_small hh (by omega) (by omega) (by omega) (by omega), ok.c, ok.l0, ok.l1, fun H4 r ts s4 hr4 P4 => ?_⟩
      rw [ebest] at P4
      have B4 := B3.same s4
      refine ⟨_, rfl, .inl ⟨rfl, _, SqL.of B4.at_⟩, _, rfl, q, _, 0, _, rfl, rfl, B4.at_, ?_, by decide, by decide, r, _, ts, bestFrom b h i, r :: rs, rfl, fun c o e => ?_, ?_, .inr ⟨by omega, rfl⟩, ?_, ?_⟩
      · rw [List.length_map, B4.len]
        unfold bestRows
        rw [List.length_map, List.length_range]
        omega
      · rw [upd_ne (ne_of_none e hq2)]
        exact s4 _ _ (s3 _ _ e)
      · have nq : ∀ c o, H4 c = some (.tup o) → c ≠ q := fun c o e z => by
          rw [z, B4.at_] at e
          cases e
        have rq : r ≠ q := fun z => by
          rw [z, B3.at_] at hr4
          cases hr4
        exact ⟨by rw [upd_ne rq]; exact P4.at_, P4.len, fun i t e => let ⟨z, e1, e2⟩ := P4.tup i t e; ⟨z, e1, by rw [upd_ne (nq _ _ e2)]; exact e2⟩⟩
      · rw [bestRows_succ]
        have rq : r ≠ q := fun z => by
          rw [z, B3.at_] at hr4
          cases hr4
        have nq : ∀ c o, H4 c = some (.tup o) → c ≠ q := fun c o e z => by
          rw [z, B4.at_] at e
          cases e
        have keep : ∀ {c : Addr} {ts : List Addr} {l : List (Nat × Nat)}, c ≠ q → PairsAt H4 c ts l → PairsAt (upd H4 q (.lst ((r :: rs).map V.ref))) c ts l := fun {c ts l} hc p => ⟨by rw [upd_ne hc]; exact p.at_, p.len, fun i t e => let ⟨z, e1, e2⟩ := p.tup i t e; ⟨z, e1, by rw [upd_ne (nq _ _ e2)]; exact e2⟩⟩
        refine ⟨upd_same, by rw [List.length_cons, List.length_cons, B4.len], fun j c e => ?_, fun z => (List.mem_cons.mp z).elim (fun z => rq z.symm) B4.ne⟩
        cases j with
        | zero =>
          have e3 : r = c := Option.some.inj e
          subst e3
          exact ⟨_, ts, rfl, keep rq P4⟩
        | succ j =>
          obtain ⟨l', ts', e1, e2⟩ := B4.row j c e
          have nrs : c ≠ q := fun z => B4.ne (by rw [← z]; exact List.mem_of_getElem? e)
          exact ⟨l', ts', e1, keep nrs e2⟩
      · intro c hc
        rcases List.mem_cons.mp hc with z | z
        · rw [z]
          exact s3.free hr4
        · exact fr c z
    · rintro σ H3 ⟨la, v7, lts, l, rs, rfl, s3, L3, hl, B3, fr⟩
      exact ⟨_, rfl, k H3 q rs (s12.trans s3) (s12.free hq2) (fun r hr => s12.free (fr r hr)) B3⟩
def sp_optimal_rows (C : Addr) : Sp := fun vs H Q _ => ∃ (pa : Addr) (b : PB) (h : Nat), vs = [.int h, .ref pa] ∧ ProbAt C H pa b ∧ PBOk b ∧ h ≤ 20 ∧ ∀ H' q rs, Same H H' → NewRows H H' q rs ((bestRows b h (h + 1)).map fun l => l.map (·.1)) → Q (.ref q) H'
theorem c_optimal_rows {C : Addr} (F : DefB K mg "optimal_rows" s_optimal_rows ["horizon", "problem"]) (c1 : Cal0 P w K mg base 3 "best_rows" (sp_best_rows C)) : Cal0 P w K mg base 4 "optimal_rows" (sp_optimal_rows C) := by
  obtain ⟨fa, fd, F, b⟩ := F.ex
  refine C8.cal0 F b .nil (C8.fnScope_by (N := ["horizon", "problem", "rows", "best", "choice"]) (by decide +kernel)) (fun vs H Q E h => ?_) (fun cdv A outer s H vs Q E hr h => ?_)
  · obtain ⟨_, _, _, rfl, _⟩ := h
    rfl
  · obtain ⟨pa, b, h, rfl, hp, ok, hh, k⟩ := h
    have nd : (["horizon", "problem", "rows", "best", "choice"] : List Str).Nodup := by decide +kernel
    have hz := sizeLine_eq
    refine ⟨_, pss_cons (ps_set (i := 2) nd rfl (.inl rfl) (pe_lst pa_nil))
      (pss_cons (ps_for PassesOwn.never rfl (pi_list (C8.pe_c c1 hr (by decide) rfl (pa_cons (pv 0) (pa_cons (pv 1) pa_nil)))) (pg_name (i := 3) nd rfl (.inl rfl))
        (pss_one (ps_expr (pe_bm PySem.F.plainAttrs_list PySem.F.slot_list_append PySem.F.type_list_append mt_append (pv 2)
          (pa_cons (pe_lc (own := [("choice", 4)]) (g := gName 4) (tt := tYes) rfl nd (pi_list (pv 3)) (blkOk_by (N := ["horizon", "problem", "rows", "best", "choice"]) (sc := C8.fnScope s_optimal_rows) (by decide +kernel))
            (fun _ _ _ _ _ => pg_name (i := 4) nd rfl (.inl rfl)) (fun _ _ _ _ _ => pts_nil) (fun _ _ _ _ _ => pe_ix (ix_tupK (K := K) rfl) (pv 4) pe_int (fun _ _ => rfl))) pa_nil)))))
      (pss_one (ps_ret (pv 2)))), ?_⟩
    refine ⟨Nat.zero_le _, fun l hl => ?_⟩
    have sl : Same H (upd H l (.lst [])) := same_upd hl
    obtain ⟨dx, hp⟩ := hp
    refine ⟨_, rfl, _, rfl, pa, b, h, rfl, ⟨dx, sl _ _ hp⟩, ok, hh, fun H1 q brs s1 hq bfr B => ?_⟩
    have s01 := sl.trans s1
    have lenB : (bestRows b h (h + 1)).length = h + 1 := by
      unfold bestRows
      rw [List.length_map, List.length_range]
    refine ⟨q, rfl, ⟨_, SqL.of B.at_⟩, for_list (K := K) (a := q) (xs := brs.map V.ref) (fun i σ H' => ∃ (v3 : Option V) (rs : List Addr), σ = [some (.int h), some (.ref pa), some (.ref l), v3, none] ∧ Same H H' ∧ BRowsAt H' q brs (bestRows b h (h + 1)) ∧ RowsAt H' l rs (((bestRows b h (h + 1)).map fun l => l.map (·.1)).take i) ∧ ∀ r, r ∈ rs → H r = Option.none)
      ⟨none, [], rfl, s01, B, ⟨s1 _ _ upd_same, rfl, fun i r e => by simp at e, List.nodup_nil, by simp⟩, fun r hr => absurd hr (by simp)⟩ (fun i σ H2 _ ⟨_, _, _, _, B2, _⟩ => SqL.of B2.at_) ?_ ?_⟩
    · rintro i x σ H2 hx ⟨v3, rs, rfl, s2, B2, R2, fr⟩
      obtain ⟨r, hr1, rfl⟩ : ∃ r, brs[i]? = some r ∧ x = V.ref r := by
        rw [List.getElem?_map] at hx
        cases e : brs[i]? with
        | none => rw [e] at hx; cases hx
        | some r => rw [e] at hx; exact ⟨r, rfl, (Option.some.inj hx).symm⟩
      obtain ⟨bl, ts, e1, P2⟩ := B2.row i r hr1
      have hi : i < h + 1 := by
        have := (List.getElem?_eq_some_iff.mp e1).1
        omega
      have lenbl : bl.length ≤ 21 := by
        unfold bestRows at e1
        rw [List.getElem?_map, List.getElem?_range hi] at e1
        have := Option.some.inj e1
        rw [← this, bestFrom_len]
        omega
      refine ⟨_, rfl, .inl ⟨rfl, _, SqL.of R2.at_⟩, _, rfl, r, rfl, ⟨_, SqL.of P2.at_⟩, fun D hD => lc_list (K := K) (a := r) (xs := ts.map V.ref) (fun j H3 => H3 = upd H2 D (.lst (nats ((bl.take j).map (·.1))))) rfl (fun j H3 _ e => ?_) ?_ ?_⟩
      · rw [e]
        exact SqL.of (same_upd hD _ _ P2.at_)
      · rintro j x H3 hx rfl
        obtain ⟨tp, ht, rfl⟩ : ∃ tp, ts[j]? = some tp ∧ x = V.ref tp := by
          rw [List.getElem?_map] at hx
          cases e : ts[j]? with
          | none => rw [e] at hx; cases hx
          | some tp => rw [e] at hx; exact ⟨tp, rfl, (Option.some.inj hx).symm⟩
        obtain ⟨z, hz1, hz2⟩ := P2.tup j tp ht
        have hj := (List.getElem?_eq_some_iff.mp hz1).1
        refine ⟨rfl, _, rfl, tp, _, _, _, rfl, rfl, SqT.of (same_upd hD _ _ hz2), at_of (j := 0) rfl rfl, _, upd_same, ?_, ?_⟩
        · rw [nats_len, List.length_map, List.length_take]
          omega
        · rw [upd_upd, take_snoc hz1, List.map_append]
          unfold nats
          rw [List.map_append]
          rfl
      · rintro H3 rfl
        rw [List.length_map, P2.len, List.take_length]
        have lD : l ≠ D := ne_of_none R2.at_ hD
        have e2 : ((bestRows b h (h + 1)).map fun l => l.map (·.1)).take (i + 1) = ((bestRows b h (h + 1)).map fun l => l.map (·.1)).take i ++ [bl.map (·.1)] := take_snoc (by rw [List.getElem?_map, e1]; rfl)
        refine ⟨l, _, _, rfl, rfl, (upd_ne lD).trans R2.at_, ?_, _, rs ++ [D], rfl, fun c o e => ?_, ?_, ?_, fun r' hr' => ?_⟩
        · rw [List.length_map, R2.len, List.length_take, List.length_map]
          omega
        · rw [upd_ne (ne_of_none e hl)]
          exact same_upd hD _ _ (s2 _ _ e)
        · have B3 := B2.same (same_upd (o := .lst (nats (bl.map (·.1)))) hD)
          have nql : q ≠ l := fun z => by
            rw [z, upd_same] at hq
            cases hq
          have nrl : ∀ c, c ∈ brs → c ≠ l := fun c hc z => by
            have := bfr c hc
            rw [z, upd_same] at this
            cases this
          have Hl : (upd H2 D (.lst (nats (bl.map (·.1))))) l = some (.lst (rs.map V.ref)) := (upd_ne lD).trans R2.at_
          refine ⟨by rw [upd_ne nql]; exact B3.at_, B3.len, fun j c e => ?_, B3.ne⟩
          obtain ⟨l', ts', e3, e4⟩ := B3.row j c e
          refine ⟨l', ts', e3, by rw [upd_ne (nrl c (List.mem_of_getElem? e))]; exact e4.at_, e4.len, fun i t e => ?_⟩
          obtain ⟨z, e5, e6⟩ := e4.tup i t e
          refine ⟨z, e5, ?_⟩
          rw [upd_ne (fun y => by rw [y, Hl] at e6; cases e6)]
          exact e6
        · rw [e2]
          exact R2.snoc hD
        · rcases List.mem_append.mp hr' with z | z
          · exact fr r' z
          · have : r' = D := by simpa using z
            subst this
            exact s2.free hD
    · rintro σ H2 ⟨v3, rs, rfl, s2, B2, R2, fr⟩
      rw [List.length_map, B.len, List.take_of_length_le (by rw [List.length_map]; exact Nat.le_refl _)] at R2
      exact ⟨_, rfl, k H2 l rs s2 ⟨R2, hl, fr⟩⟩
end
end St
/-! KxD: the optimal plan in whole numbers. -/
namespace KxD
open Kxd7 KxA KxB KxC St
/-- the specification's problem -/
def prob (b : PB) : Problem := problem b.p0 b.p1 b.d b.pr b.pd b.c b.l0 b.l1
/-- what makes all costs whole -/
def scale (b : PB) (h : Nat) : Nat := b.pd * b.d ^ h
theorem scale_pos {b : PB} (ok : PBOk b) (h : Nat) : 0 < scale b h := Nat.mul_pos ok.pd1 (Nat.pow_pos (by have := ok.p01; have := ok.p1; omega))
theorem cast_sub {a b : Nat} (h : b ≤ a) : ((a - b : Nat) : Rat) = (a : Rat) - (b : Rat) := by
  have : (a : Rat) = ((a - b : Nat) : Rat) + (b : Rat) := by
    rw [← Rat.natCast_add]
    congr 1
    omega
  rw [this]
  grind
theorem cast_ne {a : Nat} (h : 0 < a) : (a : Rat) ≠ 0 := fun e => by
  have : a = 0 := Rat.natCast_eq_zero_iff.mp e
  omega
theorem wgt_eq {h pr pd x d n s : Nat} (hpd : 0 < pd) (hx : x ≤ d) (hd : 0 < d) (hn : n ≤ h) (hs : s ≤ n) :
    (wgt h pr x d n s : Rat) / ((pd * d ^ h : Nat) : Rat) = (pr : Rat) / (pd : Rat) * (((x : Rat) / (d : Rat)) ^ s * (1 - (x : Rat) / (d : Rat)) ^ (n - s)) := by
  have e := term_eq hn hs (pr : Rat) (x : Rat) (d : Rat) (cast_ne hd)
  have hp := cast_ne hpd
  have hw : (wgt h pr x d n s : Rat) = (pr : Rat) * (x : Rat) ^ s * ((d : Rat) - (x : Rat)) ^ (n - s) * (d : Rat) ^ (h - n) := by
    unfold wgt
    rw [Rat.natCast_mul, Rat.natCast_mul, Rat.natCast_mul, Rat.natCast_pow, Rat.natCast_pow, Rat.natCast_pow, cast_sub hx]
    grind
  rw [hw, Rat.natCast_mul, Rat.natCast_pow]
  have hz := pow_ne (cast_ne hd) h
  generalize (x : Rat) / (d : Rat) = y at *
  generalize (y ^ s * (1 - y) ^ (n - s)) = Y at *
  generalize (d : Rat) ^ h = D at *
  generalize (pr : Rat) * (x : Rat) ^ s * ((d : Rat) - (x : Rat)) ^ (n - s) * (d : Rat) ^ (h - n) = W at *
  have e2 : W = (pr : Rat) * Y * D := by
    rw [← e]
    grind
  rw [e2]
  grind
theorem joint_eq {b : PB} (ok : PBOk b) {h n s : Nat} (hn : n ≤ h) (hs : s ≤ n) :
    joint (prob b) n s = (fr ((wgt h (b.pd - b.pr) b.p0 b.d n s : Rat) / (scale b h : Rat)), fr ((wgt h b.pr b.p1 b.d n s : Rat) / (scale b h : Rat))) := by
  have o1 := ok.p01
  have o2 := ok.p1
  have o3 := ok.pd1
  unfold joint prob problem scale
  simp only []
  rw [wgt_eq o3 (by omega) (by omega) hn hs, wgt_eq o3 (by omega) (by omega) hn hs]
  simp only [share_eq, one_minus, power_eq, times_eq]
  have e : 1 - (b.pr : Rat) / (b.pd : Rat) = ((b.pd - b.pr : Nat) : Rat) / (b.pd : Rat) := by
    rw [cast_sub ok.pr]
    have := cast_ne o3
    grind
  rw [e]
/-- a pair of the program as the specification has it -/
def up (S : Nat) (z : Nat × Nat) : Fraction × Nat := (fr ((z.2 : Rat) / (S : Rat)), z.1)
theorem div_natle {a c S : Nat} (hS : 0 < S) : ((a : Rat) / (S : Rat) ≤ (c : Rat) / (S : Rat)) ↔ a ≤ c := by
  rw [div_le (natpos hS) (natpos hS), ← Rat.natCast_mul, ← Rat.natCast_mul, Rat.natCast_le_natCast]
  constructor
  · exact fun h => Nat.le_of_mul_le_mul_right h hS
  · exact fun h => Nat.mul_le_mul_right S h
theorem scaled (a w S : Nat) : times (ofNat a) (fr ((w : Rat) / (S : Rat))) = fr (((a * w : Nat) : Rat) / (S : Rat)) := by
  rw [ofNat_eq, times_eq, Rat.natCast_mul]
  congr 1
  rw [Rat.div_def, Rat.div_def, Rat.mul_assoc]
theorem stop_eq {b : PB} {S w0 w1 : Nat} (hS : 0 < S) :
    (if isAtMost (times (ofNat b.l1) (fr ((w1 : Rat) / (S : Rat)))) (times (ofNat b.l0) (fr ((w0 : Rat) / (S : Rat)))) = true then (times (ofNat b.l1) (fr ((w1 : Rat) / (S : Rat))), 1) else (times (ofNat b.l0) (fr ((w0 : Rat) / (S : Rat))), 2)) = up S (stopN (b.l1 * w1) (b.l0 * w0)) := by
  rw [scaled, scaled, isAtMost_eq]
  unfold stopN up
  by_cases h : b.l1 * w1 ≤ b.l0 * w0
  · rw [decide_eq_true ((div_natle hS).mpr h), if_pos rfl, if_pos h]
  · rw [decide_eq_false (fun z => h ((div_natle hS).mp z)), if_neg Bool.false_ne_true, if_neg h]
theorem add_div (a c S : Nat) : plus (fr ((a : Rat) / (S : Rat))) (fr ((c : Rat) / (S : Rat))) = fr (((a + c : Nat) : Rat) / (S : Rat)) := by
  rw [plus_eq, Rat.natCast_add]
  congr 1
  rw [Rat.div_def, Rat.div_def, Rat.div_def, Rat.add_mul]
theorem range_get {α : Type} (f : Nat → α) {n s : Nat} (h : s < n) (d : α) : ((List.range n).map f).getD s d = f s := by
  rw [List.getD_eq_getElem?_getD, List.getElem?_map, List.getElem?_range h]
  rfl
theorem wRow_getD {h pr x d n s : Nat} (hs : s ≤ n) : (wRow h pr x d n).getD s 0 = wgt h pr x d n s := range_get _ (by omega) _
theorem least_eq {b : PB} (ok : PBOk b) (h : Nat) : ∀ k, k ≤ h → leastRow (prob b) h k = (bestFrom b h k).map (up (scale b h))
  | 0, _ => by
    have hS := scale_pos ok h
    show (List.range (h + 1)).map _ = (bestRow b _ _ []).map _
    unfold bestRow
    rw [wRow_len, List.map_map]
    refine List.map_congr_left fun s hs => ?_
    have hs' : s ≤ h := by have := List.mem_range.mp hs; omega
    simp only [joint_eq ok (Nat.le_refl h) hs']
    show (if isAtMost (times (ofNat b.l1) _) (times (ofNat b.l0) _) = true then (times (ofNat b.l1) _, 1) else (times (ofNat b.l0) _, 2)) = up (scale b h) (bestN b [] _ _ s)
    rw [stop_eq hS, wRow_getD hs', wRow_getD hs']
    rfl
  | k + 1, hk => by
    have hS := scale_pos ok h
    have ih := least_eq ok h k (by omega)
    have hl : (bestFrom b h k).length = h - (k + 1) + 1 + 1 := by
      rw [bestFrom_len]
      omega
    show (List.range (h - (k + 1) + 1)).map _ = (bestRow b _ _ (bestFrom b h k)).map _
    unfold bestRow
    rw [wRow_len, List.map_map]
    refine List.map_congr_left fun s hs => ?_
    have hs' : s ≤ h - (k + 1) := by have := List.mem_range.mp hs; omega
    simp only [joint_eq ok (show h - (k + 1) ≤ h by omega) hs', ih]
    have g : ∀ i, i < (bestFrom b h k).length → ((bestFrom b h k).map (up (scale b h))).getD i (⟨0, 1⟩, 0) = up (scale b h) ((bestFrom b h k).getD i (0, 0)) := fun i hi => by
      rw [List.getD_eq_getElem?_getD, List.getD_eq_getElem?_getD, List.getElem?_map, List.getElem?_eq_getElem hi]
      rfl
    rw [g s (by omega), g (s + 1) (by omega)]
    show (if isAtMost (if isAtMost (times (ofNat b.l1) _) (times (ofNat b.l0) _) = true then (times (ofNat b.l1) _, 1) else (times (ofNat b.l0) _, 2)).1 _ = true then (if isAtMost (times (ofNat b.l1) _) (times (ofNat b.l0) _) = true then (times (ofNat b.l1) _, 1) else (times (ofNat b.l0) _, 2)) else (plus (times (ofNat b.c) _) _, 0)) = up (scale b h) (bestN b (bestFrom b h k) _ _ s)
    rw [stop_eq hS, wRow_getD hs', wRow_getD hs', add_div, scaled]
    generalize wgt h (b.pd - b.pr) b.p0 b.d (h - (k + 1)) s = w0
    generalize wgt h b.pr b.p1 b.d (h - (k + 1)) s = w1
    have hne : (bestFrom b h k).isEmpty = false := by
      cases e : bestFrom b h k with
      | nil => rw [e] at hl; simp at hl
      | cons _ _ => rfl
    unfold bestN
    simp only [hne]
    rw [if_neg Bool.false_ne_true]
    generalize (bestFrom b h k).getD s (0, 0) = u
    generalize (bestFrom b h k).getD (s + 1) (0, 0) = v
    generalize stopN (b.l1 * w1) (b.l0 * w0) = ch
    unfold up
    have ec : (prob b).cost = ofNat b.c := rfl
    simp only [ec, scaled, add_div]
    rw [isAtMost_eq]
    have eg : b.c * (w0 + w1) + (u.2 + v.2) = b.c * (w0 + w1) + u.2 + v.2 := by omega
    rw [eg]
    by_cases hg : b.c * (w0 + w1) + u.2 + v.2 < ch.2
    · rw [if_pos hg, decide_eq_false (fun z => by have := (div_natle hS).mp z; omega), if_neg Bool.false_ne_true]
    · rw [if_neg hg, decide_eq_true ((div_natle hS).mpr (by omega)), if_pos rfl]
theorem optimal_eq {b : PB} (ok : PBOk b) (h : Nat) : (optimalPlan (prob b) h).table = (bestRows b h (h + 1)).map fun l => l.map (·.1) := by
  unfold optimalPlan bestRows
  simp only []
  rw [List.map_map]
  refine List.map_congr_left fun n hn => ?_
  rw [least_eq ok h (h - n) (by omega), List.map_map]
  show _ = (bestFrom b h (h + 1 - 1 - n)).map _
  rw [Nat.add_sub_cancel]
  rfl
theorem leastCost_eq {b : PB} (ok : PBOk b) (h : Nat) : leastCost (prob b) h = fr ((((bestFrom b h h).getD 0 (0, 0)).2 : Rat) / (scale b h : Rat)) := by
  unfold leastCost
  rw [least_eq ok h h (Nat.le_refl _)]
  have hl := bestFrom_len b h h
  cases e : bestFrom b h h with
  | nil => rw [e] at hl; simp at hl
  | cons z r => rfl
end KxD
/-! KxE: curtailing, as the program does it. -/
namespace KxE
open Kxd7 St
/-- the one decision that is possible, else 0 -/
def sg (l : List Nat) : Nat := match l with
  | [d] => d
  | _ => 0
structure Red (l : List Nat) : Prop where
  ne : l ≠ []
  one : ∀ d, (∀ x ∈ l, x = d) → l = [d]
theorem red_one (d : Nat) : Red [d] := ⟨by simp, fun e h => by rw [h d (by simp)]⟩
theorem red_dups {l : List Nat} (h : l ≠ []) : Red l.eraseDups := by
  cases l with
  | nil => exact absurd rfl h
  | cons a as =>
    rw [List.eraseDups_cons]
    refine ⟨by simp, fun d hd => ?_⟩
    have ha := hd a (by simp)
    have hr : (as.filter fun b => !b == a).eraseDups = [] := by
      cases e : (as.filter fun b => !b == a).eraseDups with
      | nil => rfl
      | cons x r =>
        have hx : x ∈ (as.filter fun b => !b == a).eraseDups := by rw [e]; simp
        have hx2 := List.mem_eraseDups.mp hx
        have hx3 := (List.mem_filter.mp hx2).2
        have hx4 := hd x (List.mem_cons_of_mem _ hx)
        rw [hx4, ha] at hx3
        simp at hx3
    rw [hr, ha]
theorem sg_all {l : List Nat} (r : Red l) {d : Nat} (h : ∀ x ∈ l, x = d) : sg l = d := by
  rw [r.one d h]
  rfl
theorem sg_not {l : List Nat} (r : Red l) (h : ∀ d, ¬ ∀ x ∈ l, x = d) : sg l = 0 := by
  match l, r, h with
  | [], _, _ => rfl
  | [d], _, h => exact absurd (fun x hx => by simpa using hx) (h d)
  | _ :: _ :: _, _, _ => rfl
theorem sg_merge {a b : List Nat} (ra : Red a) (rb : Red b) : sg (a ++ b).eraseDups = cdec 0 (sg a) (sg b) := by
  have rab : Red (a ++ b).eraseDups := red_dups (by intro e; exact ra.ne (List.append_eq_nil_iff.mp e).1)
  have mem : ∀ x, x ∈ (a ++ b).eraseDups ↔ x ∈ a ∨ x ∈ b := fun x => by rw [List.mem_eraseDups, List.mem_append]
  by_cases hab : ∃ d, ∀ x ∈ (a ++ b).eraseDups, x = d
  · obtain ⟨d, hd⟩ := hab
    have h1 : sg a = d := sg_all ra fun x hx => hd x ((mem x).mpr (.inl hx))
    have h2 : sg b = d := sg_all rb fun x hx => hd x ((mem x).mpr (.inr hx))
    rw [sg_all rab hd, h1, h2]
    unfold cdec
    rw [if_pos ⟨rfl, rfl⟩]
  · have h0 : sg (a ++ b).eraseDups = 0 := sg_not rab fun d hd => hab ⟨d, hd⟩
    rw [h0]
    unfold cdec
    by_cases e : sg a = sg b
    · rw [if_pos ⟨rfl, e⟩]
      by_cases ha : ∃ d, ∀ x ∈ a, x = d
      · obtain ⟨d, hd⟩ := ha
        by_cases hb : ∃ d, ∀ x ∈ b, x = d
        · obtain ⟨d', hd'⟩ := hb
          have h1 := sg_all ra hd
          have h2 := sg_all rb hd'
          have edd : d = d' := by rw [← h1, ← h2, e]
          subst edd
          exact absurd ⟨d, fun x hx => ((mem x).mp hx).elim (hd x) (hd' x)⟩ hab
        · rw [e, sg_not rb fun d hd => hb ⟨d, hd⟩]
      · rw [sg_not ra fun d hd => ha ⟨d, hd⟩]
    · rw [if_neg (fun z => e z.2)]
theorem sg_match (l : List Nat) : (match l with | [d] => d | _ => 0) = sg l := rfl
/-- row by row -/
theorem possible_eq {h : Nat} {t : List (List Nat)} (ht : t.length = h + 1) (tri : Tri t) : ∀ k, k ≤ h → (possibleRow ⟨h, t⟩ k).length = h - k + 1 ∧ (∀ l ∈ possibleRow ⟨h, t⟩ k, Red l) ∧ (curT (t.drop (h - k))).headD [] = (possibleRow ⟨h, t⟩ k).map sg
  | 0, _ => by
    obtain ⟨d, hd⟩ : ∃ d, t[h]? = some d := ⟨_, List.getElem?_eq_getElem (by omega)⟩
    have hl := tri h d hd
    have ed : t.drop (h - 0) = [d] := by
      rw [Nat.sub_zero, List.drop_eq_getElem_cons (by omega)]
      have := (List.getElem?_eq_some_iff.mp hd).2
      rw [this, List.drop_of_length_le (by omega)]
    have edec : ∀ s, decision ⟨h, t⟩ h s = d.getD s 1 := fun s => by
      show (t.getD h []).getD s 1 = _
      rw [List.getD_eq_getElem?_getD (l := t), hd]
      rfl
    refine ⟨by show ((List.range (h + 1)).map _).length = _; rw [List.length_map, List.length_range]; rfl, fun l hl' => ?_, ?_⟩
    · obtain ⟨s, _, e⟩ := List.mem_map.mp (show l ∈ (List.range (h + 1)).map _ from hl')
      rw [← e]
      exact red_one _
    · rw [ed]
      show d = ((List.range (h + 1)).map _).map sg
      rw [List.map_map]
      refine List.ext_getElem? fun i => ?_
      by_cases hi : i < h + 1
      · rw [List.getElem?_map, List.getElem?_range hi, List.getElem?_eq_getElem (by omega)]
        show some d[i] = some (decision ⟨h, t⟩ h i)
        rw [edec]
        simp [List.getD, show i < d.length by omega]
      · rw [List.getElem?_eq_none (by omega), List.getElem?_eq_none (by rw [List.length_map, List.length_range]; omega)]
  | k + 1, hk => by
    obtain ⟨i1, i2, i3⟩ := possible_eq ht tri k (by omega)
    obtain ⟨n, hn⟩ : ∃ n, n + 1 = h - k := ⟨h - k - 1, by omega⟩
    have hn' : h - (k + 1) = n := by omega
    obtain ⟨d, hd⟩ : ∃ d, t[n]? = some d := ⟨_, List.getElem?_eq_getElem (by omega)⟩
    have hl := tri n d hd
    have edec : ∀ s, decision ⟨h, t⟩ n s = d.getD s 1 := fun s => by
      show (t.getD n []).getD s 1 = _
      rw [List.getD_eq_getElem?_getD (l := t), hd]
      rfl
    have later : ∀ s, s < h - k + 1 → ∃ l, (possibleRow ⟨h, t⟩ k)[s]? = some l ∧ (possibleRow ⟨h, t⟩ k).getD s [] = l ∧ Red l := fun s hs => by
      have hs' : s < (possibleRow ⟨h, t⟩ k).length := by omega
      refine ⟨_, List.getElem?_eq_getElem hs', ?_, i2 _ (List.getElem_mem hs')⟩
      simp [List.getD, hs']
    have eq : possibleRow ⟨h, t⟩ (k + 1) = (List.range (n + 1)).map fun s => if decision ⟨h, t⟩ n s ≠ 0 then [decision ⟨h, t⟩ n s] else ((possibleRow ⟨h, t⟩ k).getD s [] ++ (possibleRow ⟨h, t⟩ k).getD (s + 1) []).eraseDups := by
      rw [← hn']
      rfl
    refine ⟨by rw [eq, List.length_map, List.length_range, hn'], fun l hl' => ?_, ?_⟩
    · rw [eq] at hl'
      obtain ⟨s, hs, e⟩ := List.mem_map.mp hl'
      have hs' := List.mem_range.mp hs
      obtain ⟨a, _, a2, a3⟩ := later s (by omega)
      rw [← e]
      by_cases h0 : decision ⟨h, t⟩ n s ≠ 0
      · rw [if_pos h0]
        exact red_one _
      · rw [if_neg h0]
        exact red_dups (by rw [a2]; intro e; exact a3.ne (List.append_eq_nil_iff.mp e).1)
    · rw [hn', curT_step hd (by omega), hn, eq, List.map_map]
      show curRow d _ = _
      rw [i3]
      unfold curRow
      rw [hl]
      refine List.map_congr_left fun s hs => ?_
      have hs' := List.mem_range.mp hs
      obtain ⟨a, a1, a2, a3⟩ := later s (by omega)
      obtain ⟨b, b1, b2, b3⟩ := later (s + 1) (by omega)
      have g1 : ((possibleRow ⟨h, t⟩ k).map sg).getD s 0 = sg a := by
        rw [List.getD_eq_getElem?_getD, List.getElem?_map, a1]
        rfl
      have g2 : ((possibleRow ⟨h, t⟩ k).map sg).getD (s + 1) 0 = sg b := by
        rw [List.getD_eq_getElem?_getD, List.getElem?_map, b1]
        rfl
      have g3 : d.getD s 0 = decision ⟨h, t⟩ n s := by
        rw [edec]
        simp [List.getD, show s < d.length by omega]
      rw [g1, g2, g3]
      show _ = sg (if decision ⟨h, t⟩ n s ≠ 0 then [decision ⟨h, t⟩ n s] else _)
      by_cases h0 : decision ⟨h, t⟩ n s = 0
      · rw [if_neg (fun z => z h0), a2, b2, sg_merge a3 b3, h0]
      · rw [if_pos h0]
        unfold cdec
        rw [if_neg (fun z => h0 z.1)]
        rfl
theorem curT_get {t : List (List Nat)} : ∀ {n : Nat}, n < t.length → (curT t)[n]? = some ((curT (t.drop n)).headD []) := fun {n} => by
  induction t generalizing n with
  | nil => intro h; simp at h
  | cons r rest ih =>
    intro h
    cases n with
    | zero =>
      obtain ⟨c, h1, h2, _⟩ := curT_head (r := r) (rest := rest)
      rw [List.drop_zero, h1, h2]
    | succ n =>
      cases rest with
      | nil => simp at h
      | cons q rest =>
        show (curT (q :: rest))[n]? = _
        rw [ih (by simpa using h)]
        rfl
theorem curtailed_eq {h : Nat} {t : List (List Nat)} (ht : t.length = h + 1) (tri : Tri t) : (curtailed ⟨h, t⟩).table = curT t := by
  refine List.ext_getElem? fun n => ?_
  unfold curtailed
  simp only []
  by_cases hn : n < h + 1
  · obtain ⟨p1, p2, p3⟩ := possible_eq ht tri (h - n) (by omega)
    have e : h - (h - n) = n := by omega
    rw [e] at p1 p3
    rw [List.getElem?_map, List.getElem?_range hn, curT_get (by omega), p3]
    show some ((List.range (n + 1)).map _) = _
    congr 1
    refine List.ext_getElem? fun i => ?_
    by_cases hi : i < n + 1
    · rw [List.getElem?_map, List.getElem?_range hi, List.getElem?_map, List.getElem?_eq_getElem (by omega)]
      show some (sg ((possibleRow ⟨h, t⟩ (h - n)).getD i [])) = some (sg _)
      simp [List.getD, show i < (possibleRow ⟨h, t⟩ (h - n)).length by omega]
    · rw [List.getElem?_eq_none (by rw [List.length_map, List.length_range]; omega), List.getElem?_eq_none (by rw [List.length_map]; omega)]
  · rw [List.getElem?_eq_none (by rw [List.length_map, List.length_range]; omega), List.getElem?_eq_none (by rw [curT_len]; omega)]
end KxE
/-! KxF: the plans of the program are the specification's; what all plans keep. -/
namespace KxF
open Kxd7 St KxC KxD KxE
theorem fromRule_table (h : Nat) (f : Nat → Nat → Nat) : (fromRule h f).table = table h (fun n s => if n = h ∧ f n s = 0 then 1 else f n s) := rfl
theorem table_congr {h : Nat} {f g : Nat → Nat → Nat} (e : ∀ n s, n ≤ h → s ≤ n → f n s = g n s) : table h f = table h g := by
  unfold table
  refine List.map_congr_left fun n hn => List.map_congr_left fun s hs => ?_
  have := List.mem_range.mp hn
  have := List.mem_range.mp hs
  exact e n s (by omega) (by omega)
theorem new_table (h : Nat) : table h (singleRule h h) = (fromRule h fun _ _ => 0).table := by
  rw [fromRule_table]
  refine table_congr fun n s hn hs => ?_
  unfold singleRule
  by_cases e : n = h
  · rw [if_neg (by omega), if_neg (by omega), if_pos ⟨e, rfl⟩]
  · rw [if_pos (by omega), if_neg (fun z => e z.1)]
theorem single_table (h l : Nat) : table h (singleRule h l) = (fromRule h (singleRule h l)).table := by
  rw [fromRule_table]
  refine table_congr fun n s hn hs => ?_
  by_cases e : n = h ∧ singleRule h l n s = 0
  · exfalso
    have e2 := e.2
    unfold singleRule at e2
    rw [if_neg (by omega)] at e2
    by_cases q : l < s
    · rw [if_pos q] at e2; omega
    · rw [if_neg q] at e2; omega
  · rw [if_neg e]
theorem twoStage_table (h f fl l : Nat) : table h (twoStageRule f fl h l) = (fromRule h (twoStageRule f fl h l)).table := by
  rw [fromRule_table]
  refine table_congr fun n s hn hs => ?_
  by_cases e : n = h ∧ twoStageRule f fl h l n s = 0
  · exfalso
    have e2 := e.2
    unfold twoStageRule at e2
    by_cases q1 : n = f ∧ s ≤ fl
    · rw [if_pos q1] at e2; omega
    · rw [if_neg q1, if_neg (by omega)] at e2
      by_cases q : l < s
      · rw [if_pos q] at e2; omega
      · rw [if_neg q] at e2; omega
  · rw [if_neg e]
theorem likeInt_eq {p0 p1 d l ld hi hd h n s : Nat} (h0 : p0 ≤ d) (h1 : p1 ≤ d) (hh : 0 < h) :
    likeInt p0 p1 d l ld hi hd h n s = if n = h ∧ likeNat p0 p1 d l ld hi hd n s = 0 then 1 else likeNat p0 p1 d l ld hi hd n s := by
  have c0 : (p0 : Int) ^ s * ((d : Int) - (p0 : Int)) ^ (n - s) = ((p0 ^ s * (d - p0) ^ (n - s) : Nat) : Int) := by
    rw [show (d : Int) - (p0 : Int) = ((d - p0 : Nat) : Int) by omega, cast_pow, cast_pow, ← Int.natCast_mul]
  have c1 : (p1 : Int) ^ s * ((d : Int) - (p1 : Int)) ^ (n - s) = ((p1 ^ s * (d - p1) ^ (n - s) : Nat) : Int) := by
    rw [show (d : Int) - (p1 : Int) = ((d - p1 : Nat) : Int) by omega, cast_pow, cast_pow, ← Int.natCast_mul]
  unfold likeInt likeNat
  rw [c0, c1]
  generalize p0 ^ s * (d - p0) ^ (n - s) = W0
  generalize p1 ^ s * (d - p1) ^ (n - s) = W1
  by_cases hn : n = 0
  · rw [if_pos hn, if_pos hn, if_neg (fun z => by omega)]
  · rw [if_neg hn, if_neg hn]
    have e1 : ((hi : Int) * (W0 : Int) ≤ (W1 : Int) * (hd : Int)) ↔ hi * W0 ≤ W1 * hd := by rw [← Int.natCast_mul, ← Int.natCast_mul, Int.ofNat_le]
    have e2 : ((W1 : Int) * (ld : Int) ≤ (l : Int) * (W0 : Int)) ↔ W1 * ld ≤ l * W0 := by rw [← Int.natCast_mul, ← Int.natCast_mul, Int.ofNat_le]
    by_cases q1 : hi * W0 ≤ W1 * hd
    · rw [if_pos (e1.mpr q1), if_pos q1, if_neg (fun z => by omega)]
    · rw [if_neg (fun z => q1 (e1.mp z)), if_neg q1]
      by_cases q2 : W1 * ld ≤ l * W0
      · rw [if_pos (e2.mpr q2), if_pos q2, if_neg (fun z => by omega)]
      · rw [if_neg (fun z => q2 (e2.mp z)), if_neg q2]
        by_cases q3 : n = h
        · rw [if_pos q3, if_pos ⟨q3, rfl⟩]
        · rw [if_neg q3, if_neg (fun z => q3 z.1)]
theorem like_table {p0 p1 d l ld hi hd h : Nat} (h0 : 0 < p0) (h1 : p0 < p1) (h2 : p1 < d) (h3 : 0 < ld) (h4 : 0 < hd) (hh : 0 < h) :
    table h (likeInt p0 p1 d l ld hi hd h) = (fromRule h (likelihoodRule (share p0 d) (share p1 d) (share l ld) (share hi hd))).table := by
  rw [fromRule_table]
  refine table_congr fun n s hn hs => ?_
  rw [rule_eq h0 h1 h2 h3 h4, likeInt_eq (by omega) (by omega) hh]
/-! ### what all plans keep -/
/-- the entries are 0, 1 or 2 -/
def Le2 (t : List (List Nat)) : Prop := ∀ r ∈ t, ∀ x ∈ r, x ≤ 2
structure GoodT (h : Nat) (t : List (List Nat)) : Prop where
  h1 : 1 ≤ h
  h20 : h ≤ 20
  len : t.length = h + 1
  tri : Tri t
  le2 : Le2 t
  fin : ∀ r, t[h]? = some r → ∀ x ∈ r, x ≠ 0
theorem table_len (h : Nat) (g : Nat → Nat → Nat) : (table h g).length = h + 1 := by
  unfold table
  rw [List.length_map, List.length_range]
theorem table_tri (h : Nat) (g : Nat → Nat → Nat) : Tri (table h g) := fun n r e => by
  have hn : n < h + 1 := by
    have := (List.getElem?_eq_some_iff.mp e).1
    rw [table_len] at this
    exact this
  rw [table_get (by omega)] at e
  rw [← Option.some.inj e, List.length_map, List.length_range]
theorem table_good {h : Nat} {g : Nat → Nat → Nat} (h1 : 1 ≤ h) (h20 : h ≤ 20) (hg : ∀ n s, g n s ≤ 2) (h0 : ∀ s, g h s ≠ 0) : GoodT h (table h g) :=
  ⟨h1, h20, table_len h g, table_tri h g, fun r hr x hx => by
    obtain ⟨n, _, e⟩ := List.mem_map.mp hr
    rw [← e] at hx
    obtain ⟨s, _, e2⟩ := List.mem_map.mp hx
    rw [← e2]
    exact hg n s, fun r hr x hx => by
    rw [table_get (Nat.le_refl h)] at hr
    rw [← Option.some.inj hr] at hx
    obtain ⟨s, _, e2⟩ := List.mem_map.mp hx
    rw [← e2]
    exact h0 s⟩
theorem single_fin (h l s : Nat) : singleRule h l h s ≠ 0 := by
  unfold singleRule
  rw [if_neg (Nat.lt_irrefl _)]
  split <;> omega
theorem twoStage_fin (f fl h l s : Nat) : twoStageRule f fl h l h s ≠ 0 := by
  unfold twoStageRule
  by_cases q : h = f ∧ s ≤ fl
  · rw [if_pos q]; omega
  · rw [if_neg q, if_neg (Nat.lt_irrefl _)]
    split <;> omega
theorem likeInt_fin (p0 p1 d l ld hi hd : Int) {h : Nat} (hh : 1 ≤ h) (s : Nat) : likeInt p0 p1 d l ld hi hd h h s ≠ 0 := by
  unfold likeInt
  rw [if_neg (by omega)]
  repeat' split
  all_goals omega
theorem single_le (h l n s : Nat) : singleRule h l n s ≤ 2 := by
  unfold singleRule
  by_cases a : n < h
  · rw [if_pos a]; omega
  · rw [if_neg a]
    by_cases b : l < s
    · rw [if_pos b]; omega
    · rw [if_neg b]; omega
theorem twoStage_le (f fl h l n s : Nat) : twoStageRule f fl h l n s ≤ 2 := by
  unfold twoStageRule
  by_cases q : n = f ∧ s ≤ fl
  · rw [if_pos q]; omega
  · rw [if_neg q]
    by_cases a : n < h
    · rw [if_pos a]; omega
    · rw [if_neg a]
      by_cases b : l < s
      · rw [if_pos b]; omega
      · rw [if_neg b]; omega
theorem likeInt_le (p0 p1 d l ld hi hd : Int) (h n s : Nat) : likeInt p0 p1 d l ld hi hd h n s ≤ 2 := by
  unfold likeInt
  repeat' split
  all_goals omega
theorem cdec_le {d f s : Nat} (hd : d ≤ 2) (hf : f ≤ 2) : cdec d f s ≤ 2 := by
  unfold cdec
  split <;> omega
theorem getD_le {l : List Nat} (h : ∀ x ∈ l, x ≤ 2) (i : Nat) : l.getD i 0 ≤ 2 := by
  rw [List.getD_eq_getElem?_getD]
  cases e : l[i]? with
  | none => exact Nat.zero_le _
  | some x => exact h x (List.mem_of_getElem? e)
theorem curT_le : ∀ {t : List (List Nat)}, Le2 t → Le2 (curT t)
  | [], _ => fun r hr => by cases hr
  | [r], h => h
  | r :: q :: rest, h => by
    have ih := curT_le (t := q :: rest) fun r' hr' => h r' (List.mem_cons_of_mem _ hr')
    intro r' hr' x hx
    rcases List.mem_cons.mp (show r' ∈ curRow r ((curT (q :: rest)).headD []) :: curT (q :: rest) from hr') with z | z
    · rw [z] at hx
      obtain ⟨s, _, e⟩ := List.mem_map.mp hx
      rw [← e]
      refine cdec_le (getD_le (h r (by simp)) s) (getD_le (fun y hy => ?_) s)
      obtain ⟨c, h1, h2, _⟩ := curT_head (r := q) (rest := rest)
      rw [h2] at hy
      exact ih c (List.mem_of_getElem? h1) y hy
    · exact ih r' z x hx
theorem curT_tri {t : List (List Nat)} (tri : Tri t) : Tri (curT t) := fun n r e => by
  have hn : n < t.length := by
    have := (List.getElem?_eq_some_iff.mp e).1
    rw [curT_len] at this
    exact this
  rw [curT_get hn] at e
  obtain ⟨d, hd⟩ : ∃ d, t[n]? = some d := ⟨_, List.getElem?_eq_getElem hn⟩
  have ed : t.drop n = d :: t.drop (n + 1) := by
    rw [List.drop_eq_getElem_cons hn]
    have := (List.getElem?_eq_some_iff.mp hd).2
    rw [this]
  obtain ⟨c, h1, h2, h3⟩ := curT_head (r := d) (rest := t.drop (n + 1))
  rw [ed, h2] at e
  rw [← Option.some.inj e, h3]
  exact tri n d hd
theorem curT_good {h : Nat} {t : List (List Nat)} (g : GoodT h t) : GoodT h (curT t) := ⟨g.h1, g.h20, by rw [curT_len]; exact g.len, curT_tri g.tri, curT_le g.le2, fun r hr => by
  have hn : h < t.length := by rw [g.len]; omega
  rw [curT_get hn] at hr
  obtain ⟨d, hd⟩ : ∃ d, t[h]? = some d := ⟨_, List.getElem?_eq_getElem hn⟩
  have ed : t.drop h = [d] := by
    rw [List.drop_eq_getElem_cons hn, (List.getElem?_eq_some_iff.mp hd).2, List.drop_of_length_le (by rw [g.len]; omega)]
  rw [ed] at hr
  have e : d = r := Option.some.inj hr
  rw [← e]
  exact g.fin d hd⟩
theorem bestN_le (b : PB) (later : List (Nat × Nat)) (w0 w1 s : Nat) : (bestN b later w0 w1 s).1 ≤ 2 := by
  unfold bestN
  simp only []
  have hs : (stopN (b.l1 * w1) (b.l0 * w0)).1 ≤ 2 := by
    unfold stopN
    split <;> simp
  split
  · exact hs
  · split
    · simp
    · exact hs
theorem bestFrom_le (b : PB) (h : Nat) : ∀ k, ∀ z ∈ bestFrom b h k, z.1 ≤ 2
  | 0, z, hz => by
    obtain ⟨s, _, e⟩ := List.mem_map.mp (show z ∈ (List.range _).map _ from hz)
    rw [← e]
    exact bestN_le ..
  | k + 1, z, hz => by
    obtain ⟨s, _, e⟩ := List.mem_map.mp (show z ∈ (List.range _).map _ from hz)
    rw [← e]
    exact bestN_le ..
theorem bestFrom_fin (b : PB) (h : Nat) : ∀ z ∈ bestFrom b h 0, z.1 ≠ 0 := fun z hz => by
  obtain ⟨s, _, e⟩ := List.mem_map.mp (show z ∈ (List.range _).map _ from hz)
  rw [← e]
  show (stopN _ _).1 ≠ 0
  unfold stopN
  split <;> simp
theorem best_good {b : PB} {h : Nat} (h1 : 1 ≤ h) (h20 : h ≤ 20) : GoodT h ((bestRows b h (h + 1)).map fun l => l.map (·.1)) := by
  have len : (bestRows b h (h + 1)).length = h + 1 := by
    unfold bestRows
    rw [List.length_map, List.length_range]
  refine ⟨h1, h20, by rw [List.length_map, len], fun n r e => ?_, fun r hr x hx => ?_, fun r hr x hx => ?_⟩
  · have hn : n < h + 1 := by
      have := (List.getElem?_eq_some_iff.mp e).1
      rw [List.length_map, len] at this
      exact this
    unfold bestRows at e
    rw [List.getElem?_map, List.getElem?_map, List.getElem?_range hn] at e
    rw [← Option.some.inj e, List.length_map, bestFrom_len]
    omega
  · obtain ⟨l, hl, e⟩ := List.mem_map.mp hr
    obtain ⟨k, _, e2⟩ := List.mem_map.mp (show l ∈ (List.range (h + 1)).map _ from hl)
    rw [← e] at hx
    obtain ⟨z, hz, e3⟩ := List.mem_map.mp hx
    rw [← e3]
    rw [← e2] at hz
    exact bestFrom_le b h _ z hz
  · unfold bestRows at hr
    rw [List.getElem?_map, List.getElem?_map, List.getElem?_range (by omega)] at hr
    rw [← Option.some.inj hr] at hx
    obtain ⟨z, hz, e3⟩ := List.mem_map.mp hx
    rw [← e3]
    have hz : z ∈ bestFrom b h (h + 1 - 1 - h) := hz
    have e4 : h + 1 - 1 - h = 0 := by omega
    rw [e4] at hz
    exact bestFrom_fin b h z hz
end KxF
/-! KxG: the probabilities of a plan as whole numbers over one denominator, in lowest terms. -/
namespace KxG
open Kxd7 KxA KxB KxC KxD St KxF
/-- a weighted sum over stops, times the horizon's denominator -/
def wsum (h x d : Nat) (g : Nat × Nat → Nat) (l : List (Nat × Nat)) : Nat := l.foldl (fun t z => t + g z * x ^ z.2 * (d - x) ^ (z.1 - z.2) * d ^ (h - z.1)) 0
theorem fold_nat {α : Type} (f : α → Nat) : ∀ (l : List α) (a : Nat), (((l.foldl (fun t z => t + f z) a : Nat)) : Rat) = (a : Rat) + sum (l.map fun z => ((f z : Nat) : Rat))
  | [], a => by
    show (a : Rat) = (a : Rat) + sum []
    rw [sum_nil, Rat.add_zero]
  | z :: l, a => by
    rw [List.foldl_cons, fold_nat f l, List.map_cons, sum_cons, Rat.natCast_add, Rat.add_assoc]
theorem total_nat {h : Nat} {l : List (Nat × Nat)} (hl : ∀ z ∈ l, z.1 ≤ h ∧ z.2 ≤ z.1) (g : Nat × Nat → Nat) {x d : Nat} (hx : x ≤ d) (hd : 0 < d) :
    ((wsum h x d g l : Nat) : Rat) / ((d ^ h : Nat) : Rat) = sum (l.map fun z => (g z : Rat) * (((x : Rat) / (d : Rat)) ^ z.2 * (1 - (x : Rat) / (d : Rat)) ^ (z.1 - z.2))) := by
  unfold wsum
  rw [fold_nat]
  have z0 : ((0 : Nat) : Rat) = 0 := rfl
  rw [z0, Rat.zero_add, sum_div, List.map_map]
  congr 1
  refine List.map_congr_left fun z hz => ?_
  have e := term_eq (hl z hz).1 (hl z hz).2 (g z : Rat) (x : Rat) (d : Rat) (cast_ne hd)
  rw [← e]
  show (((_ * _ * _ * _ : Nat)) : Rat) / _ = _
  rw [Rat.natCast_mul, Rat.natCast_mul, Rat.natCast_mul, Rat.natCast_pow, Rat.natCast_pow, Rat.natCast_pow, Rat.natCast_pow, cast_sub hx]
theorem stops_in {p : Plan} : ∀ z ∈ stops p, z.1 ≤ p.horizon ∧ z.2 ≤ z.1 := fun z hz => by
  unfold stops at hz
  obtain ⟨n, hn, hz⟩ := List.mem_flatMap.mp hz
  simp only [List.mem_map, List.mem_filter, List.mem_range] at hz
  obtain ⟨s, ⟨hs, _⟩, e⟩ := hz
  have := List.mem_range.mp hn
  rw [← e]
  exact ⟨by omega, by show s ≤ n; omega⟩
/-- what the program adds up for acceptance -/
def accN (p : Plan) (x d : Nat) : Nat := wsum p.horizon x d (fun z => paths p z.1 z.2) ((stops p).filter fun z => decision p z.1 z.2 == 1)
def sizeN (p : Plan) (x d : Nat) : Nat := wsum p.horizon x d (fun z => z.1 * paths p z.1 z.2) (stops p)
def stopN' (p : Plan) (x d n : Nat) : Nat := wsum p.horizon x d (fun z => paths p z.1 z.2) ((stops p).filter fun z => z.1 == n)
theorem acc_eq (p : Plan) {x d : Nat} (hx : x ≤ d) (hd : 0 < d) : acceptance p (share x d) = fr ((accN p x d : Rat) / ((d ^ p.horizon : Nat) : Rat)) := by
  unfold accN
  rw [share_eq, acceptance_eq, total_nat (fun z hz => stops_in z (List.mem_filter.mp hz).1) _ hx hd]
  rfl
theorem sizeE_eq (p : Plan) {x d : Nat} (hx : x ≤ d) (hd : 0 < d) : expectedSize p (share x d) = fr ((sizeN p x d : Rat) / ((d ^ p.horizon : Nat) : Rat)) := by
  unfold sizeN
  rw [share_eq, size_eq, total_nat (fun z hz => stops_in z hz) _ hx hd]
  congr 2
  refine List.map_congr_left fun z _ => ?_
  unfold pr
  rw [Rat.natCast_mul, Rat.mul_assoc]
theorem stopE_eq (p : Plan) {x d : Nat} (n : Nat) (hx : x ≤ d) (hd : 0 < d) : stopProbability p (share x d) n = fr ((stopN' p x d n : Rat) / ((d ^ p.horizon : Nat) : Rat)) := by
  unfold stopN'
  rw [share_eq, stopProb_eq, total_nat (fun z hz => stops_in z (List.mem_filter.mp hz).1) _ hx hd]
  rfl
/-- a fraction of whole numbers in lowest terms -/
theorem fields_eq (n d : Nat) (hd : 0 < d) : fields (fr ((n : Rat) / (d : Rat))) = [((n / Nat.gcd n d : Nat) : Int), ((d / Nat.gcd n d : Nat) : Int)] := by
  have e : fr ((n : Rat) / (d : Rat)) = fraction (n : Int) (d : Int) := by
    rw [fraction_eq, Rat.divInt_eq_div]
    rfl
  rw [e]
  unfold fields fraction
  simp only []
  rw [if_neg (by omega), if_neg (by omega)]
  show [(n : Int) / ((Int.gcd (n : Int) (d : Int) : Nat) : Int), (((d : Int) / ((Int.gcd (n : Int) (d : Int) : Nat) : Int)).toNat : Int)] = _
  rw [Int.gcd_natCast_natCast, ← Int.natCast_ediv, ← Int.natCast_ediv, Int.toNat_natCast]
theorem lowest_eq (n d : Nat) (hd : 0 < d) : lowest n d = (fields (fr ((n : Rat) / (d : Rat)))).map L2.V.int := by
  rw [fields_eq n d hd]
  rfl
/-- a count of paths is at most a power of two -/
theorem nextRow_le {ds cs : List Nat} {m : Nat} (h : ∀ x ∈ cs, x ≤ m) : ∀ x ∈ nextRow ds cs, x ≤ 2 * m := fun x hx => by
  rw [← nrow_all] at hx
  obtain ⟨i, _, e⟩ := List.mem_map.mp hx
  have hm : ∀ i, msk ds cs cs.length i ≤ m := fun i => by
    unfold msk
    split
    · rw [List.getD_eq_getElem?_getD]
      cases e : cs[i]? with
      | none => exact Nat.zero_le _
      | some y => exact h y (List.mem_of_getElem? e)
    · exact Nat.zero_le _
  rw [← e]
  cases i with
  | zero =>
    have := hm 0
    show msk ds cs cs.length 0 ≤ 2 * m
    omega
  | succ i =>
    have h1 := hm i
    have h2 := hm (i + 1)
    show msk ds cs cs.length (i + 1) + msk ds cs cs.length i ≤ 2 * m
    omega
theorem pathRow_le (h : Nat) (t : List (List Nat)) : ∀ n, ∀ x ∈ pathRow (planT h t) n, x ≤ 2 ^ n
  | 0, x, hx => by
    have : x = 1 := by simpa using (show x ∈ [1] from hx)
    rw [this]
    decide
  | n + 1, x, hx => by
    rw [pathRow_succ] at hx
    have := nextRow_le (pathRow_le h t n) x hx
    rw [Nat.pow_succ, Nat.mul_comm]
    exact this
theorem paths_le (h : Nat) (t : List (List Nat)) (n s : Nat) : paths (planT h t) n s ≤ 2 ^ n := by
  unfold paths
  rw [List.getD_eq_getElem?_getD]
  cases e : (pathRow (planT h t) n)[s]? with
  | none => exact Nat.zero_le _
  | some y => exact pathRow_le h t n y (List.mem_of_getElem? e)
end KxG
set_option Elab.async false
set_option linter.all false
set_option maxRecDepth 100000
set_option maxHeartbeats 2000000
/-! W16: the instance and its methods. -/
namespace St
open PySem PySem.Spec PyProof.Rows L2 NdefX LamX KxF
def rF (v : V) : List (Str × V) := [("rows", v)]
theorem rF_get (v : V) : (rF v).lookup ("rows" : Str) = some v := lk_here
theorem rF_put (v x : V) : putF "rows" x (rF v) = rF x := if_pos rfl
theorem rF_no {m : Str} (v : V) (h : (m == ("rows" : Str)) = false) : (rF v).lookup m = Option.none := lk_past h
/-- the class Instance as the top has written it -/
structure ICls (K : PySem.W.Frag) (C : Addr) : Prop where
  cl : Cls K C
  rows : NoAttr K C "rows"
/-- the instance at I holds the plan of horizon h with the rows t, at a and rs -/
structure PlanAt (H : Hp) (C I : Addr) (h : Nat) (t : List (List Nat)) (a : Addr) (rs : List Addr) : Prop where
  ins : ∃ dx, H I = some (.ins C dx (rF (.ref a)))
  rows : RowsAt H a rs t
  good : GoodT h t
theorem PlanAt.same {H H' : Hp} {C I : Addr} {h : Nat} {t : List (List Nat)} {a : Addr} {rs : List Addr} (p : PlanAt H C I h t a rs) (s : Same H H') : PlanAt H' C I h t a rs :=
  ⟨let ⟨dx, e⟩ := p.ins; ⟨dx, s _ _ e⟩, p.rows.same s, p.good⟩
section
variable {P : Program} {w : World} {K : PySem.W.Frag} {mg : Str → Option Value} {base : Heap}
def sp_horizon (C : Addr) : Sp := fun vs H Q _ => ∃ (I : Addr) (h : Nat) (t : List (List Nat)) (a : Addr) (rs : List Addr), vs = [.ref I] ∧ PlanAt H C I h t a rs ∧ Q (.int h) H
/-- a method of the class, found, with its parameters -/
structure MetB (K : PySem.W.Frag) (C : Addr) (m qual : Str) (st : Stmt) (ps : List Str) : Prop where
  ex : ∃ (f : Addr) (fd : FuncData), Meth K C m f ∧ C8.Fun K m qual st f fd ∧ Binds K fd ps []
theorem m_horizon {C : Addr} (gl : Glb mg) (T : ICls K C) (F : MetB K C "horizon" "Instance.horizon" s_Instance_horizon ["self"]) : C8.Met P w K mg base 1 C "horizon" (sp_horizon C) [] := by
  obtain ⟨f, fd, me, F, b⟩ := F.ex
  refine C8.met0 T.cl me F b (C8.fnScope_by (N := ["self"]) (by decide +kernel)) (fun vs H Q E h => ?_) (fun cdv A outer s H vs Q E hr h => ?_)
  · obtain ⟨_, _, _, _, _, rfl, _⟩ := h
    rfl
  · obtain ⟨I, h, t, a, rs, rfl, p, k⟩ := h
    obtain ⟨dx, hI⟩ := p.ins
    refine ⟨_, pss_one (ps_ret (pe_op op_sub (pe_callB call_len_seq (by rfl) gl.len PySem.boot_len (pa_cons (pe_fld (pv 0) rfl) pa_nil)) pe_int)), ?_⟩
    refine ⟨_, rfl, I, C, dx, _, _, rfl, hI, T.cl, T.rows, rF_get _, a, _, rfl, .inl (SqL.of p.rows.at_), _, _, rfl, rfl, ?_⟩
    have e : (((rs.map V.ref).length : Nat) : Int) - 1 = (h : Int) := by
      rw [List.length_map, p.rows.len, p.good.len]
      omega
    show Q (.int ((((rs.map V.ref).length : Nat) : Int) - 1)) H
    rw [e]
    exact k
def sp_has_point (C : Addr) : Sp := fun vs H Q _ => ∃ (I : Addr) (h : Nat) (t : List (List Nat)) (a : Addr) (rs : List Addr) (n s : Nat), vs = [.ref I, .int n, .int s] ∧ PlanAt H C I h t a rs ∧ Q (.bl (decide (s ≤ n ∧ n ≤ h))) H
theorem m_has_point {C : Addr} (T : ICls K C) (F : MetB K C "has_point" "Instance.has_point" s_Instance_has_point ["self", "n", "s"]) (c1 : C8.Met P w K mg base 1 C "horizon" (sp_horizon C) []) : C8.Met P w K mg base 2 C "has_point" (sp_has_point C) [] := by
  obtain ⟨f, fd, me, F, b⟩ := F.ex
  refine C8.met0 T.cl me F b (C8.fnScope_by (N := ["self", "n", "s"]) (by decide +kernel)) (fun vs H Q E h => ?_) (fun cdv A outer s H vs Q E hr h => ?_)
  · obtain ⟨_, _, _, _, _, _, _, rfl, _⟩ := h
    rfl
  · obtain ⟨I, h, t, a, rs, n, s, rfl, p, k⟩ := h
    obtain ⟨dx, hI⟩ := id p.ins
    refine ⟨_, pss_one (ps_ret (pe_chain op_le op_le (pv 2) (pv 1) (C8.pe_mt0 c1 hr (by decide) (pv 0)))), ?_⟩
    refine ⟨_, rfl, _, rfl, _, _, rfl, rfl, _, rfl, ?_⟩
    have e : decide (s ≤ n ∧ n ≤ h) = decide ((s : Int) ≤ (n : Int) ∧ (n : Int) ≤ (h : Int)) := decide_eq_decide.mpr (by omega)
    rw [e] at k
    exact and_bl (fun z => Q (.bl z) H) k fun k => ⟨_, rfl, I, dx, _, rfl, hI, rF_no _ (by decide +kernel), I, h, t, a, rs, rfl, p, _, _, rfl, rfl, k⟩
/-- a new plan is put into the instance; the answer is a new list -/
def sp_replace_plan (C : Addr) : Sp := fun vs H Q _ => ∃ (I a : Addr) (rs : List Addr) (h : Nat) (t : List (List Nat)) (v : V) (dx : Addr), vs = [.ref I, .ref a] ∧ H I = some (.ins C dx (rF v)) ∧ RowsAt H a rs t ∧ GoodT h t ∧
  ∀ H' p, PlanAt H' C I h t a rs → (∀ b o, H b = some o → b ≠ I → H' b = some o) → H p = Option.none → H' p = some (.lst [.int ((Kxd7.stops (planT h t)).length : Nat)]) → (∀ b, H' b = Option.none → H b = Option.none) → Q (.ref p) H'
theorem m_replace_plan {C : Addr} (gl : Glb mg) (T : ICls K C) (F : MetB K C "replace_plan" "Instance.replace_plan" s_Instance_replace_plan ["self", "rows"]) (c1 : Cal0 P w K mg base 4 "stops" sp_stops) : C8.Met P w K mg base 5 C "replace_plan" (sp_replace_plan C) [] := by
  obtain ⟨f, fd, me, F, b⟩ := F.ex
  refine C8.met0 T.cl me F b (C8.fnScope_by (N := ["self", "rows"]) (by decide +kernel)) (fun vs H Q E h => ?_) (fun cdv A outer s H vs Q E hr h => ?_)
  · obtain ⟨_, _, _, _, _, _, _, rfl, _⟩ := h
    rfl
  · obtain ⟨I, a, rs, h, t, v, dx, rfl, hI, R, g, k⟩ := h
    refine ⟨_, pss_cons (ps_fld (pv 0) (pv 1) rfl) (pss_one (ps_ret (pe_lst (pa_cons (pe_callB call_len_seq (by rfl) gl.len PySem.boot_len (pa_cons (C8.pe_c c1 hr (by decide) rfl (pa_cons (pv 1) pa_nil)) pa_nil)) pa_nil)))), ?_⟩
    refine ⟨_, rfl, _, rfl, I, C, dx, _, rfl, hI, T.cl, T.rows, (by show 1 < 1000; decide), ?_⟩
    rw [rF_put]
    have notI : ∀ b xs, H b = some (.lst xs) → b ≠ I := fun b xs e z => by
      rw [z, hI] at e
      cases e
    have R1 : RowsAt (upd H I (.ins C dx (rF (.ref a)))) a rs t := ⟨by rw [upd_ne (notI _ _ R.at_)]; exact R.at_, R.len, fun i r e => let ⟨d, h1, h2⟩ := R.row i r e; ⟨d, h1, by rw [upd_ne (notI _ _ h2)]; exact h2⟩, R.nd, R.ne⟩
    refine ⟨_, rfl, a, rs, t, h, rfl, R1, g.len, g.h20, g.tri, fun H1 q ts s1 hq S1 => ?_⟩
    refine ⟨q, _, rfl, .inl (SqL.of S1.at_), (by show 1 ≤ sizeLine; decide), fun p hp => ?_⟩
    have sp := same_upd (o := .lst [V.int ((ts.map V.ref).length : Nat)]) hp
    have s2 := s1.trans sp
    have fr : ∀ b, (upd H I (.ins C dx (rF (.ref a)))) b = Option.none → H b = Option.none := fun b e => by
      by_cases z : b = I
      · rw [z, upd_same] at e
        cases e
      · rw [upd_ne z] at e
        exact e
    refine k _ p ⟨⟨dx, s2 _ _ upd_same⟩, R1.same s2, g⟩ (fun b o e n => s2 _ _ (by rw [upd_ne n]; exact e)) (fr p (s1.free hp)) ?_ (fun b e => fr b (s2.free e))
    rw [upd_same, List.length_map, S1.len]
end
end St
set_option Elab.async false
set_option linter.all false
set_option maxRecDepth 100000
set_option maxHeartbeats 2000000
/-! W17: what each call's def promises; the calls that make plans. -/
namespace St
open PySem PySem.Spec PyProof.Rows L2 NdefX LamX KxF
/-- the state at the instance; X: the addresses that belong to it -/
inductive StAt (H : Hp) (C I : Addr) : Kxd7.State → (Addr → Prop) → Prop where
  | none (dx : Addr) (h : H I = some (.ins C dx (rF .non))) : StAt H C I Option.none (fun b => b = I)
  | some {h : Nat} {t : List (List Nat)} {a : Addr} {rs : List Addr} (p : PlanAt H C I h t a rs) : StAt H C I (Option.some ⟨h, t⟩) (fun b => b = I ∨ b = a ∨ b ∈ rs)
theorem StAt.same {H H' : Hp} {C I : Addr} {s : Kxd7.State} {X : Addr → Prop} (S : StAt H C I s X) (k : Same H H') : StAt H' C I s X := by
  cases S with
  | none dx h => exact .none dx (k _ _ h)
  | some p => exact .some (p.same k)
/-- behind a call: the new state; what else stood stands -/
structure Aft (T : List NTab) (C I : Addr) (H H' : Hp) (X : Addr → Prop) (s' : Kxd7.State) : Prop where
  st : ∃ X', StAt H' C I s' X' ∧ ∀ b, X' b → X b ∨ H b = Option.none
  ext : ∀ b o, H b = some o → ¬ X b → (∀ ps, o ≠ .tbl ps) → H' b = some o
  tab : TabsN T H → TabsN T H'
  non : ∀ b, H' b = Option.none → H b = Option.none
theorem Aft.same {T : List NTab} {C I : Addr} {H H' : Hp} {X : Addr → Prop} {s : Kxd7.State} (S : StAt H C I s X) (k : Same H H') : Aft T C I H H' X s :=
  ⟨⟨X, S.same k, fun _ h => .inl h⟩, fun b o e _ _ => k _ _ e, fun h => h.ext k, fun b h => k.free h⟩
theorem Aft.more {T : List NTab} {C I : Addr} {H H1 H' : Hp} {X : Addr → Prop} {s : Kxd7.State} (A : Aft T C I H H1 X s) (k : Same H1 H') : Aft T C I H H' X s :=
  ⟨let ⟨X', h1, h2⟩ := A.st; ⟨X', h1.same k, h2⟩, fun b o e n t => k _ _ (A.ext b o e n t), fun h => (A.tab h).ext k, fun b h => A.non b (k.free h)⟩
/-- a list of whole numbers, as values -/
def zs (l : List Int) : List V := l.map V.int
/-- what is to be shown of an answer -/
def Out (T : List NTab) (C I : Addr) (H : Hp) (X : Addr → Prop) (Q : VK) (r : Kxd7.State × Kxd7.Result) : Prop := ∀ H' p, Aft T C I H H' X r.1 → H p = Option.none → H' p = some (.lst (zs (Kxd7Neutral.fields r.2))) → Q (.ref p) H'
/-- what a call's def promises: req, the request that its numbers make -/
def sp_op (K : PySem.W.Frag) (T : List NTab) (C : Addr) (n : Nat) (nw : Bool) (req : List Nat → Kxd7.Request) : Sp := fun vs H Q _ => ∃ (I nb : Addr) (X : Addr → Prop) (s : Kxd7.State) (args : List Nat), vs = [.ref I, .ref nb] ∧ StAt H C I s X ∧ SqL K H nb (nats args) ∧ args.length = n ∧ (∀ z ∈ args, z < 2 ^ 32) ∧ TabsN T H ∧
  (nw = false → s ≠ Option.none) ∧ Out T C I H X Q (Kxd7.step s (req args))
def arg (l : List Nat) (i : Nat) : Nat := l.getD i 0
theorem nats_at {l : List Nat} {i : Nat} (h : i < l.length) : (nats l)[i]? = some (V.int (arg l i : Nat)) := nats_get (getD_get h)
/-- an answer that leaves all as it was -/
theorem aft_lit {T : List NTab} {C I p : Addr} {H : Hp} {X : Addr → Prop} {s : Kxd7.State} {xs : List V} (S : StAt H C I s X) (hp : H p = Option.none) : Aft T C I H (upd H p (.lst xs)) X s := Aft.same S (same_upd hp)
/-- a new plan was put into the instance -/
theorem aft_new {T : List NTab} {C I a : Addr} {rs : List Addr} {H H1 H2 : Hp} {X : Addr → Prop} {s : Kxd7.State} {h : Nat} {t : List (List Nat)} (S : StAt H C I s X) (k1 : Kp T H H1) (N : NewRows H H1 a rs t) (pl : PlanAt H2 C I h t a rs) (ext : ∀ b o, H1 b = some o → b ≠ I → H2 b = some o) (non : ∀ b, H2 b = Option.none → H1 b = Option.none) :
    Aft T C I H H2 X (Option.some ⟨h, t⟩) := by
  have XI : X I := by
    cases S with
    | none _ _ => exact rfl
    | some _ => exact .inl rfl
  have nt : ∀ ps, H1 I ≠ some (.tbl ps) := fun ps e => by
    have hI : ∃ dx v, H I = some (.ins C dx (rF v)) := by
      cases S with
      | none dx h => exact ⟨dx, _, h⟩
      | some p => obtain ⟨dx, h⟩ := p.ins; exact ⟨dx, _, h⟩
    obtain ⟨dx, v, hI⟩ := hI
    rw [k1.ins hI] at e
    cases e
  have ntO : ∀ q, H1 I ≠ some (CodeO I q) := fun q e => by
    have hI : ∃ dx v, H I = some (.ins C dx (rF v)) := by
      cases S with
      | none dx h => exact ⟨dx, _, h⟩
      | some p => obtain ⟨dx, h⟩ := p.ins; exact ⟨dx, _, h⟩
    obtain ⟨dx, v, hI⟩ := hI
    rw [k1.ins hI] at e
    unfold CodeO at e
    cases e
  refine ⟨⟨_, .some pl, fun b hb => ?_⟩, fun b o e nX tb => ext b o (k1.ext b o e tb) (fun z => nX (by rw [z]; exact XI)), fun hT => ?_, fun b e => k1.non b (non b e)⟩
  · rcases hb with z | z | z
    · exact .inl (by rw [z]; exact XI)
    · exact .inr (by rw [z]; exact N.fresh)
    · exact .inr (N.free b z)
  · have hT1 := k1.tab hT
    intro p hp
    obtain ⟨ps, h1, h2, h3⟩ := hT1 p hp
    refine ⟨ps, ext _ _ h1 (fun z => nt ps (by rw [← z]; exact h1)), h2, fun pos cv hc => ?_⟩
    obtain ⟨c, e1, e2⟩ := h3 pos cv hc
    exact ⟨c, e1, ext _ _ e2 (fun z => ntO _ (by rw [z] at e2; exact e2))⟩
theorem StAt.plan {H : Hp} {C I : Addr} {s : Kxd7.State} {X : Addr → Prop} (S : StAt H C I s X) (hs : s ≠ Option.none) : ∃ (h : Nat) (t : List (List Nat)) (a : Addr) (rs : List Addr), s = Option.some ⟨h, t⟩ ∧ PlanAt H C I h t a rs := by
  cases S with
  | none _ _ => exact absurd rfl hs
  | some p => exact ⟨_, _, _, _, rfl, p⟩
theorem StAt.ins {H : Hp} {C I : Addr} {s : Kxd7.State} {X : Addr → Prop} (S : StAt H C I s X) : ∃ dx v, H I = Option.some (HO.ins C dx (rF v)) := by
  cases S with
  | none dx h => exact ⟨dx, _, h⟩
  | some p => obtain ⟨dx, h⟩ := p.ins; exact ⟨dx, _, h⟩
section
variable {P : Program} {w : World} {K : PySem.W.Frag} {mg : Str → Option Value} {base : Heap}
theorem c_answer_create {T : List NTab} {C : Addr} (gl : Glb mg) (Ti : ICls K C) (F : DefB K mg "answer_create" s_answer_create ["instance", "numbers"]) (c1 : Cal0 P w K mg base 2 "is_horizon" sp_is_horizon) (c2 : Cal0 P w K mg base 5 "new_rows" (sp_new_rows T)) :
    Cal0 P w K mg base 6 "answer_create" (sp_op K T C 1 true fun l => .create (arg l 0)) := by
  obtain ⟨fa, fd, F, b⟩ := F.ex
  refine C8.cal0 F b .nil (C8.fnScope_by (N := ["instance", "numbers", "horizon"]) (by decide +kernel)) (fun vs H Q E h => ?_) (fun cdv A outer s H vs Q E hr h => ?_)
  · obtain ⟨_, _, _, _, _, rfl, _⟩ := h
    rfl
  · obtain ⟨I, nb, X, s, args, rfl, S, hn, hl, hz, hT, _, k⟩ := h
    replace k : Out T C I H X Q (Kxd7.step s (.create (arg args 0))) := k
    have nd : (["instance", "numbers", "horizon"] : List Str).Nodup := by decide +kernel
    refine ⟨_, pss_cons (ps_set (i := 2) nd rfl (.inl rfl) (pe_ix ix_list (pv 1) pe_int (fun _ _ => rfl)))
      (pss_cons (ps_if (pt_not (pt_val (C8.pe_c c1 hr (by decide) rfl (pa_cons (pv 2) pa_nil)))) (pss_one (ps_ret (pe_lst (pa_cons (C8.pe_gc rfl gl.OUTSIDE_RANGE) pa_nil)))) pss_nil)
      (pss_cons (ps_fld (pv 0) (C8.pe_c c2 hr (by decide) rfl (pa_cons (pv 2) pa_nil)) rfl)
      (pss_one (ps_ret (pe_lst (pa_cons pe_int pa_nil)))))), ?_⟩
    refine ⟨_, rfl, nb, _, _, _, rfl, rfl, hn, at_of (j := 0) rfl (nats_at (by omega)), _, rfl, _, rfl, _, rfl, ?_⟩
    generalize arg args 0 = n at *
    obtain ⟨dx, v, hI⟩ := S.ins
    by_cases hc : n = 0 ∨ 20 < n
    · have e : Kxd7.step s (.create n) = (s, .value (-22)) := by
        show (if n = 0 ∨ Kxd7.maxHorizon < n then _ else _) = _
        exact if_pos hc
      rw [e] at k
      rw [decide_eq_false (show ¬ (1 ≤ (n : Int) ∧ (n : Int) ≤ 20) by omega)]
      refine iteT ⟨(by show 1 ≤ sizeLine; decide), fun p hp => k _ p (aft_lit S hp) hp upd_same⟩
    · have e : Kxd7.step s (.create n) = (some (Kxd7.fromRule n fun _ _ => 0), .value 0) := by
        show (if n = 0 ∨ Kxd7.maxHorizon < n then _ else _) = _
        exact if_neg hc
      rw [e] at k
      rw [decide_eq_true (show 1 ≤ (n : Int) ∧ (n : Int) ≤ 20 by omega)]
      refine iteF ⟨_, rfl, n, rfl, by omega, hT, fun H1 a rs k1 N => ?_⟩
      rw [new_table] at N
      refine ⟨_, rfl, I, C, dx, _, rfl, k1.ins hI, Ti.cl, Ti.rows, (by show 1 < 1000; decide), ?_⟩
      rw [rF_put]
      refine ⟨(by show 1 ≤ sizeLine; decide), fun p hp => ?_⟩
      have notI : ∀ b xs, H1 b = some (.lst xs) → b ≠ I := fun b xs e z => by
        rw [z, k1.ins hI] at e
        cases e
      have R1 : RowsAt (upd H1 I (.ins C dx (rF (.ref a)))) a rs (Kxd7.fromRule n fun _ _ => 0).table := ⟨by rw [upd_ne (notI _ _ N.at_.at_)]; exact N.at_.at_, N.at_.len, fun i r e => let ⟨d, h1, h2⟩ := N.at_.row i r e; ⟨d, h1, by rw [upd_ne (notI _ _ h2)]; exact h2⟩, N.at_.nd, N.at_.ne⟩
      have g : GoodT n (Kxd7.fromRule n fun _ _ => 0).table := by
        rw [← new_table]
        exact table_good (by omega) (by omega) (single_le n n) (single_fin n n)
      have A := aft_new (T := T) S k1 N (pl := ⟨⟨dx, upd_same⟩, R1, g⟩) (fun b o e nI => by rw [upd_ne nI]; exact e) (fun b e => by
        by_cases z : b = I
        · rw [z, upd_same] at e
          cases e
        · rw [upd_ne z] at e
          exact e)
      exact k _ p (A.more (same_upd hp)) (A.non p hp) upd_same
end
end St
set_option Elab.async false
set_option linter.all false
set_option maxRecDepth 100000
set_option maxHeartbeats 2000000
/-! W18: the calls that replace the plan. -/
namespace St
open PySem PySem.Spec PyProof.Rows L2 NdefX LamX KxF
/-- the end of a call that replaces the plan -/
theorem put_out {T : List NTab} {C I a dx : Addr} {rs : List Addr} {H H1 : Hp} {X : Addr → Prop} {s : Kxd7.State} {h : Nat} {t : List (List Nat)} {v : V} {Q : VK} (S : StAt H C I s X) (k1 : Kp T H H1) (N : NewRows H H1 a rs t) (g : GoodT h t) (hI : H I = some (.ins C dx (rF v)))
    (k : Out T C I H X Q (Kxd7.put (planT h t))) : sp_replace_plan C [.ref I, .ref a] H1 Q (fun _ _ _ => False) := by
  refine ⟨I, a, rs, h, t, v, dx, rfl, k1.ins hI, N.at_, g, fun H2 p pl ext fr e non => ?_⟩
  exact k H2 p (aft_new S k1 N pl ext non) (k1.non p fr) e
section
variable {P : Program} {w : World} {K : PySem.W.Frag} {mg : Str → Option Value} {base : Heap}
/-- the two promises that all calls on a plan ask -/
theorem c_answer_single {T : List NTab} {C : Addr} (gl : Glb mg) (Ti : ICls K C) (F : DefB K mg "answer_single" s_answer_single ["instance", "numbers"]) (c1 : Cal0 P w K mg base 1 "is_within" sp_is_within) (c2 : Cal0 P w K mg base 4 "single_rows" (sp_single_rows T))
    (m1 : C8.Met P w K mg base 1 C "horizon" (sp_horizon C) []) (m2 : C8.Met P w K mg base 5 C "replace_plan" (sp_replace_plan C) []) : Cal0 P w K mg base 6 "answer_single" (sp_op K T C 1 false fun l => .single (arg l 0)) := by
  obtain ⟨fa, fd, F, b⟩ := F.ex
  refine C8.cal0 F b .nil (C8.fnScope_by (N := ["instance", "numbers", "limit", "horizon"]) (by decide +kernel)) (fun vs H Q E h => ?_) (fun cdv A outer s H vs Q E hr h => ?_)
  · obtain ⟨_, _, _, _, _, rfl, _⟩ := h
    rfl
  · obtain ⟨I, nb, X, s, args, rfl, S, hn, hl, hz, hT, hs, k⟩ := h
    replace k : Out T C I H X Q (Kxd7.step s (.single (arg args 0))) := k
    obtain ⟨h, t, a, rs, rfl, pl⟩ := S.plan (hs rfl)
    obtain ⟨dx, hI⟩ := id pl.ins
    have nd : (["instance", "numbers", "limit", "horizon"] : List Str).Nodup := by decide +kernel
    refine ⟨_, pss_cons (ps_set (i := 2) nd rfl (.inl rfl) (pe_ix ix_list (pv 1) pe_int (fun _ _ => rfl)))
      (pss_cons (ps_set (i := 3) nd rfl (.inl rfl) (C8.pe_mt0 m1 hr (by decide) (pv 0)))
      (pss_cons (ps_if (pt_not (pt_val (C8.pe_c c1 hr (by decide) rfl (pa_cons (pv 2) (pa_cons pe_int (pa_cons (pv 3) pa_nil)))))) (pss_one (ps_ret (pe_lst (pa_cons (C8.pe_gc rfl gl.OUTSIDE_RANGE) pa_nil)))) pss_nil)
      (pss_one (ps_ret (C8.pe_mt m2 hr (by decide) (pv 0) (pa_cons (C8.pe_c c2 hr (by decide) rfl (pa_cons (pv 3) (pa_cons (pv 2) pa_nil))) pa_nil)))))), ?_⟩
    refine ⟨_, rfl, nb, _, _, _, rfl, rfl, hn, at_of (j := 0) rfl (nats_at (by omega)), ?_⟩
    refine ⟨_, rfl, I, dx, _, rfl, hI, rF_no _ (by decide +kernel), I, h, t, a, rs, rfl, pl, ?_⟩
    refine ⟨_, rfl, _, rfl, _, _, _, rfl, _, rfl, ?_⟩
    generalize arg args 0 = n at *
    by_cases hc : h < n
    · have e : Kxd7.step (some ⟨h, t⟩) (.single n) = (some ⟨h, t⟩, .value (-22)) := if_pos hc
      rw [e] at k
      rw [decide_eq_false (show ¬ (0 ≤ (n : Int) ∧ (n : Int) ≤ (h : Int)) by omega)]
      exact iteT ⟨(by show 1 ≤ sizeLine; decide), fun p hp => k _ p (aft_lit S hp) hp upd_same⟩
    · have e : Kxd7.step (some ⟨h, t⟩) (.single n) = Kxd7.put (Kxd7.fromRule h (Kxd7.singleRule h n)) := if_neg hc
      rw [e] at k
      rw [decide_eq_true (show 0 ≤ (n : Int) ∧ (n : Int) ≤ (h : Int) by omega)]
      refine iteF ⟨_, rfl, I, dx, _, rfl, hI, rF_no _ (by decide +kernel), _, rfl, _, rfl, h, n, rfl, pl.good.h20, hT, fun H1 a1 rs1 k1 N => ?_⟩
      have g := table_good pl.good.h1 pl.good.h20 (single_le h n) (single_fin h n)
      rw [single_table] at N g
      exact put_out S k1 N g hI k
theorem c_answer_two_stage {T : List NTab} {C : Addr} (gl : Glb mg) (Ti : ICls K C) (F : DefB K mg "answer_two_stage" s_answer_two_stage ["instance", "numbers"]) (c1 : Cal0 P w K mg base 2 "are_two_stages" sp_are_two_stages) (c2 : Cal0 P w K mg base 4 "two_stage_rows" (sp_two_stage_rows T))
    (m1 : C8.Met P w K mg base 1 C "horizon" (sp_horizon C) []) (m2 : C8.Met P w K mg base 5 C "replace_plan" (sp_replace_plan C) []) : Cal0 P w K mg base 6 "answer_two_stage" (sp_op K T C 3 false fun l => .twoStage (arg l 0) (arg l 1) (arg l 2)) := by
  obtain ⟨fa, fd, F, b⟩ := F.ex
  refine C8.cal0 F b .nil (C8.fnScope_by (N := ["instance", "numbers", "first", "first_limit", "limit", "horizon"]) (by decide +kernel)) (fun vs H Q E h => ?_) (fun cdv A outer s H vs Q E hr h => ?_)
  · obtain ⟨_, _, _, _, _, rfl, _⟩ := h
    rfl
  · obtain ⟨I, nb, X, s, args, rfl, S, hn, hl, hz, hT, hs, k⟩ := h
    obtain ⟨x0, x1, x2, rfl⟩ : ∃ x0 x1 x2, args = [x0, x1, x2] := match args, hl with | [x0, x1, x2], _ => ⟨x0, x1, x2, rfl⟩
    replace k : Out T C I H X Q (Kxd7.step s (.twoStage x0 x1 x2)) := k
    obtain ⟨h, t, a, rs, rfl, pl⟩ := S.plan (hs rfl)
    obtain ⟨dx, hI⟩ := id pl.ins
    have nd : (["instance", "numbers", "first", "first_limit", "limit", "horizon"] : List Str).Nodup := by decide +kernel
    refine ⟨_, pss_cons (ps_asg (pv 1) (pg_lst rfl (pgs_cons (pg_name (i := 2) nd rfl (.inl rfl)) (pgs_cons (pg_name (i := 3) nd rfl (.inl rfl)) (pgs_cons (pg_name (i := 4) nd rfl (.inl rfl)) pgs_nil)))))
      (pss_cons (ps_set (i := 5) nd rfl (.inl rfl) (C8.pe_mt0 m1 hr (by decide) (pv 0)))
      (pss_cons (ps_if (pt_not (pt_val (C8.pe_c c1 hr (by decide) rfl (pa_cons (pv 5) (pa_cons (pv 2) (pa_cons (pv 3) (pa_cons (pv 4) pa_nil))))))) (pss_one (ps_ret (pe_lst (pa_cons (C8.pe_gc rfl gl.OUTSIDE_RANGE) pa_nil)))) pss_nil)
      (pss_one (ps_ret (C8.pe_mt m2 hr (by decide) (pv 0) (pa_cons (C8.pe_c c2 hr (by decide) rfl (pa_cons (pv 5) (pa_cons (pv 2) (pa_cons (pv 3) (pa_cons (pv 4) pa_nil))))) pa_nil)))))), ?_⟩
    refine ⟨_, rfl, nb, _, rfl, hn, rfl, _, _, rfl, _, _, rfl, _, _, rfl, rfl, ?_⟩
    refine ⟨_, rfl, I, dx, _, rfl, hI, rF_no _ (by decide +kernel), I, h, t, a, rs, rfl, pl, ?_⟩
    refine ⟨_, rfl, _, rfl, _, rfl, _, rfl, _, _, _, _, rfl, _, rfl, ?_⟩
    have h1 := pl.good.h1
    by_cases hc : x0 = 0 ∨ h ≤ x0 ∨ x0 < x1 ∨ h < x2
    · have e : Kxd7.step (some ⟨h, t⟩) (.twoStage x0 x1 x2) = (some ⟨h, t⟩, .value (-22)) := if_pos hc
      rw [e] at k
      rw [decide_eq_false (show ¬ AreStages (h : Int) (x0 : Int) (x1 : Int) (x2 : Int) by unfold AreStages; omega)]
      exact iteT ⟨(by show 1 ≤ sizeLine; decide), fun p hp => k _ p (aft_lit S hp) hp upd_same⟩
    · have e : Kxd7.step (some ⟨h, t⟩) (.twoStage x0 x1 x2) = Kxd7.put (Kxd7.fromRule h (Kxd7.twoStageRule x0 x1 h x2)) := if_neg hc
      rw [e] at k
      rw [decide_eq_true (show AreStages (h : Int) (x0 : Int) (x1 : Int) (x2 : Int) by unfold AreStages; omega)]
      refine iteF ⟨_, rfl, I, dx, _, rfl, hI, rF_no _ (by decide +kernel), _, rfl, _, rfl, _, rfl, _, rfl, h, x0, x1, x2, rfl, pl.good.h20, by omega, hT, fun H1 a1 rs1 k1 N => ?_⟩
      have g := table_good pl.good.h1 pl.good.h20 (twoStage_le x0 x1 h x2) (twoStage_fin x0 x1 h x2)
      rw [twoStage_table] at N g
      exact put_out S k1 N g hI k
theorem c_answer_curtail {T : List NTab} {C : Addr} (Ti : ICls K C) (F : DefB K mg "answer_curtail" s_answer_curtail ["instance", "numbers"]) (c2 : Cal0 P w K mg base 2 "curtailed_rows" sp_curtailed_rows)
    (m2 : C8.Met P w K mg base 5 C "replace_plan" (sp_replace_plan C) []) : Cal0 P w K mg base 6 "answer_curtail" (sp_op K T C 0 false fun _ => .curtail) := by
  obtain ⟨fa, fd, F, b⟩ := F.ex
  refine C8.cal0 F b .nil (C8.fnScope_by (N := ["instance", "numbers"]) (by decide +kernel)) (fun vs H Q E h => ?_) (fun cdv A outer s H vs Q E hr h => ?_)
  · obtain ⟨_, _, _, _, _, rfl, _⟩ := h
    rfl
  · obtain ⟨I, nb, X, s, args, rfl, S, hn, hl, hz, hT, hs, k⟩ := h
    replace k : Out T C I H X Q (Kxd7.step s .curtail) := k
    obtain ⟨h, t, a, rs, rfl, pl⟩ := S.plan (hs rfl)
    obtain ⟨dx, hI⟩ := id pl.ins
    refine ⟨_, pss_one (ps_ret (C8.pe_mt m2 hr (by decide) (pv 0) (pa_cons (C8.pe_c c2 hr (by decide) rfl (pa_cons (pe_fld (pv 0) rfl) pa_nil)) pa_nil))), ?_⟩
    have e : Kxd7.step (some ⟨h, t⟩) .curtail = Kxd7.put (planT h (curT t)) := by
      show Kxd7.put (Kxd7.curtailed ⟨h, t⟩) = _
      have e2 : Kxd7.curtailed ⟨h, t⟩ = planT h (curT t) := by
        rw [← KxE.curtailed_eq pl.good.len pl.good.tri]
        rfl
      rw [e2]
    rw [e] at k
    refine ⟨_, rfl, I, dx, _, rfl, hI, rF_no _ (by decide +kernel), _, rfl, I, C, dx, _, _, rfl, hI, Ti.cl, Ti.rows, rF_get _, a, rs, t, h, rfl, pl.rows, pl.good.len, pl.good.h20, pl.good.tri, fun H1 q rs' s1 N => ?_⟩
    exact put_out S (Kp.of s1) N (curT_good pl.good) hI k
theorem c_answer_likelihood {T : List NTab} {C : Addr} (gl : Glb mg) (Ti : ICls K C) (F : DefB K mg "answer_likelihood" s_answer_likelihood ["instance", "numbers"]) (c1 : Cal0 P w K mg base 3 "are_two_probabilities" sp_are_two_probabilities) (c2 : Cal0 P w K mg base 4 "are_two_bounds" sp_are_two_bounds)
    (c3 : Cal0 P w K mg base 4 "likelihood_rows" (sp_likelihood_rows K T)) (m1 : C8.Met P w K mg base 1 C "horizon" (sp_horizon C) []) (m2 : C8.Met P w K mg base 5 C "replace_plan" (sp_replace_plan C) []) :
    Cal0 P w K mg base 6 "answer_likelihood" (sp_op K T C 7 false fun l => .likelihood (arg l 0) (arg l 1) (arg l 2) (arg l 3) (arg l 4) (arg l 5) (arg l 6)) := by
  obtain ⟨fa, fd, F, b⟩ := F.ex
  refine C8.cal0 F b .nil (C8.fnScope_by (N := ["instance", "numbers", "p0", "p1", "divisor", "low", "low_divisor", "high", "high_divisor", "chances", "bounds"]) (by decide +kernel)) (fun vs H Q E h => ?_) (fun cdv A outer s H vs Q E hr h => ?_)
  · obtain ⟨_, _, _, _, _, rfl, _⟩ := h
    rfl
  · obtain ⟨I, nb, X, s, args, rfl, S, hn, hl, hz, hT, hs, k⟩ := h
    obtain ⟨p0, p1, d, l, ld, hi, hd, rfl⟩ : ∃ x0 x1 x2 x3 x4 x5 x6, args = [x0, x1, x2, x3, x4, x5, x6] := match args, hl with | [x0, x1, x2, x3, x4, x5, x6], _ => ⟨x0, x1, x2, x3, x4, x5, x6, rfl⟩
    replace k : Out T C I H X Q (Kxd7.step s (.likelihood p0 p1 d l ld hi hd)) := k
    obtain ⟨h, t, a, rs, rfl, pl⟩ := S.plan (hs rfl)
    obtain ⟨dx, hI⟩ := id pl.ins
    have nd : (["instance", "numbers", "p0", "p1", "divisor", "low", "low_divisor", "high", "high_divisor", "chances", "bounds"] : List Str).Nodup := by decide +kernel
    refine ⟨_, pss_cons (ps_asg (pv 1) (pg_lst rfl (pgs_cons (pg_name (i := 2) nd rfl (.inl rfl)) (pgs_cons (pg_name (i := 3) nd rfl (.inl rfl)) (pgs_cons (pg_name (i := 4) nd rfl (.inl rfl)) (pgs_cons (pg_name (i := 5) nd rfl (.inl rfl)) (pgs_cons (pg_name (i := 6) nd rfl (.inl rfl)) (pgs_cons (pg_name (i := 7) nd rfl (.inl rfl)) (pgs_cons (pg_name (i := 8) nd rfl (.inl rfl)) pgs_nil)))))))))
      (pss_cons (ps_if (pt_not (pt_val (C8.pe_c c1 hr (by decide) rfl (pa_cons (pv 2) (pa_cons (pv 3) (pa_cons (pv 4) pa_nil)))))) (pss_one (ps_ret (pe_lst (pa_cons (C8.pe_gc rfl gl.OUTSIDE_RANGE) pa_nil)))) pss_nil)
      (pss_cons (ps_if (pt_not (pt_val (C8.pe_c c2 hr (by decide) rfl (pa_cons (pv 5) (pa_cons (pv 6) (pa_cons (pv 7) (pa_cons (pv 8) pa_nil))))))) (pss_one (ps_ret (pe_lst (pa_cons (C8.pe_gc rfl gl.OUTSIDE_RANGE) pa_nil)))) pss_nil)
      (pss_cons (ps_set (i := 9) nd rfl (.inl rfl) (pe_tup (pa_cons (pv 2) (pa_cons (pv 3) (pa_cons (pv 4) pa_nil)))))
      (pss_cons (ps_set (i := 10) nd rfl (.inl rfl) (pe_tup (pa_cons (pv 5) (pa_cons (pv 6) (pa_cons (pv 7) (pa_cons (pv 8) pa_nil))))))
      (pss_one (ps_ret (C8.pe_mt m2 hr (by decide) (pv 0) (pa_cons (C8.pe_c c3 hr (by decide) rfl (pa_cons (C8.pe_mt0 m1 hr (by decide) (pv 0)) (pa_cons (pv 9) (pa_cons (pv 10) pa_nil)))) pa_nil)))))))), ?_⟩
    refine ⟨_, rfl, nb, _, rfl, hn, rfl, _, _, rfl, _, _, rfl, _, _, rfl, _, _, rfl, _, _, rfl, _, _, rfl, _, _, rfl, rfl, ?_⟩
    have spec : Kxd7.step (some ⟨h, t⟩) (.likelihood p0 p1 d l ld hi hd) = if Kxd7.arePair p0 p1 d = false ∨ ld = 0 ∨ 1000 < ld ∨ hd = 0 ∨ 1000 < hd ∨ 1000000 < l ∨ 1000000 < hi ∨ Kxd7.isLess (Kxd7.share l ld) (Kxd7.share hi hd) = false then (some ⟨h, t⟩, .value (-22)) else Kxd7.put (Kxd7.fromRule h (Kxd7.likelihoodRule (Kxd7.share p0 d) (Kxd7.share p1 d) (Kxd7.share l ld) (Kxd7.share hi hd))) := rfl
    refine ⟨_, rfl, _, rfl, _, rfl, _, _, _, rfl, _, rfl, ?_⟩
    have pairE : Kxd7.arePair p0 p1 d = true ↔ ArePair (p0 : Int) (p1 : Int) (d : Int) := by
      unfold Kxd7.arePair Kxd7.isStrict Kxd7.isProbability ArePair
      simp only [Bool.and_eq_true, decide_eq_true_eq]
      omega
    by_cases hp : ArePair (p0 : Int) (p1 : Int) (d : Int)
    · rw [decide_eq_true hp]
      refine iteF ⟨_, rfl, _, rfl, _, rfl, _, rfl, _, _, _, _, rfl, _, rfl, ?_⟩
      have bE : ¬ (ld = 0 ∨ 1000 < ld ∨ hd = 0 ∨ 1000 < hd ∨ 1000000 < l ∨ 1000000 < hi ∨ Kxd7.isLess (Kxd7.share l ld) (Kxd7.share hi hd) = false) ↔ AreBounds (l : Int) (ld : Int) (hi : Int) (hd : Int) := by
        unfold AreBounds IsBound
        by_cases q : 1 ≤ ld ∧ 1 ≤ hd
        · have e : Kxd7.isLess (Kxd7.share l ld) (Kxd7.share hi hd) = decide (l * hd < hi * ld) := by
            rw [KxA.share_eq, KxA.share_eq, KxA.isLess_eq]
            refine decide_eq_decide.mpr ?_
            rw [KxC.div_lt (KxC.natpos (by omega)) (KxC.natpos (by omega)), ← Rat.natCast_mul, ← Rat.natCast_mul, Rat.natCast_lt_natCast]
          have e2 : ((l : Int) * (hd : Int) < (hi : Int) * (ld : Int)) ↔ l * hd < hi * ld := by rw [← Int.natCast_mul, ← Int.natCast_mul, Int.ofNat_lt]
          rw [e, e2, decide_eq_false_iff_not]
          omega
        · omega
      by_cases hb : AreBounds (l : Int) (ld : Int) (hi : Int) (hd : Int)
      · rw [decide_eq_true hb]
        have hn1 : ¬ (Kxd7.arePair p0 p1 d = false ∨ ld = 0 ∨ 1000 < ld ∨ hd = 0 ∨ 1000 < hd ∨ 1000000 < l ∨ 1000000 < hi ∨ Kxd7.isLess (Kxd7.share l ld) (Kxd7.share hi hd) = false) := fun z => z.elim (fun z => by rw [pairE.mpr hp] at z; cases z) (bE.mpr hb)
        rw [spec, if_neg hn1] at k
        refine iteF ⟨_, rfl, _, rfl, _, rfl, (by show 3 ≤ sizeLine; decide), fun ca hca => ?_⟩
        refine ⟨_, rfl, _, rfl, _, rfl, _, rfl, (by show 4 ≤ sizeLine; decide), fun ba hba => ?_⟩
        have s2 := (same_upd (o := .tup [V.int p0, V.int p1, V.int d]) hca).trans (same_upd (o := .tup [V.int l, V.int ld, V.int hi, V.int hd]) hba)
        have pl2 := pl.same s2
        have S2 := S.same s2
        refine ⟨_, rfl, I, dx, _, rfl, s2 _ _ hI, rF_no _ (by decide +kernel), _, rfl, I, dx, _, rfl, s2 _ _ hI, rF_no _ (by decide +kernel), I, h, t, a, rs, rfl, pl2, _, rfl, _, rfl, ?_⟩
        refine ⟨p0, p1, d, l, ld, hi, hd, h, ca, ba, rfl, same_sqT (same_upd hba) (SqT.of upd_same), SqT.of upd_same, ⟨by have := hp.2; omega, by have := hp.2; omega, by have := hp.1; omega, hb.1, hb.2.1⟩, pl.good.h20, (Kp.of s2).tab hT, fun H1 a1 rs1 k1 N => ?_⟩
        have h1 := pl.good.h1
        have g := table_good (h := h) (g := likeInt p0 p1 d l ld hi hd h) pl.good.h1 pl.good.h20 (likeInt_le _ _ _ _ _ _ _ h) (likeInt_fin _ _ _ _ _ _ _ pl.good.h1)
        have hb1 := hb.1.1
        have hb2 := hb.2.1.1
        have hp2 := hp.2
        rw [like_table (by omega) (by omega) (by omega) (by omega) (by omega) (by omega)] at N g
        refine put_out S ((Kp.of s2).trans k1) ⟨N.at_, s2.free N.fresh, fun r hr => s2.free (N.free r hr)⟩ g hI k
      · rw [decide_eq_false hb]
        have hn1 : Kxd7.arePair p0 p1 d = false ∨ ld = 0 ∨ 1000 < ld ∨ hd = 0 ∨ 1000 < hd ∨ 1000000 < l ∨ 1000000 < hi ∨ Kxd7.isLess (Kxd7.share l ld) (Kxd7.share hi hd) = false := .inr (Classical.byContradiction fun z => hb (bE.mp z))
        rw [spec, if_pos hn1] at k
        exact iteT ⟨(by show 1 ≤ sizeLine; decide), fun p hp => k _ p (aft_lit S hp) hp upd_same⟩
    · rw [decide_eq_false hp]
      have hn1 : Kxd7.arePair p0 p1 d = false ∨ ld = 0 ∨ 1000 < ld ∨ hd = 0 ∨ 1000 < hd ∨ 1000000 < l ∨ 1000000 < hi ∨ Kxd7.isLess (Kxd7.share l ld) (Kxd7.share hi hd) = false := .inl (by
        cases e : Kxd7.arePair p0 p1 d with
        | true => exact absurd (pairE.mp e) hp
        | false => rfl)
      rw [spec, if_pos hn1] at k
      exact iteT ⟨(by show 1 ≤ sizeLine; decide), fun p hp => k _ p (aft_lit S hp) hp upd_same⟩
end
end St
set_option Elab.async false
set_option linter.all false
set_option maxRecDepth 100000
set_option maxHeartbeats 2000000
/-! W19: a problem is made, looked at, and its optimal plan is taken. -/
namespace St
open PySem PySem.Spec PyProof.Rows L2 NdefX LamX KxF
theorem putF_end {f : Str} {v : V} : ∀ {fs : List (Str × V)}, (∀ g ∈ fs.map (·.1), g ≠ f) → putF f v fs = fs ++ [(f, v)]
  | [], _ => rfl
  | (g, x) :: r, h => by
    show (if g = f then (g, v) :: r else (g, x) :: putF f v r) = _
    rw [if_neg (h g (.head _)), putF_end (fun y hy => h y (.tail _ hy))]
    rfl
theorem putF_new {f : Str} {v : V} {fs : List (Str × V)} {ks : List Str} (h : fs.map (·.1) = ks) (n : ks.all (fun g => !decide (g = f)) = true) : putF f v fs = fs ++ [(f, v)] := putF_end fun g hg => by
  rw [h] at hg
  have := List.all_eq_true.mp n g hg
  intro e
  rw [decide_eq_true e] at this
  cases this
section
variable {P : Program} {w : World} {K : PySem.W.Frag} {mg : Str → Option Value} {base : Heap}
def numsOf (b : PB) : List Nat := [b.p0, b.p1, b.d, b.pr, b.pd, b.c, b.l0, b.l1]
def sp_Problem (K : PySem.W.Frag) (C : Addr) : Sp := fun vs H Q _ => ∃ (x nb dx : Addr) (b : PB), vs = [.ref x, .ref nb] ∧ H x = some (.ins C dx []) ∧ SqL K H nb (nats (numsOf b)) ∧ Q .non (upd H x (.ins C dx (pF b)))
/-- the class's __init__, found -/
structure IniB (K : PySem.W.Frag) (mg : Str → Option Value) (C : Addr) (x qual : Str) (st : Stmt) (ps : List Str) : Prop where
  ex : ∃ (f : Addr) (fd : FuncData), Mk K C f ∧ mg x = some (.ref C) ∧ C8.Fun K "__init__" qual st f fd ∧ Binds K fd ps []
theorem k_Problem {C : Addr} (T : PCls K C) (F : IniB K mg C "Problem" "Problem.__init__" s_Problem___init__ ["self", "numbers"]) : C8.Mak P w K mg base 1 "Problem" C (sp_Problem K C) [] := by
  obtain ⟨f, fd, M, hm, F, b⟩ := F.ex
  refine C8.mak0 M hm F b .nil (C8.fnScope_by (N := ["self", "numbers", "p0", "p1", "divisor", "prior", "prior_divisor", "cost", "loss0", "loss1"]) (by decide +kernel)) (fun vs H Q E h => ?_) (fun cdv A outer s H vs Q E hr h => ?_)
  · obtain ⟨_, _, _, _, rfl, _⟩ := h
    rfl
  · obtain ⟨x, nb, dx, b, rfl, hx, hn, k⟩ := h
    have nd : (["self", "numbers", "p0", "p1", "divisor", "prior", "prior_divisor", "cost", "loss0", "loss1"] : List Str).Nodup := by decide +kernel
    refine ⟨_, pss_cons (ps_asg (pv 1) (pg_lst rfl (pgs_cons (pg_name (i := 2) nd rfl (.inl rfl)) (pgs_cons (pg_name (i := 3) nd rfl (.inl rfl)) (pgs_cons (pg_name (i := 4) nd rfl (.inl rfl)) (pgs_cons (pg_name (i := 5) nd rfl (.inl rfl)) (pgs_cons (pg_name (i := 6) nd rfl (.inl rfl)) (pgs_cons (pg_name (i := 7) nd rfl (.inl rfl)) (pgs_cons (pg_name (i := 8) nd rfl (.inl rfl)) (pgs_cons (pg_name (i := 9) nd rfl (.inl rfl)) pgs_nil))))))))))
      (pss_cons (ps_fld (pv 0) (pv 2) rfl) (pss_cons (ps_fld (pv 0) (pv 3) rfl) (pss_cons (ps_fld (pv 0) (pv 4) rfl) (pss_cons (ps_fld (pv 0) (pv 5) rfl) (pss_cons (ps_fld (pv 0) (pv 6) rfl) (pss_cons (ps_fld (pv 0) (pv 7) rfl) (pss_cons (ps_fld (pv 0) (pv 8) rfl) (pss_one (ps_fld (pv 0) (pv 9) rfl))))))))), ?_⟩
    refine ⟨_, rfl, nb, _, rfl, hn, rfl, _, _, rfl, _, _, rfl, _, _, rfl, _, _, rfl, _, _, rfl, _, _, rfl, _, _, rfl, _, _, rfl, rfl, ?_⟩
    refine ⟨_, rfl, _, rfl, x, C, dx, _, rfl, hx, T.cl, T.p0, by decide, ?_⟩
    rw [putF_new (ks := []) rfl rfl]
    refine ⟨_, rfl, _, rfl, x, C, dx, _, rfl, upd_same, T.cl, T.p1, (by show 1 < 1000; decide), ?_⟩
    rw [putF_new (ks := ["p0"]) rfl (by decide +kernel), upd_upd]
    refine ⟨_, rfl, _, rfl, x, C, dx, _, rfl, upd_same, T.cl, T.d, (by show 2 < 1000; decide), ?_⟩
    rw [putF_new (ks := ["p0", "p1"]) rfl (by decide +kernel), upd_upd]
    refine ⟨_, rfl, _, rfl, x, C, dx, _, rfl, upd_same, T.cl, T.pr, (by show 3 < 1000; decide), ?_⟩
    rw [putF_new (ks := ["p0", "p1", "divisor"]) rfl (by decide +kernel), upd_upd]
    refine ⟨_, rfl, _, rfl, x, C, dx, _, rfl, upd_same, T.cl, T.pd, (by show 4 < 1000; decide), ?_⟩
    rw [putF_new (ks := ["p0", "p1", "divisor", "prior"]) rfl (by decide +kernel), upd_upd]
    refine ⟨_, rfl, _, rfl, x, C, dx, _, rfl, upd_same, T.cl, T.c, (by show 5 < 1000; decide), ?_⟩
    rw [putF_new (ks := ["p0", "p1", "divisor", "prior", "prior_divisor"]) rfl (by decide +kernel), upd_upd]
    refine ⟨_, rfl, _, rfl, x, C, dx, _, rfl, upd_same, T.cl, T.l0, (by show 6 < 1000; decide), ?_⟩
    rw [putF_new (ks := ["p0", "p1", "divisor", "prior", "prior_divisor", "cost"]) rfl (by decide +kernel), upd_upd]
    refine ⟨_, rfl, _, rfl, x, C, dx, _, rfl, upd_same, T.cl, T.l1, (by show 7 < 1000; decide), ?_⟩
    rw [putF_new (ks := ["p0", "p1", "divisor", "prior", "prior_divisor", "cost", "loss0"]) rfl (by decide +kernel), upd_upd]
    exact k
/-- the ranges, as the program looks at them -/
abbrev IsPB (b : PB) : Prop := ArePair b.p0 b.p1 b.d ∧ IsProb b.pr b.pd ∧ (0 ≤ (b.c : Int) ∧ (b.c : Int) ≤ 1000) ∧ (0 ≤ (b.l0 : Int) ∧ (b.l0 : Int) ≤ 100000) ∧ 0 ≤ (b.l1 : Int) ∧ (b.l1 : Int) ≤ 100000
def sp_is_problem (C : Addr) : Sp := fun vs H Q _ => ∃ (pa : Addr) (b : PB), vs = [.ref pa] ∧ ProbAt C H pa b ∧ Q (.bl (decide (IsPB b))) H
theorem c_is_problem {C : Addr} (gl : Glb mg) (T : PCls K C) (F : DefB K mg "is_problem" s_is_problem ["problem"]) (c1 : Cal0 P w K mg base 1 "is_within" sp_is_within) (c2 : Cal0 P w K mg base 3 "is_probability" sp_is_probability) (c3 : Cal0 P w K mg base 3 "are_two_probabilities" sp_are_two_probabilities) :
    Cal0 P w K mg base 4 "is_problem" (sp_is_problem C) := by
  obtain ⟨f, fd, F, b⟩ := F.ex
  refine C8.cal0 F b .nil (C8.fnScope_by (N := ["problem"]) (by decide +kernel)) (fun vs H Q E h => ?_) (fun cdv A outer s H vs Q E hr h => ?_)
  · obtain ⟨_, _, rfl, _⟩ := h
    rfl
  · obtain ⟨pa, b, rfl, ⟨dx, hp⟩, k⟩ := h
    refine ⟨_, pss_cons (ps_if (pt_not (pt_val (C8.pe_c c3 hr (by decide) rfl (pa_cons (pe_fld (pv 0) rfl) (pa_cons (pe_fld (pv 0) rfl) (pa_cons (pe_fld (pv 0) rfl) pa_nil)))))) (pss_one (ps_ret pe_bl)) pss_nil)
      (pss_cons (ps_if (pt_not (pt_val (C8.pe_c c2 hr (by decide) rfl (pa_cons (pe_fld (pv 0) rfl) (pa_cons (pe_fld (pv 0) rfl) pa_nil))))) (pss_one (ps_ret pe_bl)) pss_nil)
      (pss_cons (ps_if (pt_not (pt_val (C8.pe_c c1 hr (by decide) rfl (pa_cons (pe_fld (pv 0) rfl) (pa_cons pe_int (pa_cons (C8.pe_gc rfl gl.MOST_COST) pa_nil)))))) (pss_one (ps_ret pe_bl)) pss_nil)
      (pss_one (ps_ret (pe_and (C8.pe_c c1 hr (by decide) rfl (pa_cons (pe_fld (pv 0) rfl) (pa_cons pe_int (pa_cons (C8.pe_gc rfl gl.MOST_LOSS) pa_nil)))) (pe_one (C8.pe_c c1 hr (by decide) rfl (pa_cons (pe_fld (pv 0) rfl) (pa_cons pe_int (pa_cons (C8.pe_gc rfl gl.MOST_LOSS) pa_nil)))))))))), ?_⟩
    refine ⟨_, rfl, pa, C, dx, _, _, rfl, hp, T.cl, T.p0, pF_p0 b, _, rfl, pa, C, dx, _, _, rfl, hp, T.cl, T.p1, pF_p1 b, _, rfl, pa, C, dx, _, _, rfl, hp, T.cl, T.d, pF_d b, _, _, _, rfl, _, rfl, ?_⟩
    by_cases h1 : ArePair b.p0 b.p1 b.d
    · rw [decide_eq_true h1]
      refine iteF ⟨_, rfl, pa, C, dx, _, _, rfl, hp, T.cl, T.pr, pF_pr b, _, rfl, pa, C, dx, _, _, rfl, hp, T.cl, T.pd, pF_pd b, _, _, rfl, _, rfl, ?_⟩
      by_cases h2 : IsProb b.pr b.pd
      · rw [decide_eq_true h2]
        refine iteF ⟨_, rfl, pa, C, dx, _, _, rfl, hp, T.cl, T.c, pF_c b, _, _, _, rfl, _, rfl, ?_⟩
        by_cases h3 : 0 ≤ (b.c : Int) ∧ (b.c : Int) ≤ 1000
        · rw [decide_eq_true h3]
          refine iteF ⟨_, rfl, pa, C, dx, _, _, rfl, hp, T.cl, T.l0, pF_l0 b, _, _, _, rfl, _, rfl, ?_⟩
          have e : decide (IsPB b) = decide ((0 ≤ (b.l0 : Int) ∧ (b.l0 : Int) ≤ 100000) ∧ 0 ≤ (b.l1 : Int) ∧ (b.l1 : Int) ≤ 100000) := decide_eq_decide.mpr ⟨fun z => z.2.2.2, fun z => ⟨h1, h2, h3, z⟩⟩
          rw [e] at k
          exact and_bl (fun z => Q (.bl z) H) k fun k => ⟨_, rfl, pa, C, dx, _, _, rfl, hp, T.cl, T.l1, pF_l1 b, _, _, _, rfl, k⟩
        · rw [decide_eq_false h3]
          have e : decide (IsPB b) = false := decide_eq_false fun z => h3 z.2.2.1
          rw [e] at k
          exact iteT k
      · rw [decide_eq_false h2]
        have e : decide (IsPB b) = false := decide_eq_false fun z => h2 z.2.1
        rw [e] at k
        exact iteT k
    · rw [decide_eq_false h1]
      have e : decide (IsPB b) = false := decide_eq_false fun z => h1 z.1
      rw [e] at k
      exact iteT k
theorem isPB_ok {b : PB} (h : IsPB b) : PBOk b := by
  obtain ⟨⟨h1, h2, h3, h4⟩, ⟨h5, h6, h7⟩, h8, h9, h10⟩ := h
  exact ⟨by omega, by omega, by omega, by omega, by omega, by omega, by omega, by omega, by omega, by omega⟩
theorem isPB_spec (b : PB) : Kxd7.isProblem b.p0 b.p1 b.d b.pr b.pd b.c b.l0 b.l1 = decide (IsPB b) := by
  rw [Bool.eq_iff_iff, decide_eq_true_eq]
  unfold Kxd7.isProblem Kxd7.arePair Kxd7.isStrict Kxd7.isProbability IsPB ArePair IsProb
  simp only [Bool.and_eq_true, decide_eq_true_eq]
  omega
theorem c_answer_optimal {T : List NTab} {C CP : Addr} (gl : Glb mg) (Tp : PCls K CP) (F : DefB K mg "answer_optimal" s_answer_optimal ["instance", "numbers"]) (c0 : C8.Mak P w K mg base 1 "Problem" CP (sp_Problem K CP) []) (c1 : Cal0 P w K mg base 4 "is_problem" (sp_is_problem CP)) (c2 : Cal0 P w K mg base 4 "optimal_rows" (sp_optimal_rows CP))
    (m1 : C8.Met P w K mg base 1 C "horizon" (sp_horizon C) []) (m2 : C8.Met P w K mg base 5 C "replace_plan" (sp_replace_plan C) []) : Cal0 P w K mg base 6 "answer_optimal" (sp_op K T C 8 false fun l => .optimal (arg l 0) (arg l 1) (arg l 2) (arg l 3) (arg l 4) (arg l 5) (arg l 6) (arg l 7)) := by
  obtain ⟨fa, fd, F, b⟩ := F.ex
  refine C8.cal0 F b .nil (C8.fnScope_by (N := ["instance", "numbers", "problem"]) (by decide +kernel)) (fun vs H Q E h => ?_) (fun cdv A outer s H vs Q E hr h => ?_)
  · obtain ⟨_, _, _, _, _, rfl, _⟩ := h
    rfl
  · obtain ⟨I, nb, X, s, args, rfl, S, hn, hl, hz, hT, hs, k⟩ := h
    obtain ⟨b, rfl⟩ : ∃ b : PB, args = numsOf b := match args, hl with | [p0, p1, d, pr, pd, c, l0, l1], _ => ⟨⟨p0, p1, d, pr, pd, c, l0, l1⟩, rfl⟩
    replace k : Out T C I H X Q (Kxd7.step s (.optimal b.p0 b.p1 b.d b.pr b.pd b.c b.l0 b.l1)) := k
    obtain ⟨h, t, a, rs, rfl, pl⟩ := S.plan (hs rfl)
    obtain ⟨dx, hI⟩ := id pl.ins
    have nd : (["instance", "numbers", "problem"] : List Str).Nodup := by decide +kernel
    refine ⟨_, pss_cons (ps_set (i := 2) nd rfl (.inl rfl) (C8.pe_mk c0 hr (by decide) rfl (pa_cons (pv 1) pa_nil)))
      (pss_cons (ps_if (pt_not (pt_val (C8.pe_c c1 hr (by decide) rfl (pa_cons (pv 2) pa_nil)))) (pss_one (ps_ret (pe_lst (pa_cons (C8.pe_gc rfl gl.OUTSIDE_RANGE) pa_nil)))) pss_nil)
      (pss_one (ps_ret (C8.pe_mt m2 hr (by decide) (pv 0) (pa_cons (C8.pe_c c2 hr (by decide) rfl (pa_cons (C8.pe_mt0 m1 hr (by decide) (pv 0)) (pa_cons (pv 2) pa_nil))) pa_nil))))), ?_⟩
    refine ⟨_, rfl, fun x dp hx hd ne => ?_⟩
    have s1 : Same H (upd (upd H dp (.own x)) x (.ins CP dp [])) := (same_upd hd).trans (same_upd (by rw [upd_ne (Ne.symm ne)]; exact hx))
    refine ⟨x, nb, dp, b, rfl, upd_same, s1.seq hn, rfl, ?_⟩
    rw [upd_upd]
    have s2 : Same H (upd (upd H dp (.own x)) x (.ins CP dp (pF b))) := (same_upd hd).trans (same_upd (by rw [upd_ne (Ne.symm ne)]; exact hx))
    have hp : ProbAt CP (upd (upd H dp (.own x)) x (.ins CP dp (pF b))) x b := ⟨dp, upd_same⟩
    generalize upd (upd H dp (.own x)) x (.ins CP dp (pF b)) = H1 at *
    refine ⟨_, rfl, x, b, rfl, hp, _, rfl, ?_⟩
    have S2 := S.same s2
    by_cases hc : IsPB b
    · have e : Kxd7.step (some ⟨h, t⟩) (.optimal b.p0 b.p1 b.d b.pr b.pd b.c b.l0 b.l1) = Kxd7.put (planT h ((bestRows b h (h + 1)).map fun l => l.map (·.1))) := by
        show (if Kxd7.isProblem b.p0 b.p1 b.d b.pr b.pd b.c b.l0 b.l1 = false then _ else Kxd7.put (Kxd7.optimalPlan (KxD.prob b) h)) = _
        rw [isPB_spec, if_neg (by rw [decide_eq_true hc]; decide)]
        refine congrArg Kxd7.put ?_
        rw [← KxD.optimal_eq (isPB_ok hc) h]
        rfl
      rw [e] at k
      rw [decide_eq_true hc]
      have hI2 := s2 _ _ hI
      have pl2 := pl.same s2
      refine iteF ⟨_, rfl, I, dx, _, rfl, hI2, rF_no _ (by decide +kernel), _, rfl, I, dx, _, rfl, hI2, rF_no _ (by decide +kernel), I, h, t, a, rs, rfl, pl2, _, rfl, x, b, h, rfl, hp, isPB_ok hc, pl.good.h20, fun H3 q rs3 s3 N => ?_⟩
      have g := best_good (b := b) pl.good.h1 pl.good.h20
      exact put_out S (Kp.of (s2.trans s3)) ⟨N.at_, s2.free N.fresh, fun r hr => s2.free (N.free r hr)⟩ g hI k
    · have e : Kxd7.step (some ⟨h, t⟩) (.optimal b.p0 b.p1 b.d b.pr b.pd b.c b.l0 b.l1) = (some ⟨h, t⟩, .value (-22)) := by
        show (if Kxd7.isProblem b.p0 b.p1 b.d b.pr b.pd b.c b.l0 b.l1 = false then _ else Kxd7.put (Kxd7.optimalPlan (KxD.prob b) h)) = _
        rw [isPB_spec, if_pos (decide_eq_false hc)]
      rw [e] at k
      rw [decide_eq_false hc]
      exact iteT ⟨(by show 1 ≤ sizeLine; decide), fun p hp => k _ p ((Aft.same S s2).more (same_upd hp)) (s2.free hp) upd_same⟩
end
end St
set_option Elab.async false
set_option linter.all false
set_option maxRecDepth 100000
set_option maxHeartbeats 2000000
/-! W20: the calls that look at the plan or change one decision. -/
namespace St
open PySem PySem.Spec PyProof.Rows L2 NdefX LamX KxF
/-- one number of a row is changed -/
theorem RowsAt.put {H : Hp} {a r : Addr} {rs : List Addr} {t : List (List Nat)} {n : Nat} (R : RowsAt H a rs t) (hr : rs[n]? = some r) (d' : List Nat) : RowsAt (upd H r (.lst (nats d'))) a rs (t.set n d') := by
  have ra : r ≠ a := fun z => R.ne (by rw [← z]; exact List.mem_of_getElem? hr)
  refine ⟨(upd_ne (Ne.symm ra)).trans R.at_, by rw [List.length_set]; exact R.len, fun i c e => ?_, R.nd, R.ne⟩
  by_cases hi : i = n
  · subst hi
    have e2 : r = c := Option.some.inj (hr.symm.trans e)
    subst e2
    refine ⟨d', ?_, upd_same⟩
    rw [List.getElem?_set_self]
    rw [← R.len]
    exact (List.getElem?_eq_some_iff.mp hr).1
  · obtain ⟨d0, h1, h2⟩ := R.row i c e
    refine ⟨d0, ?_, ?_⟩
    · rw [List.getElem?_set_ne (Ne.symm hi)]
      exact h1
    · rw [upd_ne (fun z => hi ((List.getElem?_inj (List.getElem?_eq_some_iff.mp e).1 R.nd).mp (by rw [e, hr, z])))]
      exact h2
theorem good_set {h : Nat} {t : List (List Nat)} {n s d : Nat} {r : List Nat} (g : GoodT h t) (hr : t[n]? = some r) (hd : d ≤ 2) (h0 : n = h → d ≠ 0) : GoodT h (t.set n (r.set s d)) := by
  refine ⟨g.h1, g.h20, by rw [List.length_set]; exact g.len, fun i c e => ?_, fun c hc x hx => ?_, fun c hc x hx => ?_⟩
  · by_cases hi : i = n
    · subst hi
      rw [List.getElem?_set_self (List.getElem?_eq_some_iff.mp hr).1] at e
      rw [← Option.some.inj e, List.length_set]
      exact g.tri _ _ hr
    · rw [List.getElem?_set_ne (Ne.symm hi)] at e
      exact g.tri _ _ e
  · rcases List.mem_or_eq_of_mem_set hc with z | z
    · exact g.le2 c z x hx
    · rw [z] at hx
      rcases List.mem_or_eq_of_mem_set hx with y | y
      · exact g.le2 r (List.mem_of_getElem? hr) x y
      · rw [y]
        exact hd
  · by_cases hi : n = h
    · subst hi
      rw [List.getElem?_set_self (List.getElem?_eq_some_iff.mp hr).1] at hc
      rw [← Option.some.inj hc] at hx
      rcases List.mem_or_eq_of_mem_set hx with y | y
      · exact g.fin r hr x y
      · rw [y]
        exact h0 rfl
    · rw [List.getElem?_set_ne hi] at hc
      exact g.fin c hc x hx
/-- what is known of a point of the plan -/
theorem PlanAt.point {H : Hp} {C I : Addr} {h : Nat} {t : List (List Nat)} {a : Addr} {rs : List Addr} (p : PlanAt H C I h t a rs) {n s : Nat} (hn : n ≤ h) (hs : s ≤ n) :
    ∃ (r : Addr) (d : List Nat), t[n]? = some d ∧ rs[n]? = some r ∧ (rs.map V.ref)[n]? = some (V.ref r) ∧ H r = some (.lst (nats d)) ∧ d.length = n + 1 ∧ (nats d)[s]? = some (V.int (Kxd7.decision (planT h t) n s : Nat)) := by
  obtain ⟨d, hd⟩ : ∃ d, t[n]? = some d := ⟨_, List.getElem?_eq_getElem (by have := p.good.len; omega)⟩
  obtain ⟨r, h1, h2, h3⟩ := p.rows.get hd
  have hl := p.good.tri n d hd
  refine ⟨r, d, hd, h1, h2, h3, hl, nats_get ?_⟩
  have e : Kxd7.decision (planT h t) n s = d.getD s 1 := by
    show (t.getD n []).getD s 1 = _
    rw [List.getD_eq_getElem?_getD (l := t), hd]
    rfl
  rw [e, List.getD_eq_getElem?_getD, List.getElem?_eq_getElem (by omega)]
  rfl
theorem isPoint_eq (h : Nat) (t : List (List Nat)) (n s : Nat) : Kxd7.isPoint (planT h t) n s = decide (s ≤ n ∧ n ≤ h) := by
  rw [Bool.eq_iff_iff, decide_eq_true_eq]
  unfold Kxd7.isPoint
  simp only [Bool.and_eq_true, decide_eq_true_eq]
  omega
section
variable {P : Program} {w : World} {K : PySem.W.Frag} {mg : Str → Option Value} {base : Heap}
theorem c_answer_decision {T : List NTab} {C : Addr} (gl : Glb mg) (Ti : ICls K C) (F : DefB K mg "answer_decision" s_answer_decision ["instance", "numbers"]) (m1 : C8.Met P w K mg base 2 C "has_point" (sp_has_point C) []) : Cal0 P w K mg base 6 "answer_decision" (sp_op K T C 2 false fun l => .decision (arg l 0) (arg l 1)) := by
  obtain ⟨fa, fd, F, b⟩ := F.ex
  refine C8.cal0 F b .nil (C8.fnScope_by (N := ["instance", "numbers", "n", "s"]) (by decide +kernel)) (fun vs H Q E h => ?_) (fun cdv A outer s H vs Q E hr h => ?_)
  · obtain ⟨_, _, _, _, _, rfl, _⟩ := h
    rfl
  · obtain ⟨I, nb, X, s, args, rfl, S, hn, hl, hz, hT, hs, k⟩ := h
    obtain ⟨n, s', rfl⟩ : ∃ x0 x1, args = [x0, x1] := match args, hl with | [x0, x1], _ => ⟨x0, x1, rfl⟩
    replace k : Out T C I H X Q (Kxd7.step s (.decision n s')) := k
    obtain ⟨h, t, a, rs, rfl, pl⟩ := S.plan (hs rfl)
    obtain ⟨dx, hI⟩ := id pl.ins
    have nd : (["instance", "numbers", "n", "s"] : List Str).Nodup := by decide +kernel
    refine ⟨_, pss_cons (ps_asg (pv 1) (pg_lst rfl (pgs_cons (pg_name (i := 2) nd rfl (.inl rfl)) (pgs_cons (pg_name (i := 3) nd rfl (.inl rfl)) pgs_nil))))
      (pss_cons (ps_if (pt_not (pt_val (C8.pe_mt m1 hr (by decide) (pv 0) (pa_cons (pv 2) (pa_cons (pv 3) pa_nil))))) (pss_one (ps_ret (pe_lst (pa_cons (C8.pe_gc rfl gl.NO_POINT) pa_nil)))) pss_nil)
      (pss_one (ps_ret (pe_lst (pa_cons (pe_ix ix_list (pe_ix ix_list (pe_fld (pv 0) rfl) (pv 2) (fun _ _ => rfl)) (pv 3) (fun _ _ => rfl)) pa_nil))))), ?_⟩
    refine ⟨_, rfl, nb, _, rfl, hn, rfl, _, _, rfl, _, _, rfl, rfl, ?_⟩
    refine ⟨_, rfl, I, dx, _, rfl, hI, rF_no _ (by decide +kernel), _, rfl, _, rfl, I, h, t, a, rs, n, s', rfl, pl, _, rfl, ?_⟩
    have st : Kxd7.step (some ⟨h, t⟩) (.decision n s') = (some ⟨h, t⟩, if Kxd7.isPoint (planT h t) n s' = false then .value (-2) else .value (Kxd7.decision (planT h t) n s' : Nat)) := rfl
    rw [st, isPoint_eq] at k
    by_cases hc : s' ≤ n ∧ n ≤ h
    · rw [decide_eq_true hc] at k ⊢
      obtain ⟨r, d, h1, h2, h3, h4, h5, h6⟩ := pl.point hc.2 hc.1
      refine iteF ⟨_, rfl, I, C, dx, _, _, rfl, hI, Ti.cl, Ti.rows, rF_get _, _, rfl, a, _, _, _, rfl, rfl, SqL.of pl.rows.at_, at_of rfl h3, _, rfl, r, _, _, _, rfl, rfl, SqL.of h4, at_of rfl h6, (by show 1 ≤ sizeLine; decide), fun p hp => ?_⟩
      exact k _ p (aft_lit S hp) hp upd_same
    · rw [decide_eq_false hc] at k ⊢
      exact iteT ⟨(by show 1 ≤ sizeLine; decide), fun p hp => k _ p (aft_lit S hp) hp upd_same⟩
theorem c_answer_paths {T : List NTab} {C : Addr} (gl : Glb mg) (Ti : ICls K C) (F : DefB K mg "answer_paths" s_answer_paths ["instance", "numbers"]) (m1 : C8.Met P w K mg base 2 C "has_point" (sp_has_point C) []) (c1 : Cal0 P w K mg base 3 "path_counts" sp_path_counts) : Cal0 P w K mg base 6 "answer_paths" (sp_op K T C 2 false fun l => .paths (arg l 0) (arg l 1)) := by
  obtain ⟨fa, fd, F, b⟩ := F.ex
  refine C8.cal0 F b .nil (C8.fnScope_by (N := ["instance", "numbers", "n", "s"]) (by decide +kernel)) (fun vs H Q E h => ?_) (fun cdv A outer s H vs Q E hr h => ?_)
  · obtain ⟨_, _, _, _, _, rfl, _⟩ := h
    rfl
  · obtain ⟨I, nb, X, s, args, rfl, S, hn, hl, hz, hT, hs, k⟩ := h
    obtain ⟨n, s', rfl⟩ : ∃ x0 x1, args = [x0, x1] := match args, hl with | [x0, x1], _ => ⟨x0, x1, rfl⟩
    replace k : Out T C I H X Q (Kxd7.step s (.paths n s')) := k
    obtain ⟨h, t, a, rs, rfl, pl⟩ := S.plan (hs rfl)
    obtain ⟨dx, hI⟩ := id pl.ins
    have nd : (["instance", "numbers", "n", "s"] : List Str).Nodup := by decide +kernel
    refine ⟨_, pss_cons (ps_asg (pv 1) (pg_lst rfl (pgs_cons (pg_name (i := 2) nd rfl (.inl rfl)) (pgs_cons (pg_name (i := 3) nd rfl (.inl rfl)) pgs_nil))))
      (pss_cons (ps_if (pt_not (pt_val (C8.pe_mt m1 hr (by decide) (pv 0) (pa_cons (pv 2) (pa_cons (pv 3) pa_nil))))) (pss_one (ps_ret (pe_lst (pa_cons (C8.pe_gc rfl gl.NO_POINT) pa_nil)))) pss_nil)
      (pss_one (ps_ret (pe_lst (pa_cons (pe_ix ix_list (pe_ix ix_list (C8.pe_c c1 hr (by decide) rfl (pa_cons (pe_fld (pv 0) rfl) pa_nil)) (pv 2) (fun _ _ => rfl)) (pv 3) (fun _ _ => rfl)) pa_nil))))), ?_⟩
    refine ⟨_, rfl, nb, _, rfl, hn, rfl, _, _, rfl, _, _, rfl, rfl, ?_⟩
    refine ⟨_, rfl, I, dx, _, rfl, hI, rF_no _ (by decide +kernel), _, rfl, _, rfl, I, h, t, a, rs, n, s', rfl, pl, _, rfl, ?_⟩
    have st : Kxd7.step (some ⟨h, t⟩) (.paths n s') = (some ⟨h, t⟩, if Kxd7.isPoint (planT h t) n s' = false then .value (-2) else .value (Kxd7.paths (planT h t) n s' : Nat)) := rfl
    rw [st, isPoint_eq] at k
    by_cases hc : s' ≤ n ∧ n ≤ h
    · rw [decide_eq_true hc] at k ⊢
      refine iteF ⟨_, rfl, I, C, dx, _, _, rfl, hI, Ti.cl, Ti.rows, rF_get _, a, rs, t, h, rfl, pl.rows, pl.good.len, pl.good.h20, pl.good.tri, fun H1 q rs1 s1 N => ?_⟩
      have e1 : (rowsOf h t (h + 1))[n]? = some (Kxd7.pathRow (planT h t) n) := by
        unfold rowsOf
        rw [List.getElem?_map, List.getElem?_range (by omega)]
        rfl
      obtain ⟨r, _, h3, h4⟩ := N.at_.get e1
      have h6 : (nats (Kxd7.pathRow (planT h t) n))[s']? = some (V.int (Kxd7.paths (planT h t) n s' : Nat)) := nats_get (getD_get (by rw [pathRow_len]; omega))
      refine ⟨_, rfl, q, _, _, _, rfl, rfl, SqL.of N.at_.at_, at_of rfl h3, _, rfl, r, _, _, _, rfl, rfl, SqL.of h4, at_of rfl h6, (by show 1 ≤ sizeLine; decide), fun p hp => ?_⟩
      exact k _ p (Aft.same S (s1.trans (same_upd hp))) (s1.free hp) upd_same
    · rw [decide_eq_false hc] at k ⊢
      exact iteT ⟨(by show 1 ≤ sizeLine; decide), fun p hp => k _ p (aft_lit S hp) hp upd_same⟩
theorem c_answer_set_decision {T : List NTab} {C : Addr} (gl : Glb mg) (Ti : ICls K C) (F : DefB K mg "answer_set_decision" s_answer_set_decision ["instance", "numbers"]) (m0 : C8.Met P w K mg base 1 C "horizon" (sp_horizon C) []) (m1 : C8.Met P w K mg base 2 C "has_point" (sp_has_point C) []) (c1 : Cal0 P w K mg base 1 "is_within" sp_is_within) :
    Cal0 P w K mg base 6 "answer_set_decision" (sp_op K T C 3 false fun l => .setDecision (arg l 0) (arg l 1) (arg l 2)) := by
  obtain ⟨fa, fd, F, b⟩ := F.ex
  refine C8.cal0 F b .nil (C8.fnScope_by (N := ["instance", "numbers", "n", "s", "decision", "least", "row", "previous"]) (by decide +kernel)) (fun vs H Q E h => ?_) (fun cdv A outer s H vs Q E hr h => ?_)
  · obtain ⟨_, _, _, _, _, rfl, _⟩ := h
    rfl
  · obtain ⟨I, nb, X, s, args, rfl, S, hn, hl, hz, hT, hs, k⟩ := h
    obtain ⟨n, s', dn, rfl⟩ : ∃ x0 x1 x2, args = [x0, x1, x2] := match args, hl with | [x0, x1, x2], _ => ⟨x0, x1, x2, rfl⟩
    replace k : Out T C I H X Q (Kxd7.step s (.setDecision n s' dn)) := k
    cases S with
    | none dx hI => exact absurd rfl (hs rfl)
    | @some h t a rs pl =>
    obtain ⟨dx, hI⟩ := id pl.ins
    have nd : (["instance", "numbers", "n", "s", "decision", "least", "row", "previous"] : List Str).Nodup := by decide +kernel
    refine ⟨_, pss_cons (ps_asg (pv 1) (pg_lst rfl (pgs_cons (pg_name (i := 2) nd rfl (.inl rfl)) (pgs_cons (pg_name (i := 3) nd rfl (.inl rfl)) (pgs_cons (pg_name (i := 4) nd rfl (.inl rfl)) pgs_nil)))))
      (pss_cons (ps_if (pt_not (pt_val (C8.pe_mt m1 hr (by decide) (pv 0) (pa_cons (pv 2) (pa_cons (pv 3) pa_nil))))) (pss_one (ps_ret (pe_lst (pa_cons (C8.pe_gc rfl gl.NO_POINT) pa_nil)))) pss_nil)
      (C8.pss_cut (ps_set (i := 5) nd rfl (.inl rfl) (pe_ifExp (pt_cmpR op_eq (pv 2) (C8.pe_mt0 m0 hr (by decide) (pv 0)) (nomark _)) (C8.pe_gc rfl gl.ACCEPT) (C8.pe_gc rfl gl.GO_ON)))
      (pss_cons (ps_if (pt_not (pt_val (C8.pe_c c1 hr (by decide) rfl (pa_cons (pv 4) (pa_cons (pv 5) (pa_cons (C8.pe_gc rfl gl.REJECT) pa_nil)))))) (pss_one (ps_ret (pe_lst (pa_cons (C8.pe_gc rfl gl.OUTSIDE_RANGE) pa_nil)))) pss_nil)
      (pss_cons (ps_set (i := 6) nd rfl (.inl rfl) (pe_ix ix_list (pe_fld (pv 0) rfl) (pv 2) (fun _ _ => rfl)))
      (pss_cons (ps_set (i := 7) nd rfl (.inl rfl) (pe_ix ix_list (pv 6) (pv 3) (fun _ _ => rfl)))
      (pss_cons (ps_asg (pv 4) (pg_sub (pv 6) (pv 3) set_list (fun _ => rfl)))
      (pss_one (ps_ret (pe_lst (pa_cons (pv 7) pa_nil)))))))))), ?_⟩
    refine ⟨_, rfl, nb, _, rfl, hn, rfl, _, _, rfl, _, _, rfl, _, _, rfl, rfl, ?_⟩
    refine ⟨_, rfl, I, dx, _, rfl, hI, rF_no _ (by decide +kernel), _, rfl, _, rfl, I, h, t, a, rs, n, s', rfl, pl, _, rfl, ?_⟩
    have st : Kxd7.step (some ⟨h, t⟩) (.setDecision n s' dn) = if Kxd7.isPoint (planT h t) n s' = false then (some ⟨h, t⟩, .value (-2)) else if 2 < dn ∨ (n = h ∧ dn = 0) then (some ⟨h, t⟩, .value (-22)) else (some ⟨h, t.set n ((t.getD n []).set s' dn)⟩, .value (Kxd7.decision (planT h t) n s' : Nat)) := rfl
    rw [st, isPoint_eq] at k
    have SS : StAt H C I (some ⟨h, t⟩) (fun b => b = I ∨ b = a ∨ b ∈ rs) := .some pl
    by_cases hc : s' ≤ n ∧ n ≤ h
    · rw [decide_eq_true hc] at k ⊢
      rw [if_neg (by decide)] at k
      obtain ⟨r, d, h1, h2, h3, h4, h5, h6⟩ := pl.point hc.2 hc.1
      refine iteF ⟨fun σ' H' => σ' = [some (.ref I), some (.ref nb), some (.int n), some (.int s'), some (.int dn), some (.int ((if n = h then 1 else 0 : Nat) : Int)), none, none] ∧ H' = H, ⟨_, rfl, _, rfl, I, dx, _, rfl, hI, rF_no _ (by decide +kernel), I, h, t, a, rs, rfl, pl, rfl, _, rfl, ?_⟩, ?_⟩
      · by_cases hh : n = h
        · rw [if_pos hh]
          have e : decide (V.int (n : Int) = V.int (h : Int)) = true := decide_eq_true (by rw [hh])
          show if decide (V.int (n : Int) = V.int (h : Int)) = true then _ else _
          rw [e]
          exact iteT ⟨rfl, rfl⟩
        · rw [if_neg hh]
          have e : decide (V.int (n : Int) = V.int (h : Int)) = false := decide_eq_false (fun z => hh (by injection z with z; omega))
          show if decide (V.int (n : Int) = V.int (h : Int)) = true then _ else _
          rw [e]
          exact iteF ⟨rfl, rfl⟩
      · rintro σ' H' ⟨rfl, rfl⟩
        refine ⟨_, rfl, _, rfl, _, _, _, rfl, _, rfl, ?_⟩
        generalize hle : (if n = h then 1 else 0 : Nat) = least
        by_cases hd : 2 < dn ∨ n = h ∧ dn = 0
        · rw [if_pos hd] at k
          have e : decide ((least : Int) ≤ (dn : Int) ∧ (dn : Int) ≤ 2) = false := decide_eq_false (by split at hle <;> omega)
          rw [e]
          exact iteT ⟨(by show 1 ≤ sizeLine; decide), fun p hp => k _ p (aft_lit SS hp) hp upd_same⟩
        · rw [if_neg hd] at k
          have e : decide ((least : Int) ≤ (dn : Int) ∧ (dn : Int) ≤ 2) = true := decide_eq_true (by split at hle <;> omega)
          rw [e]
          refine iteF ⟨_, rfl, I, C, dx, _, _, rfl, hI, Ti.cl, Ti.rows, rF_get _, _, rfl, a, _, _, _, rfl, rfl, SqL.of pl.rows.at_, at_of rfl h3, ?_⟩
          refine ⟨_, rfl, _, rfl, r, _, _, _, rfl, rfl, SqL.of h4, at_of rfl h6, ?_⟩
          refine ⟨_, rfl, _, rfl, _, rfl, r, _, _, _, rfl, rfl, h4, ixN_nat (by rw [nats_len]; omega), ?_⟩
          rw [nats_set]
          refine ⟨_, rfl, (by show 1 ≤ sizeLine; decide), fun p hp => ?_⟩
          have eg : t.getD n [] = d := by
            rw [List.getD_eq_getElem?_getD, h1]
            rfl
          rw [eg] at k
          have rI : r ≠ I := fun z => by
            rw [z, hI] at h4
            cases h4
          have pl2 : PlanAt (upd H' r (.lst (nats (d.set s' dn)))) C I h (t.set n (d.set s' dn)) a rs := ⟨⟨dx, by rw [upd_ne (Ne.symm rI)]; exact hI⟩, pl.rows.put h2 _, good_set pl.good h1 (by omega) (by omega)⟩
          have nt : ∀ ps, H' r ≠ some (.tbl ps) := fun ps e => by
            rw [h4] at e
            cases e
          have A1 : Aft T C I H' (upd H' r (.lst (nats (d.set s' dn)))) (fun b => b = I ∨ b = a ∨ b ∈ rs) (some ⟨h, t.set n (d.set s' dn)⟩) := by
            refine ⟨⟨_, .some pl2, fun b hb => .inl hb⟩, fun b o e nX _ => ?_, fun hT => ?_, fun b e => ?_⟩
            · rw [upd_ne (fun z => nX (.inr (.inr (by rw [z]; exact List.mem_of_getElem? h2))))]
              exact e
            · intro p hp
              obtain ⟨ps, g1, g2, g3⟩ := hT p hp
              refine ⟨ps, ?_, g2, fun pos cv hcv => ?_⟩
              · rw [upd_ne (fun z => nt ps (by rw [← z]; exact g1))]
                exact g1
              · obtain ⟨c, e1, e2⟩ := g3 pos cv hcv
                refine ⟨c, e1, ?_⟩
                rw [upd_ne (fun z => by rw [z, h4] at e2; unfold CodeO at e2; cases e2)]
                exact e2
            · by_cases z : b = r
              · rw [z, upd_same] at e
                cases e
              · rw [upd_ne z] at e
                exact e
          exact k _ p (A1.more (same_upd hp)) (A1.non p hp) upd_same
    · rw [decide_eq_false hc] at k ⊢
      exact iteT ⟨(by show 1 ≤ sizeLine; decide), fun p hp => k _ p (aft_lit SS hp) hp upd_same⟩
theorem stops_two {h : Nat} {t : List (List Nat)} (g : GoodT h t) : ((Kxd7.stops (planT h t)).countP fun z => Kxd7.decision (planT h t) z.1 z.2 == 1) + ((Kxd7.stops (planT h t)).countP fun z => Kxd7.decision (planT h t) z.1 z.2 == 2) = (Kxd7.stops (planT h t)).length := by
  have key : ∀ l : List (Nat × Nat), (∀ z ∈ l, Kxd7.decision (planT h t) z.1 z.2 = 1 ∨ Kxd7.decision (planT h t) z.1 z.2 = 2) → (l.countP fun z => Kxd7.decision (planT h t) z.1 z.2 == 1) + (l.countP fun z => Kxd7.decision (planT h t) z.1 z.2 == 2) = l.length := by
    intro l
    induction l with
    | nil => intro _; rfl
    | cons z l ih =>
      intro hz
      have i := ih fun y hy => hz y (.tail _ hy)
      rw [List.countP_cons, List.countP_cons, List.length_cons]
      rcases hz z (.head _) with e | e
      · rw [e]
        simp
        omega
      · rw [e]
        simp
        omega
  refine key _ fun z hz => ?_
  have hin := KxG.stops_in z hz
  have hne : Kxd7.decision (planT h t) z.1 z.2 ≠ 0 := by
    unfold Kxd7.stops at hz
    obtain ⟨n, hn, hz⟩ := List.mem_flatMap.mp hz
    simp only [List.mem_map, List.mem_filter, List.mem_range, Bool.and_eq_true, bne_iff_ne] at hz
    obtain ⟨s, ⟨_, hs, _⟩, e⟩ := hz
    rw [← e]
    exact hs
  have hle : Kxd7.decision (planT h t) z.1 z.2 ≤ 2 := by
    obtain ⟨d, hd⟩ : ∃ d, t[z.1]? = some d := ⟨_, List.getElem?_eq_getElem (by have := g.len; have h1 : z.1 ≤ h := hin.1; omega)⟩
    have hl := g.tri _ d hd
    have e : Kxd7.decision (planT h t) z.1 z.2 = d.getD z.2 1 := by
      show (t.getD z.1 []).getD z.2 1 = _
      rw [List.getD_eq_getElem?_getD (l := t), hd]
      rfl
    rw [e, List.getD_eq_getElem?_getD, List.getElem?_eq_getElem (by omega)]
    exact g.le2 d (List.mem_of_getElem? hd) _ (List.getElem_mem _)
  omega
theorem c_answer_stop_count {T : List NTab} {C : Addr} (gl : Glb mg) (Ti : ICls K C) (F : DefB K mg "answer_stop_count" s_answer_stop_count ["instance", "numbers"]) (c1 : Cal0 P w K mg base 4 "stops" sp_stops) : Cal0 P w K mg base 6 "answer_stop_count" (sp_op K T C 0 false fun _ => .stopCount) := by
  obtain ⟨fa, fd, F, b⟩ := F.ex
  refine C8.cal0 F b .nil (C8.fnScope_by (N := ["instance", "numbers", "found", "accepting", "stop"]) (by decide +kernel)) (fun vs H Q E h => ?_) (fun cdv A outer s H vs Q E hr h => ?_)
  · obtain ⟨_, _, _, _, _, rfl, _⟩ := h
    rfl
  · obtain ⟨I, nb, X, s, args, rfl, S, hn, hl, hz, hT, hs, k⟩ := h
    replace k : Out T C I H X Q (Kxd7.step s .stopCount) := k
    obtain ⟨h, t, a, rs, rfl, pl⟩ := S.plan (hs rfl)
    obtain ⟨dx, hI⟩ := id pl.ins
    have nd : (["instance", "numbers", "found", "accepting", "stop"] : List Str).Nodup := by decide +kernel
    refine ⟨_, pss_cons (ps_set (i := 2) nd rfl (.inl rfl) (C8.pe_c c1 hr (by decide) rfl (pa_cons (pe_fld (pv 0) rfl) pa_nil)))
      (pss_cons (ps_setLc (i := 3) (own := [("stop", 4)]) (g := gName 4) (by rfl) nd rfl rfl (sw_true rfl rfl rfl (by decide +kernel)) (pi_list (pv 2)) (blkOk_by (N := ["instance", "numbers", "found", "accepting", "stop"]) (sc := C8.fnScope s_answer_stop_count) (by decide +kernel))
        (fun _ _ _ _ _ => pg_name (i := 4) nd rfl (.inl rfl)) (fun _ _ _ _ _ => pts_one (pt_cmpR op_eq (pe_ix (ix_tupK (K := K) rfl) (pv 4) pe_int (fun _ _ => rfl)) (C8.pe_gc rfl gl.ACCEPT) (nomark _))) (fun _ _ _ _ _ => pv 4))
      (pss_one (ps_ret (pe_lst (pa_cons (pe_callB call_len_seq (by rfl) gl.len PySem.boot_len (pa_cons (pv 2) pa_nil)) (pa_cons (pe_callB call_len_seq (by rfl) gl.len PySem.boot_len (pa_cons (pv 3) pa_nil)) (pa_cons (pe_op op_sub (pe_callB call_len_seq (by rfl) gl.len PySem.boot_len (pa_cons (pv 2) pa_nil)) (pe_callB call_len_seq (by rfl) gl.len PySem.boot_len (pa_cons (pv 3) pa_nil))) pa_nil))))))), ?_⟩
    refine ⟨_, rfl, I, C, dx, _, _, rfl, hI, Ti.cl, Ti.rows, rF_get _, a, rs, t, h, rfl, pl.rows, pl.good.len, pl.good.h20, pl.good.tri, fun H1 q ts s1 hq Z => ?_⟩
    have hq0 := hq
    have hz0 := sizeLine_eq
    have lenS : (Kxd7.stops (planT h t)).length ≤ 1000 := by
      rw [stops_eq]
      have := stopsN_len (planT h t) (h + 1) (by have := pl.good.h20; omega)
      have := pl.good.h20
      show (stopsN (planT h t) (h + 1)).length ≤ 1000
      omega
    refine ⟨_, rfl, q, rfl, ⟨_, SqL.of Z.at_⟩, fun D hD => lc_list (K := K) (a := q) (xs := ts.map V.ref) (fun j H' => ∃ acc : List V, H' = upd H1 D (.lst acc) ∧ acc.length = ((Kxd7.stops (planT h t)).take j).countP fun z => Kxd7.decision (planT h t) z.1 z.2 == 1) ⟨[], rfl, rfl⟩ (fun j H' _ ⟨acc, e, _⟩ => ?_) ?_ ?_⟩
    · rw [e]
      exact SqL.of (same_upd hD _ _ Z.at_)
    · rintro j x H' hx ⟨acc, rfl, ha⟩
      obtain ⟨tp, ht, rfl⟩ : ∃ tp, ts[j]? = some tp ∧ x = V.ref tp := by
        rw [List.getElem?_map] at hx
        cases e : ts[j]? with
        | none => rw [e] at hx; cases hx
        | some tp => rw [e] at hx; exact ⟨tp, rfl, (Option.some.inj hx).symm⟩
      obtain ⟨z, hz1, hz2⟩ := Z.tup j tp ht
      have hacc : acc.length ≤ 1000 := by
        rw [ha]
        refine Nat.le_trans List.countP_le_length ?_
        rw [List.length_take]
        omega
      refine ⟨rfl, _, rfl, tp, _, _, _, rfl, rfl, SqT.of (same_upd hD _ _ hz2), at_of (j := 2) rfl rfl, rfl, ?_⟩
      by_cases hd : Kxd7.decision (planT h t) z.1 z.2 = 1
      · have e : decide (V.int (Kxd7.decision (planT h t) z.1 z.2 : Nat) = V.int 1) = true := decide_eq_true (by rw [hd]; rfl)
        refine ⟨_, rfl, ?_⟩
        rw [e]
        refine iteT ⟨_, rfl, acc, upd_same, by omega, acc ++ [V.ref tp], by rw [upd_upd], ?_⟩
        rw [take_snoc hz1, List.countP_append, List.length_append, ha]
        simp [hd]
      · have e : decide (V.int (Kxd7.decision (planT h t) z.1 z.2 : Nat) = V.int 1) = false := decide_eq_false (fun y => hd (by injection y with y; omega))
        refine ⟨_, rfl, ?_⟩
        rw [e]
        refine iteF ⟨acc, rfl, ?_⟩
        rw [take_snoc hz1, List.countP_append, ha]
        simp [hd]
    · rintro H' ⟨acc, rfl, ha⟩
      rw [List.length_map, Z.len, List.take_length] at ha
      have s2 : Same H1 (upd H1 D (.lst acc)) := same_upd hD
      refine ⟨_, rfl, q, _, rfl, .inl (SqL.of (s2 _ _ Z.at_)), _, rfl, D, _, rfl, .inl (SqL.of upd_same), _, rfl, q, _, rfl, .inl (SqL.of (s2 _ _ Z.at_)), _, rfl, D, _, rfl, .inl (SqL.of upd_same), _, _, rfl, rfl, (by show 3 ≤ sizeLine; decide), fun p hp => ?_⟩
      refine k _ p (Aft.same S ((s1.trans s2).trans (same_upd hp))) ((s1.trans s2).free hp) ?_
      rw [upd_same]
      have two := stops_two pl.good
      have e1 : ((ts.map V.ref).length : Nat) = (Kxd7.stops (planT h t)).length := by rw [List.length_map, Z.len]
      show some (HO.lst [V.int ((ts.map V.ref).length : Nat), V.int (acc.length : Nat), V.int (((ts.map V.ref).length : Nat) - (acc.length : Nat))]) = some (HO.lst [V.int ((Kxd7.stops (planT h t)).length : Nat), V.int (((Kxd7.stops (planT h t)).countP fun z => Kxd7.decision (planT h t) z.1 z.2 == 1 : Nat)), V.int (((Kxd7.stops (planT h t)).countP fun z => Kxd7.decision (planT h t) z.1 z.2 == 2 : Nat))])
      rw [e1, ha]
      have e2 : (((Kxd7.stops (planT h t)).length : Nat) : Int) - (((Kxd7.stops (planT h t)).countP fun z => Kxd7.decision (planT h t) z.1 z.2 == 1 : Nat) : Int) = (((Kxd7.stops (planT h t)).countP fun z => Kxd7.decision (planT h t) z.1 z.2 == 2 : Nat) : Int) := by omega
      rw [e2]
end
end St
/-! KxH: a script read as a list of calls. -/
namespace KxH
open Kxd7
/-- how many numbers a call has -/
def lenOf (i : Nat) : Nat := [1, 3, 1, 7, 3, 0, 8, 2, 2, 0, 2, 2, 3, 3, 8, 8, 2, 8, 5, 1, 0].getD i 0
/-- the request of call i with the numbers l -/
def reqOf (i : Nat) (l : List Nat) : Request := match i with
  | 0 => .create (l.getD 0 0)
  | 1 => .setDecision (l.getD 0 0) (l.getD 1 0) (l.getD 2 0)
  | 2 => .single (l.getD 0 0)
  | 3 => .likelihood (l.getD 0 0) (l.getD 1 0) (l.getD 2 0) (l.getD 3 0) (l.getD 4 0) (l.getD 5 0) (l.getD 6 0)
  | 4 => .twoStage (l.getD 0 0) (l.getD 1 0) (l.getD 2 0)
  | 5 => .curtail
  | 6 => .optimal (l.getD 0 0) (l.getD 1 0) (l.getD 2 0) (l.getD 3 0) (l.getD 4 0) (l.getD 5 0) (l.getD 6 0) (l.getD 7 0)
  | 7 => .decision (l.getD 0 0) (l.getD 1 0)
  | 8 => .paths (l.getD 0 0) (l.getD 1 0)
  | 9 => .stopCount
  | 10 => .acceptance (l.getD 0 0) (l.getD 1 0)
  | 11 => .expectedSize (l.getD 0 0) (l.getD 1 0)
  | 12 => .stopProbability (l.getD 0 0) (l.getD 1 0) (l.getD 2 0)
  | 13 => .errors (l.getD 0 0) (l.getD 1 0) (l.getD 2 0)
  | 14 => .planCost (l.getD 0 0) (l.getD 1 0) (l.getD 2 0) (l.getD 3 0) (l.getD 4 0) (l.getD 5 0) (l.getD 6 0) (l.getD 7 0)
  | 15 => .leastCost (l.getD 0 0) (l.getD 1 0) (l.getD 2 0) (l.getD 3 0) (l.getD 4 0) (l.getD 5 0) (l.getD 6 0) (l.getD 7 0)
  | 16 => .unbiased (l.getD 0 0) (l.getD 1 0)
  | 17 => .bestTwoStage (l.getD 0 0) (l.getD 1 0) (l.getD 2 0) (l.getD 3 0) (l.getD 4 0) (l.getD 5 0) (l.getD 6 0) (l.getD 7 0)
  | 18 => .successes (l.getD 0 0) (l.getD 1 0) (l.getD 2 0) (l.getD 3 0) (l.getD 4 0)
  | 19 => .row (l.getD 0 0)
  | 20 => .summary
  | _ => .summary
/-- whole numbers, as the specification has them -/
def zints (l : List Nat) : List Int := l.map fun (x : Nat) => (x : Int)
def enc (c : Nat × List Nat) : List (List Int) := [(c.1 : Int) :: zints c.2]
/-- a call with as many numbers as it has -/
def Ok (c : Nat × List Nat) : Prop := c.1 ≤ 20 ∧ c.2.length = lenOf c.1
/-- the calls, one behind another -/
def flat (cs : List (Nat × List Nat)) : List Nat := cs.flatMap fun c => c.1 :: c.2
theorem flat_cons (c : Nat × List Nat) (cs : List (Nat × List Nat)) : flat (c :: cs) = c.1 :: (c.2 ++ flat cs) := by
  unfold flat
  rw [List.flatMap_cons]
  rfl
theorem shape_in : ∀ p : Nat, p < 21 → PyKxd7.shape (p : Int) = some (lenOf p, 0) := by decide
theorem shape_out {p : Nat} (h : 21 ≤ p) : PyKxd7.shape (p : Int) = none := by
  unfold PyKxd7.shape
  repeat rw [if_neg (by omega)]
theorem step_eq (s : State) (i : Nat) (a : List Nat) (hi : i ≤ 20) (ha : a.length = lenOf i) : Kxd7Neutral.step s (PyKxd7.whole (enc (i, a))) = ((Kxd7.step s (reqOf i a)).1, Kxd7Neutral.fields (Kxd7.step s (reqOf i a)).2) :=
  match i, hi, ha with
  | 0, _, ha => match a, (show a.length = 1 from ha) with
    | [x0], _ => rfl
  | 1, _, ha => match a, (show a.length = 3 from ha) with
    | [x0, x1, x2], _ => rfl
  | 2, _, ha => match a, (show a.length = 1 from ha) with
    | [x0], _ => rfl
  | 3, _, ha => match a, (show a.length = 7 from ha) with
    | [x0, x1, x2, x3, x4, x5, x6], _ => rfl
  | 4, _, ha => match a, (show a.length = 3 from ha) with
    | [x0, x1, x2], _ => rfl
  | 5, _, ha => match a, (show a.length = 0 from ha) with
    | [], _ => rfl
  | 6, _, ha => match a, (show a.length = 8 from ha) with
    | [x0, x1, x2, x3, x4, x5, x6, x7], _ => rfl
  | 7, _, ha => match a, (show a.length = 2 from ha) with
    | [x0, x1], _ => rfl
  | 8, _, ha => match a, (show a.length = 2 from ha) with
    | [x0, x1], _ => rfl
  | 9, _, ha => match a, (show a.length = 0 from ha) with
    | [], _ => rfl
  | 10, _, ha => match a, (show a.length = 2 from ha) with
    | [x0, x1], _ => rfl
  | 11, _, ha => match a, (show a.length = 2 from ha) with
    | [x0, x1], _ => rfl
  | 12, _, ha => match a, (show a.length = 3 from ha) with
    | [x0, x1, x2], _ => rfl
  | 13, _, ha => match a, (show a.length = 3 from ha) with
    | [x0, x1, x2], _ => rfl
  | 14, _, ha => match a, (show a.length = 8 from ha) with
    | [x0, x1, x2, x3, x4, x5, x6, x7], _ => rfl
  | 15, _, ha => match a, (show a.length = 8 from ha) with
    | [x0, x1, x2, x3, x4, x5, x6, x7], _ => rfl
  | 16, _, ha => match a, (show a.length = 2 from ha) with
    | [x0, x1], _ => rfl
  | 17, _, ha => match a, (show a.length = 8 from ha) with
    | [x0, x1, x2, x3, x4, x5, x6, x7], _ => rfl
  | 18, _, ha => match a, (show a.length = 5 from ha) with
    | [x0, x1, x2, x3, x4], _ => rfl
  | 19, _, ha => match a, (show a.length = 1 from ha) with
    | [x0], _ => rfl
  | 20, _, ha => match a, (show a.length = 0 from ha) with
    | [], _ => rfl
  | n + 21, h, _ => absurd h (by omega)
/-- what the calls answer from a state on -/
def outs : State → List (Nat × List Nat) → List (List Int)
  | _, [] => []
  | s, c :: r => Kxd7Neutral.fields (Kxd7.step s (reqOf c.1 c.2)).2 :: outs (Kxd7.step s (reqOf c.1 c.2)).1 r
theorem played_eq : ∀ (cs : List (Nat × List Nat)) (s : State), (∀ c ∈ cs, Ok c) → PyFlat.played Kxd7Neutral.step s ((cs.map enc).map PyKxd7.whole) = outs s cs
  | [], _, _ => rfl
  | (i, a) :: cs, s, h => by
    have h0 := h _ (.head _)
    rw [List.map_cons, List.map_cons]
    show (Kxd7Neutral.step s (PyKxd7.whole (enc (i, a)))).2 :: PyFlat.played Kxd7Neutral.step (Kxd7Neutral.step s (PyKxd7.whole (enc (i, a)))).1 _ = _
    rw [step_eq s i a h0.1 h0.2, played_eq cs _ fun c hc => h c (.tail _ hc)]
    rfl
theorem zints_take (l : List Nat) (n : Nat) : (zints l).take n = zints (l.take n) := by
  unfold zints
  rw [List.map_take]
theorem zints_drop (l : List Nat) (n : Nat) : (zints l).drop n = zints (l.drop n) := by
  unfold zints
  rw [List.map_drop]
theorem parse : ∀ (f : Nat) (l : List Nat) (raw : List (List (List Int))), PyFlat.calls PyKxd7.shape f (zints l) = some raw → ∃ cs : List (Nat × List Nat), (∀ c ∈ cs, Ok c) ∧ l = flat cs ∧ raw = cs.map enc
  | f, [], raw, h => by
    have e : raw = [] := by
      cases f <;> exact (Option.some.inj h).symm
    subst e
    exact ⟨[], fun c hc => absurd hc (by simp), rfl, rfl⟩
  | 0, p :: r, raw, h => by cases h
  | f + 1, p :: r, raw, h => by
    have h : (match PyFlat.call PyKxd7.shape ((p : Int) :: zints r) with
      | none => none
      | some (c, t) => match PyFlat.calls PyKxd7.shape f t with
        | none => none
        | some cs => some (c :: cs)) = some raw := h
    by_cases hp : p < 21
    · have e : PyFlat.call PyKxd7.shape ((p : Int) :: zints r) = if (zints r).length < lenOf p then none else some ([(p : Int) :: (zints r).take (lenOf p)], (zints r).drop (lenOf p)) := by
        have e0 := shape_in p hp
        unfold PyFlat.call
        simp only [e0]
        rfl
      rw [e] at h
      by_cases hl : (zints r).length < lenOf p
      · rw [if_pos hl] at h
        cases h
      · rw [if_neg hl, zints_take, zints_drop] at h
        have h : (match PyFlat.calls PyKxd7.shape f (zints (r.drop (lenOf p))) with
          | none => none
          | some cs => some ([(p : Int) :: zints (r.take (lenOf p))] :: cs)) = some raw := h
        cases e2 : PyFlat.calls PyKxd7.shape f (zints (r.drop (lenOf p))) with
        | none => rw [e2] at h; cases h
        | some raw' =>
          rw [e2] at h
          obtain ⟨cs, h1, h2, h3⟩ := parse f _ raw' e2
          have e3 := (Option.some.inj h).symm
          have lenr : (zints r).length = r.length := by unfold zints; rw [List.length_map]
          refine ⟨(p, r.take (lenOf p)) :: cs, fun c hc => ?_, ?_, ?_⟩
          · rcases List.mem_cons.mp hc with z | z
            · rw [z]
              exact ⟨by show p ≤ 20; omega, by show (r.take (lenOf p)).length = lenOf p; rw [List.length_take]; omega⟩
            · exact h1 c z
          · rw [flat_cons, ← h2, List.take_append_drop]
          · rw [e3, h3]
            rfl
    · have e : PyFlat.call PyKxd7.shape ((p : Int) :: zints r) = none := by
        have e0 := shape_out (p := p) (by omega)
        unfold PyFlat.call
        simp only [e0]
      rw [e] at h
      cases h
/-- a script that may be handed in -/
theorem asked_eq {l : List Nat} (h : PyKxd7.answers_asked (zints l) = true) : ∃ cs : List (Nat × List Nat), (∀ c ∈ cs, Ok c) ∧ l = flat cs ∧ PyKxd7.answers (zints l) = PyFlat.told (outs none cs) ∧ (PyFlat.told (outs none cs)).length ≤ 10000000 := by
  unfold PyKxd7.answers_asked at h
  cases e : PyFlat.calls PyKxd7.shape (zints l).length (zints l) with
  | none => rw [e] at h; cases h
  | some raw =>
    rw [e] at h
    obtain ⟨cs, h1, h2, h3⟩ := parse _ _ _ e
    have ea : PyKxd7.answers (zints l) = PyFlat.told (outs none cs) := by
      unfold PyKxd7.answers PyKxd7.calls
      rw [e]
      show PyFlat.told (PyFlat.played Kxd7Neutral.step Kxd7Neutral.start (raw.map PyKxd7.whole)) = _
      rw [h3, played_eq cs _ h1]
      rfl
    refine ⟨cs, h1, h2, ea, ?_⟩
    simp only [Bool.and_eq_true] at h
    have h5 := h.2
    unfold PyFlat.short at h5
    rw [ea] at h5
    exact of_decide_eq_true h5
theorem step_none {i : Nat} {a : List Nat} (h : i ≠ 0) : Kxd7.step none (reqOf i a) = (none, .value (-11)) :=
  match i, h with
  | 0, h => absurd rfl h
  | 1, _ => rfl
  | 2, _ => rfl
  | 3, _ => rfl
  | 4, _ => rfl
  | 5, _ => rfl
  | 6, _ => rfl
  | 7, _ => rfl
  | 8, _ => rfl
  | 9, _ => rfl
  | 10, _ => rfl
  | 11, _ => rfl
  | 12, _ => rfl
  | 13, _ => rfl
  | 14, _ => rfl
  | 15, _ => rfl
  | 16, _ => rfl
  | 17, _ => rfl
  | 18, _ => rfl
  | 19, _ => rfl
  | 20, _ => rfl
  | _ + 21, _ => rfl
theorem told_cons (a : List Int) (l : List (List Int)) : PyFlat.told (a :: l) = (a.length : Int) :: (a ++ PyFlat.told l) := by
  unfold PyFlat.told
  rw [List.flatMap_cons]
  rfl
end KxH
set_option Elab.async false
set_option linter.all false
set_option maxRecDepth 100000
set_option maxHeartbeats 2000000
/-! W21: the calls one behind another. -/
namespace St
open PySem PySem.Spec PyProof.Rows L2 NdefX LamX KxF
theorem Aft.before {T : List NTab} {C I : Addr} {H H1 H' : Hp} {X : Addr → Prop} {s : Kxd7.State} (k : Same H H1) (A : Aft T C I H1 H' X s) : Aft T C I H H' X s :=
  ⟨let ⟨X', h1, h2⟩ := A.st; ⟨X', h1, fun b hb => (h2 b hb).imp id k.free⟩, fun b o e n t => A.ext b o (k _ _ e) n t, fun h => A.tab (h.ext k), fun b h => k.free (A.non b h)⟩
/-- a list that isn't the instance's is changed -/
theorem StAt.off {H : Hp} {C I a : Addr} {s : Kxd7.State} {X : Addr → Prop} {o : HO} (S : StAt H C I s X) (n : ¬ X a) : StAt (upd H a o) C I s X := by
  cases S with
  | none dx h => exact .none dx (by rw [upd_ne (fun z => n z.symm)]; exact h)
  | some p =>
    obtain ⟨dx, h⟩ := p.ins
    refine .some ⟨⟨dx, by rw [upd_ne (fun z => n (.inl z.symm))]; exact h⟩, ⟨by rw [upd_ne (fun z => n (.inr (.inl z.symm)))]; exact p.rows.at_, p.rows.len, fun i r e => ?_, p.rows.nd, p.rows.ne⟩, p.good⟩
    obtain ⟨d, h1, h2⟩ := p.rows.row i r e
    exact ⟨d, h1, by rw [upd_ne (fun z => n (.inr (.inr (by rw [← z]; exact List.mem_of_getElem? e))))]; exact h2⟩
theorem tabs_off {T : List NTab} {H : Hp} {a : Addr} {xs ys : List V} (h : H a = some (.lst xs)) (t : TabsN T H) : TabsN T (upd H a (.lst ys)) := fun p hp => by
  obtain ⟨ps, g1, g2, g3⟩ := t p hp
  refine ⟨ps, ?_, g2, fun pos cv hcv => ?_⟩
  · rw [upd_ne (fun z => by rw [z, h] at g1; cases g1)]
    exact g1
  · obtain ⟨c, e1, e2⟩ := g3 pos cv hcv
    refine ⟨c, e1, ?_⟩
    rw [upd_ne (fun z => by rw [z, h] at e2; unfold CodeO at e2; cases e2)]
    exact e2
theorem pe_mk0 {X : Cx} {k j : Nat} {C : Addr} {x : Str} {sp : Sp} {dvs : List V} {p pos : Pos} (c : C8.Mak X.prog X.w X.K X.mg X.base k x C sp dvs) (hr : Room j X.A) (hk : k + 1 ≤ j) (hg : Gl X x) (hdb : (x == ("__debug__" : Str)) = false := by decide) :
    PE X (.Call (.Name x p) [] [] pos) (tMake C sp dvs C8.E0 tNil) := by
  obtain ⟨f, fd, ps, ds, M, F, hm, b, d⟩ := c.ex
  exact pe_make0 M F (hr.mono hk) hg hm b d C8.pass0 hdb
/-- a local name that holds one of several defs; which promise goes with which is told by S -/
def tCallR (i : Nat) (S : Addr → Sp → Prop) (t : TA) : TE := fun σ H Q => ∃ f sp, σ[i]? = some (some (.ref f)) ∧ S f sp ∧ t σ H fun vs H1 => sp vs H1 Q (fun _ _ _ => False)
theorem pe_callR {X : Cx} {k i : Nat} {x : Str} {p pos : Pos} {e : Expr} {es : List Expr} {t : TA} {S : Addr → Sp → Prop} (A : ∀ f sp, S f sp → Held X.prog X.w X.K X.mg X.base k f sp) (hr : Room k X.A) (hN : X.N[i]? = some x) (hv : Vis X.env.scope x) (ha : PA X (e :: es) t)
    (hdb : (x == ("__debug__" : Str)) = false := by decide) (hcd : (x == ("__classdict__" : Str)) = false := by decide)
    (he : starEach (e :: es) X.env = (false, eval e X.env) :: starEach es X.env := by rfl) (hpl : (backTo pos (starEach es X.env)).any (·.1) = false := by rfl) : PE X (.Call (.Name x p) (e :: es) [] pos) (tCallR i S t) :=
  ⟨fun pins s σ H Q I h => by
    obtain ⟨f, sp, h1, h2, h3⟩ := h
    exact (pe_callA (i := i) (S := fun g => if g = f then some sp else none) (fun g sp' z => by
      by_cases q : g = f
      · rw [if_pos q] at z
        cases z
        rw [q]
        exact A f sp h2
      · rw [if_neg q] at z
        cases z) hr hN hv ha hdb hcd he hpl).run pins s σ H Q I ⟨f, sp, h1, if_pos rfl, h3⟩⟩
theorem held_of {P : Program} {w : World} {K : PySem.W.Frag} {mg : Str → Option Value} {base : Heap} {j k : Nat} {x : Str} {sp : Sp} {f : Addr} (c : Cal0 P w K mg base j x sp) (h : j ≤ k) (e : mg x = some (.ref f)) : Held P w K mg base k f sp := by
  obtain ⟨f', fd, ps, ds, F, hm, kp, b, d⟩ := c.ex
  rw [hm] at e
  cases e
  cases d
  exact ⟨fd, ps, F.mono h, kp, b⟩
section
variable {P : Program} {w : World} {K : PySem.W.Frag} {mg : Str → Option Value} {base : Heap}
def sp_Instance (K : PySem.W.Frag) (C : Addr) : Sp := fun vs H Q _ => ∃ (x dx : Addr), vs = [.ref x] ∧ H x = some (.ins C dx []) ∧ Q .non (upd H x (.ins C dx (rF .non)))
theorem k_Instance {C : Addr} (T : ICls K C) (F : IniB K mg C "Instance" "Instance.__init__" s_Instance___init__ ["self"]) : C8.Mak P w K mg base 1 "Instance" C (sp_Instance K C) [] := by
  obtain ⟨f, fd, M, hm, F, b⟩ := F.ex
  refine C8.mak0 M hm F b .nil (C8.fnScope_by (N := ["self"]) (by decide +kernel)) (fun vs H Q E h => ?_) (fun cdv A outer s H vs Q E hr h => ?_)
  · obtain ⟨_, _, rfl, _⟩ := h
    rfl
  · obtain ⟨x, dx, rfl, hx, k⟩ := h
    refine ⟨_, pss_one (ps_fld (pv 0) pe_non rfl), ?_⟩
    exact ⟨_, rfl, x, C, dx, _, rfl, hx, T.cl, T.rows, by decide, k⟩
/-- call i: how many numbers it has, and the def that answers it -/
def CallAt (P : Program) (w : World) (K : PySem.W.Frag) (mg : Str → Option Value) (base : Heap) (T : List NTab) (C : Addr) (k : Nat) (d : Addr) (i : Nat) (f : Addr) (sp : Sp) : Prop :=
  sp = sp_op K T C (KxH.lenOf i) (decide (i = 0)) (KxH.reqOf i) ∧ Held P w K mg base k f sp ∧ ∃ tp, KDi K d (i : Int) (.ref tp) ∧ ∀ H, SqT K H tp [.int (KxH.lenOf i : Nat), .ref f]
/-- the script stands -/
def Lk (K : PySem.W.Frag) (H : Hp) (X : Addr → Prop) (an a : Addr) (xs : List V) : Prop := SqL K H a xs ∧ ((H a ≠ Option.none ∧ ¬ X a ∧ a ≠ an) ∨ ∀ H', SqL K H' a xs)
theorem Lk.up {H H' : Hp} {X X' : Addr → Prop} {an a : Addr} {xs : List V} (L : Lk K H X an a xs) (e : ∀ o, H a = some o → ¬ X a → a ≠ an → (∀ ps, o ≠ .tbl ps) → H' a = some o) (hX : ∀ b, X' b → X b ∨ H b = Option.none) : Lk K H' X' an a xs := by
  obtain ⟨h1, ⟨h2, h3, h4⟩ | h2⟩ := L
  · rcases h1 with (h | ⟨o, h⟩) | h
    · have e1 := e _ h h3 h4 (fun ps z => by cases z)
      exact ⟨.inl (.inl e1), .inl ⟨by rw [e1]; simp, fun z => (hX a z).elim h3 h2, h4⟩⟩
    · have e1 := e _ h h3 h4 (fun ps z => by cases z)
      exact ⟨.inl (.inr ⟨o, e1⟩), .inl ⟨by rw [e1]; simp, fun z => (hX a z).elim h3 h2, h4⟩⟩
    · exact ⟨.inr h, .inr fun _ => .inr h⟩
  · exact ⟨h2 _, .inr h2⟩
theorem Lk.start {H H' : Hp} {X : Addr → Prop} {an a : Addr} {xs : List V} (h : SqL K H a xs) (s : Same H H') (hX : ∀ b, X b → H b = Option.none) (ha : H an = Option.none) : Lk K H' X an a xs := by
  rcases h with (h | ⟨o, h⟩) | h
  · have e1 := s _ _ h
    refine ⟨.inl (.inl e1), .inl ⟨?_, ?_, ?_⟩⟩
    · rw [e1]
      simp
    · intro z
      have h : H a = _ := h
      rw [hX a z] at h
      cases h
    · intro z
      have h : H a = _ := h
      rw [z, ha] at h
      cases h
  · have e1 := s _ _ h
    refine ⟨.inl (.inr ⟨o, e1⟩), .inl ⟨?_, ?_, ?_⟩⟩
    · rw [e1]
      simp
    · intro z
      have h : H a = _ := h
      rw [hX a z] at h
      cases h
    · intro z
      have h : H a = _ := h
      rw [z, ha] at h
      cases h
  · exact ⟨.inr h, .inr fun _ => .inr h⟩
theorem sIx_nat (n d i : Nat) : HT.sIx n d (some (i : Int)) = min i n := by
  show (if (i : Int) < 0 then ((i : Int) + (n : Int)).toNat else min (i : Int).toNat n) = _
  rw [if_neg (by omega), Int.toNat_natCast]
theorem cut_at (p a q : List V) (i j : Nat) (hi : i = p.length) (hj : j = p.length + a.length) : cutV (p ++ (a ++ q)) (some (i : Int)) (some (j : Int)) = a := by
  have hl : (p ++ (a ++ q)).length = p.length + (a.length + q.length) := by rw [List.length_append, List.length_append]
  unfold cutV
  rw [sIx_nat, sIx_nat]
  have e1 : min i (p ++ (a ++ q)).length = p.length := by omega
  have e2 : min j (p ++ (a ++ q)).length = p.length + a.length := by omega
  rw [e1, e2, List.drop_left, Nat.add_sub_cancel_left, List.take_left]
theorem zs_len (l : List Int) : (zs l).length = l.length := by
  unfold zs
  rw [List.length_map]
theorem zs_app (l m : List Int) : zs (l ++ m) = zs l ++ zs m := by
  unfold zs
  rw [List.map_append]
theorem nats_app (l m : List Nat) : nats (l ++ m) = nats l ++ nats m := by
  unfold nats
  rw [List.map_append]
/-- the script at la is answered -/
def sp_answers (K : PySem.W.Frag) (T : List NTab) : Sp := fun vs H Q _ => ∃ (la : Addr) (cs : List (Nat × List Nat)), vs = [.ref la] ∧ SqL K H la (nats (KxH.flat cs)) ∧ (∀ c ∈ cs, KxH.Ok c) ∧ (∀ c ∈ cs, ∀ x ∈ c.2, x < 2 ^ 32) ∧ (PyFlat.told (KxH.outs none cs)).length ≤ 10000000 ∧ TabsN T H ∧
  ∀ H' p, H' p = some (.lst (zs (PyFlat.told (KxH.outs none cs)))) → Q (.ref p) H'
theorem ok_answers {T : List NTab} {C d fa : Addr} {fd : FuncData} {j : Nat} (gl : Glb mg) (Ti : ICls K C) (F : C8.Fun K "answers" "answers" s_answers fa fd) (c0 : C8.Mak P w K mg base 1 "Instance" C (sp_Instance K C) []) (hd : Con0 mg "CALLS" (.ref d)) (hj : 2 ≤ j) (hc : ∀ i, i ≤ 20 → ∃ f sp, CallAt P w K mg base T C j d i f sp) :
    FnOk P w K mg base C8.CX0 (j + 1) fa fd ["calls"] (sp_answers K T) := by
  refine C8.fn0 F (C8.fnScope_by (N := ["calls", "instance", "answered", "place", "call", "count", "answer_call", "begin", "answer"]) (by decide +kernel)) (fun vs H Q E h => ?_) (fun cdv A outer s H vs Q E hr h => ?_)
  · obtain ⟨_, _, rfl, _⟩ := h
    rfl
  · obtain ⟨la, cs, rfl, hla, hok, hsm, hlen, hT, k⟩ := h
    have nd : (["calls", "instance", "answered", "place", "call", "count", "answer_call", "begin", "answer"] : List Str).Nodup := by decide +kernel
    have hz := sizeLine_eq
    refine ⟨_, pss_cons (ps_set (i := 1) nd rfl (.inl rfl) (pe_mk0 c0 hr hj rfl))
      (pss_cons (ps_set (i := 2) nd rfl (.inl rfl) (pe_lst pa_nil))
      (pss_cons (ps_set (i := 3) nd rfl (.inl rfl) pe_int)
      (pss_cons (ps_while PassesOwn.never (pt_cmpR op_lt (pv 3) (pe_callB call_len_seq (by rfl) gl.len PySem.boot_len (pa_cons (pv 0) pa_nil)) (nomark _))
        (pss_cons (ps_set (i := 4) nd rfl (.inl rfl) (pe_ix ix_list (pv 0) (pv 3) (fun _ _ => rfl)))
        (pss_cons (ps_asg (pe_ix ix_kdi (C8.pe_gc rfl hd) (pv 4) (fun _ _ => rfl)) (pg_tup rfl (pgs_cons (pg_name (i := 5) nd rfl (.inl rfl)) (pgs_cons (pg_name (i := 6) nd rfl (.inl rfl)) pgs_nil))))
        (pss_cons (ps_set (i := 7) nd rfl (.inl rfl) (pe_op op_add (pv 3) pe_int))
        (pss_cons (ps_set (i := 3) nd rfl (.inl rfl) (pe_op op_add (pv 7) (pv 5)))
        (C8.pss_cut (ps_if (PW.pt (pw_and (pt_cmpR op_ne (pv 4) (C8.pe_gc rfl gl.CREATE) (nomark _)) (pw_and1 (pt_cmpR op_isN (pe_fld (pv 1) rfl) pe_non (nomark _)))))
            (pss_one (ps_set (i := 8) nd rfl (.inl rfl) (pe_lst (pa_cons (C8.pe_gc rfl gl.NOT_USABLE) pa_nil))))
            (pss_one (ps_set (i := 8) nd rfl (.inl rfl) (pe_callR (i := 6) (S := fun f sp => ∃ i, CallAt P w K mg base T C j d i f sp) (fun f sp ⟨i, h⟩ => h.2.1) hr rfl (.inl rfl) (pa_cons (pv 1) (pa_cons (pe_slice sl_list (pv 0) (po_some (pv 7)) (po_some (pv 3))) pa_nil))))))
        (pss_cons (ps_expr (pe_bm PySem.F.plainAttrs_list PySem.F.slot_list_append PySem.F.type_list_append mt_append (pv 2) (pa_cons (pe_callB call_len_seq (by rfl) gl.len PySem.boot_len (pa_cons (pv 8) pa_nil)) pa_nil)))
        (pss_one (ps_expr (pe_bm PySem.F.plainAttrs_list PySem.F.slot_list_extend PySem.F.type_list_extend mt_extend (pv 2) (pa_cons (pv 8) pa_nil)))))))))))
      (pss_one (ps_ret (pv 2)))))), ?_⟩
    refine fun I dp hI hdp ne => ⟨I, dp, rfl, upd_same, rfl, ?_⟩
    rw [upd_upd]
    have s1 : Same H (upd (upd H dp (.own I)) I (.ins C dp (rF .non))) := (same_upd hdp).trans (same_upd (by rw [upd_ne (Ne.symm ne)]; exact hI))
    have hI1 : (upd (upd H dp (.own I)) I (.ins C dp (rF .non))) I = some (.ins C dp (rF .non)) := upd_same
    generalize upd (upd H dp (.own I)) I (.ins C dp (rF .non)) = H1 at *
    refine ⟨Nat.zero_le _, fun an han => ?_⟩
    have s2 : Same H1 (upd H1 an (.lst [])) := same_upd han
    have nI : an ≠ I := fun z => by rw [z, hI1] at han; cases han
    refine while_by (fun σ H' => ∃ (pre : List Nat) (rest : List (Nat × List Nat)) (st : Kxd7.State) (X : Addr → Prop) (done : List Int) (v4 v5 v6 v7 v8 : Option V), σ = [some (.ref la), some (.ref I), some (.ref an), some (.int (pre.length : Nat)), v4, v5, v6, v7, v8] ∧ KxH.flat cs = pre ++ KxH.flat rest ∧ (∀ c ∈ rest, KxH.Ok c) ∧ (∀ c ∈ rest, ∀ x ∈ c.2, x < 2 ^ 32) ∧
        StAt H' C I st X ∧ ¬ X an ∧ Lk K H' X an la (nats (KxH.flat cs)) ∧ H' an = some (.lst (zs done)) ∧ TabsN T H' ∧ PyFlat.told (KxH.outs none cs) = done ++ PyFlat.told (KxH.outs st rest)) (fun σ _ => match σ with
      | [_, _, _, some (.int z), _, _, _, _, _] => (KxH.flat cs).length - z.toNat
      | _ => 0) ⟨[], cs, none, _, [], none, none, none, none, none, rfl, rfl, hok, hsm, .none dp (s2 _ _ hI1), nI, ?_, upd_same, (hT.ext s1).ext s2, rfl⟩ ?_ ?_
    · exact Lk.start hla (s1.trans s2) (fun b z => by rw [show b = I from z]; exact hI) (s1.free han)
    · rintro σ H2 ⟨pre, rest, st, X, done, v4, v5, v6, v7, v8, rfl, efl, hok2, hsm2, S, nX, L, hd2, hT2, eo⟩
      refine ⟨_, rfl, _, rfl, la, _, rfl, .inl L.1, _, _, rfl, rfl, _, rfl, ?_⟩
      rw [nats_len]
      have fl : (KxH.flat cs).length = pre.length + (KxH.flat rest).length := by rw [efl, List.length_append]
      cases rest with
      | nil =>
        have e0 : (KxH.flat ([] : List (Nat × List Nat))).length = 0 := rfl
        rw [decide_eq_false (show ¬ ((pre.length : Nat) : Int) < ((KxH.flat cs).length : Nat) by omega)]
        refine iteF ⟨_, rfl, ?_⟩
        have e1 : PyFlat.told (KxH.outs st []) = [] := rfl
        rw [e1, List.append_nil] at eo
        rw [eo] at k
        exact k _ _ hd2
      | cons c rest =>
        obtain ⟨ci, ca⟩ := c
        have hk := hok2 _ (.head _)
        have hki : ci ≤ 20 := hk.1
        have hka : ca.length = KxH.lenOf ci := hk.2
        rw [KxH.flat_cons] at fl efl
        have fl2 : (KxH.flat cs).length = pre.length + (1 + (ca.length + (KxH.flat rest).length)) := by rw [fl, List.length_cons, List.length_append]; show _ + ((ca.length + _) + 1) = _; omega
        rw [decide_eq_true (show ((pre.length : Nat) : Int) < ((KxH.flat cs).length : Nat) by omega)]
        refine iteT ?_
        have ec : (nats (KxH.flat cs))[pre.length]? = some (V.int (ci : Nat)) := by
          refine nats_get ?_
          rw [efl, List.getElem?_append_right (Nat.le_refl _), Nat.sub_self]
          rfl
        obtain ⟨f, sp, hC⟩ := hc ci hki
        obtain ⟨esp, hh, tp, hD, hTp⟩ := id hC
        refine ⟨_, rfl, _, rfl, la, _, _, _, rfl, rfl, L.1, at_of rfl ec, ?_⟩
        refine ⟨_, rfl, d, _, _, rfl, rfl, hD, tp, _, rfl, hTp _, rfl, _, _, rfl, _, _, rfl, rfl, ?_⟩
        refine ⟨_, rfl, _, _, rfl, rfl, ?_⟩
        refine ⟨_, rfl, _, rfl, _, _, rfl, rfl, ?_⟩
        have et : KxH.outs st ((ci, ca) :: rest) = Kxd7Neutral.fields (Kxd7.step st (KxH.reqOf ci ca)).2 :: KxH.outs (Kxd7.step st (KxH.reqOf ci ca)).1 rest := rfl
        generalize hr1 : Kxd7.step st (KxH.reqOf ci ca) = r at *
        refine ⟨fun σ' H' => ∃ p, σ' = [some (.ref la), some (.ref I), some (.ref an), some (.int ((pre.length : Nat) + 1 + (KxH.lenOf ci : Nat))), some (.int (ci : Nat)), some (.int (KxH.lenOf ci : Nat)), some (.ref f), some (.int ((pre.length : Nat) + 1)), some (.ref p)] ∧ Aft T C I H2 H' X r.1 ∧ H2 p = Option.none ∧ H' p = some (.lst (zs (Kxd7Neutral.fields r.2))), ?_, ?_⟩
        · have efl2 : KxH.flat cs = (pre ++ [ci]) ++ (ca ++ KxH.flat rest) := by
            rw [efl, List.append_assoc]
            rfl
          have ecut : cutV (nats (KxH.flat cs)) (some ((pre.length : Nat) + 1 : Int)) (some ((pre.length : Nat) + 1 + (KxH.lenOf ci : Nat) : Int)) = nats ca := by
            rw [efl2, nats_app (pre ++ [ci]), nats_app ca]
            have z := cut_at (nats (pre ++ [ci])) (nats ca) (nats (KxH.flat rest)) (pre.length + 1) (pre.length + 1 + KxH.lenOf ci) (by rw [nats_len, List.length_append]; rfl) (by rw [nats_len, nats_len, List.length_append, hka]; rfl)
            exact z
          have call : (decide (ci = 0) = false → st ≠ none) → ∀ Q2 : VK, (∀ H' p, Aft T C I H2 H' X r.1 → H2 p = Option.none → H' p = some (.lst (zs (Kxd7Neutral.fields r.2))) → Q2 (.ref p) H') →
              ∀ D : Addr, H2 D = Option.none → sp [.ref I, .ref D] (upd H2 D (.lst (cutV (nats (KxH.flat cs)) (some ((pre.length : Nat) + 1 : Int)) (some ((pre.length : Nat) + 1 + (KxH.lenOf ci : Nat) : Int))))) Q2 (fun _ _ _ => False) := by
            intro hst Q2 hq D hD
            rw [ecut, esp]
            have sD : Same H2 (upd H2 D (.lst (nats ca))) := same_upd hD
            refine ⟨I, D, X, st, ca, rfl, S.same sD, SqL.of upd_same, hka, hsm2 _ (.head _), hT2.ext sD, hst, fun H' p A hp e => ?_⟩
            rw [hr1] at A e
            exact hq H' p (A.before sD) (sD.free hp) e
          refine ⟨_, rfl, rfl, _, rfl, ?_⟩
          by_cases h0 : ci = 0
          · have e0 : (!decide (V.int (ci : Nat) = V.int 0)) = false := by
              rw [decide_eq_true (by rw [h0]; rfl)]
              rfl
            rw [e0]
            refine iteF (iteF ⟨f, sp, rfl, ⟨ci, hC⟩, _, rfl, _, rfl, _, rfl, _, rfl, _, rfl, _, rfl, la, _, rfl, L.1, fun D hD => ?_⟩)
            exact call (fun z => by rw [decide_eq_true h0] at z; cases z) _ (fun H' p A hp e => ⟨p, rfl, A, hp, e⟩) D hD
          · have e0 : (!decide (V.int (ci : Nat) = V.int 0)) = true := by
              rw [decide_eq_false (show ¬ V.int (ci : Nat) = V.int 0 from fun z => h0 (intN (b := 0) z))]
              rfl
            rw [e0]
            cases S with
            | none dx hI2 =>
              refine iteT ⟨_, rfl, I, C, dx, _, _, rfl, hI2, Ti.cl, Ti.rows, rF_get _, rfl, _, rfl, ?_⟩
              have e1 : decide (V.non = V.non) = true := decide_eq_true rfl
              rw [e1]
              refine iteT ⟨(by show 1 ≤ sizeLine; decide), fun p hp => ⟨p, rfl, ?_, hp, ?_⟩⟩
              · rw [← hr1, KxH.step_none h0]
                exact Aft.same (.none dx hI2) (same_upd hp)
              · rw [← hr1, KxH.step_none h0]
                exact upd_same
            | @some h t a rs pl =>
              obtain ⟨dx, hI2⟩ := id pl.ins
              refine iteT ⟨_, rfl, I, C, dx, _, _, rfl, hI2, Ti.cl, Ti.rows, rF_get _, rfl, _, rfl, ?_⟩
              have e1 : decide (V.ref a = V.non) = false := decide_eq_false (fun z => by cases z)
              rw [e1]
              refine iteF ⟨f, sp, rfl, ⟨ci, hC⟩, _, rfl, _, rfl, _, rfl, _, rfl, _, rfl, _, rfl, la, _, rfl, L.1, fun D hD => ?_⟩
              exact call (fun _ z => by cases z) _ (fun H' p A hp e => ⟨p, rfl, A, hp, e⟩) D hD
        · rintro σ' H3 ⟨p, rfl, A3, hp2, hp3⟩
          have nap : an ≠ p := fun z => by
            rw [z, hp2] at hd2
            cases hd2
          have hd3 := A3.ext _ _ hd2 nX (fun ps z => by cases z)
          have eo2 : PyFlat.told (KxH.outs none cs) = (done ++ (((Kxd7Neutral.fields r.2).length : Int) :: Kxd7Neutral.fields r.2)) ++ PyFlat.told (KxH.outs r.1 rest) := by
            rw [eo, et, KxH.told_cons, List.append_assoc]
            rfl
          have el : done.length + (1 + (Kxd7Neutral.fields r.2).length) ≤ 10000000 := by
            rw [eo2, List.length_append, List.length_append, List.length_cons] at hlen
            omega
          refine ⟨_, rfl, .inl ⟨rfl, _, SqL.of hd3⟩, _, rfl, p, _, rfl, .inl (SqL.of hp3), an, _, _, rfl, rfl, hd3, by rw [zs_len]; omega, ?_⟩
          refine ⟨_, rfl, .inl ⟨rfl, _, SqL.of upd_same⟩, _, rfl, an, p, _, _, rfl, rfl, upd_same, (by rw [upd_ne (Ne.symm nap)]; exact hp3), ?_, ?_⟩
          · rw [List.length_append, zs_len, zs_len]
            show done.length + 1 + _ ≤ _
            omega
          · rw [upd_upd]
            obtain ⟨X', S3, hX'⟩ := A3.st
            have nX' : ¬ X' an := fun z => (hX' an z).elim nX (fun y => by rw [y] at hd2; cases hd2)
            have epl : (((pre ++ (ci :: ca)).length : Nat) : Int) = (pre.length : Nat) + 1 + (KxH.lenOf ci : Nat) := by
              rw [List.length_append, List.length_cons, ← hka]
              omega
            refine ⟨⟨pre ++ (ci :: ca), rest, r.1, X', done ++ (((Kxd7Neutral.fields r.2).length : Int) :: Kxd7Neutral.fields r.2), some (.int (ci : Nat)), some (.int (KxH.lenOf ci : Nat)), some (.ref f), some (.int ((pre.length : Nat) + 1)), some (.ref p), ?_, ?_, fun c hc => hok2 c (.tail _ hc), fun c hc => hsm2 c (.tail _ hc), S3.off nX', nX', ?_, ?_, tabs_off hd3 (A3.tab hT2), eo2⟩, ?_⟩
            · rw [epl]
            · rw [efl, List.append_assoc]
              rfl
            · refine L.up (fun o e n1 n2 n3 => ?_) hX'
              rw [upd_ne n2]
              exact A3.ext _ _ e n1 n3
            · rw [upd_same, zs_app, List.append_assoc]
              show some (HO.lst (zs done ++ ([V.int ((zs (Kxd7Neutral.fields r.2)).length : Nat)] ++ zs (Kxd7Neutral.fields r.2)))) = _
              rw [zs_len]
              rfl
            · show (KxH.flat cs).length - ((pre.length : Nat) + 1 + (KxH.lenOf ci : Nat) : Int).toNat < (KxH.flat cs).length - ((pre.length : Nat) : Int).toNat
              omega
    · rintro σ H' Q1 Q2 hq ⟨v, e1, v2, e2, p, xs, e3, e4, i, j, e5, e6, kk, e7, e8⟩
      exact ⟨v, e1, v2, e2, p, xs, e3, e4, i, j, e5, e6, kk, e7, hq _ _ e8⟩
end
end St
set_option Elab.async false
set_option linter.all false
set_option maxRecDepth 100000
set_option maxHeartbeats 2000000
/-! W22: what the top has left, fact by fact. -/
namespace St
open PySem PySem.Spec PyProof.Rows L2 NdefX LamX KxF
section
variable {K : PySem.W.Frag} {h : Heap} {mg : Str → Option Value}
theorem defB_of (X : K.In h) (G : h.Ns mainGlobals mg) {x : Str} {st : Stmt} {ps : List Str} {f : Addr} {oc kV doc pm cd ct : Value} {od an : Option Addr} {sl : Array (Option Value)} (a : PySem.W.nsIn K mainGlobals x = some (some (.ref f)))
    (l : K.lookup f = some ⟨oc, od, .func (PySem.W.fnOf x x (C8.fnArgs st) (C8.fnBody st) (C8.fnScope st) .none kV doc pm an cd ct), sl⟩) (c : PySem.W.codeIn K cd x = true) (k : PySem.W.keepIn K (.ref f) = true)
    (b : ∀ (kV doc pm : Value) (an : Option Addr) (cdv ct : Value) (us : List Value), us.length = ps.length → bindArgs (PySem.W.fnOf x x (C8.fnArgs st) (C8.fnBody st) (C8.fnScope st) .none kV doc pm an cdv ct) ⟨us, []⟩ = pure (ps.zip us)) : DefB K mg x st ps :=
  have F : C8.Fun K x x st f _ := ⟨oc, od, .none, kV, doc, pm, an, cd, ct, sl, rfl, l, c⟩
  ⟨f, _, ⟨F, PySem.W.mg_of X G a, k⟩, F.binds rfl b⟩
theorem defT_of (X : K.In h) (G : h.Ns mainGlobals mg) {x : Str} {st : Stmt} {ps : List Str} {f cA : Addr} {oc kV doc pm ct : Value} {od an : Option Addr} {sl : Array (Option Value)} (a : PySem.W.nsIn K mainGlobals x = some (some (.ref f)))
    (l : K.lookup f = some ⟨oc, od, .func (PySem.W.fnOf x x (C8.fnArgs st) (C8.fnBody st) (C8.fnScope st) .none kV doc pm an (.ref cA) ct), sl⟩) (c : PySem.W.codeIn K (.ref cA) x = true) (k : PySem.W.keepIn K (.ref f) = true)
    (b : ∀ (kV doc pm : Value) (an : Option Addr) (cdv ct : Value) (us : List Value), us.length = ps.length → bindArgs (PySem.W.fnOf x x (C8.fnArgs st) (C8.fnBody st) (C8.fnScope st) .none kV doc pm an cdv ct) ⟨us, []⟩ = pure (ps.zip us)) : DefT K mg x st ps cA :=
  have F : C8.Fun K x x st f _ := ⟨oc, od, .none, kV, doc, pm, an, .ref cA, ct, sl, rfl, l, c⟩
  ⟨f, _, oc, od, .none, kV, doc, pm, an, ct, sl, rfl, l, c, PySem.W.mg_of X G a, k, F.binds rfl b⟩
theorem con_of (X : K.In h) (G : h.Ns mainGlobals mg) {x : Str} {i : Int} {t : Tok} (a : PySem.W.nsIn K mainGlobals x = some (some (.int i t))) : Con0 mg x (.int i) := ⟨_, PySem.W.mg_of X G a, ⟨_, rfl⟩⟩
theorem conR_of (X : K.In h) (G : h.Ns mainGlobals mg) {x : Str} {d : Addr} (a : PySem.W.nsIn K mainGlobals x = some (some (.ref d))) : Con0 mg x (.ref d) := ⟨_, PySem.W.mg_of X G a, rfl⟩
theorem metB_of (X : K.In h) {C f : Addr} {m qual : Str} {st : Stmt} {ps : List Str} {oc kV doc pm cd ct : Value} {od an : Option Addr} {sl : Array (Option Value)} (a : PySem.W.findIn K (.ref C) m = some (some (.ref f))) (i : PySem.W.isFn K (.ref f) = true)
    (l : K.lookup f = some ⟨oc, od, .func (PySem.W.fnOf m qual (C8.fnArgs st) (C8.fnBody st) (C8.fnScope st) .none kV doc pm an cd ct), sl⟩) (c : PySem.W.codeIn K cd qual = true) (k : PySem.W.keepIn K (.ref f) = true)
    (b : ∀ (kV doc pm : Value) (an : Option Addr) (cdv ct : Value) (us : List Value), us.length = ps.length → bindArgs (PySem.W.fnOf m qual (C8.fnArgs st) (C8.fnBody st) (C8.fnScope st) .none kV doc pm an cdv ct) ⟨us, []⟩ = pure (ps.zip us)) : MetB K C m qual st ps :=
  have F : C8.Fun K m qual st f _ := ⟨oc, od, .none, kV, doc, pm, an, cd, ct, sl, rfl, l, c⟩
  ⟨f, _, ⟨a, i, k⟩, F, F.binds rfl b⟩
theorem iniB_of (X : K.In h) (G : h.Ns mainGlobals mg) {C f : Addr} {x qual : Str} {st : Stmt} {ps : List Str} {oc kV doc pm cd ct : Value} {od an : Option Addr} {sl : Array (Option Value)} (g : PySem.W.nsIn K mainGlobals x = some (some (.ref C))) (m : PySem.W.makesIn K C = true) (a : PySem.W.findIn K (.ref C) "__init__" = some (some (.ref f))) (i : PySem.W.isFn K (.ref f) = true) (kc : PySem.W.keepIn K (.ref C) = true)
    (l : K.lookup f = some ⟨oc, od, .func (PySem.W.fnOf "__init__" qual (C8.fnArgs st) (C8.fnBody st) (C8.fnScope st) .none kV doc pm an cd ct), sl⟩) (c : PySem.W.codeIn K cd qual = true)
    (b : ∀ (kV doc pm : Value) (an : Option Addr) (cdv ct : Value) (us : List Value), us.length = ps.length → bindArgs (PySem.W.fnOf "__init__" qual (C8.fnArgs st) (C8.fnBody st) (C8.fnScope st) .none kV doc pm an cdv ct) ⟨us, []⟩ = pure (ps.zip us)) : IniB K mg C x qual st ps :=
  have F : C8.Fun K "__init__" qual st f _ := ⟨oc, od, .none, kV, doc, pm, an, cd, ct, sl, rfl, l, c⟩
  ⟨f, _, ⟨m, a, i, kc⟩, PySem.W.mg_of X G g, F, F.binds rfl b⟩
/-- what is known of the heap -/
abbrev kOf (_ : K.In h) : PySem.W.Frag := K
theorem ICls_of (_ : K.In h) {C : Addr} (c : Cls K C) (n : PySem.W.findIn K (.ref C) "rows" = some none) : ICls K C := ⟨c, n⟩
theorem PCls_of (_ : K.In h) {C : Addr} (c : Cls K C) (n0 : PySem.W.findIn K (.ref C) "p0" = some none) (n1 : PySem.W.findIn K (.ref C) "p1" = some none) (n2 : PySem.W.findIn K (.ref C) "divisor" = some none) (n3 : PySem.W.findIn K (.ref C) "prior" = some none) (n4 : PySem.W.findIn K (.ref C) "prior_divisor" = some none) (n5 : PySem.W.findIn K (.ref C) "cost" = some none) (n6 : PySem.W.findIn K (.ref C) "loss0" = some none) (n7 : PySem.W.findIn K (.ref C) "loss1" = some none) : PCls K C := ⟨c, n0, n1, n2, n3, n4, n5, n6, n7⟩
/-- the dict of the calls -/
def keysOk (l : List DictEntry) : Bool := l.all fun e => match e.key with
  | .int i _ => e.hash == hashInt i
  | _ => false
theorem keysInt_of : ∀ {l : List DictEntry}, keysOk l = true → KeysInt l
  | [], _ => trivial
  | e :: l, h => by
    have h : ((match e.key with
      | .int i _ => e.hash == hashInt i
      | _ => false) && keysOk l) = true := h
    rw [Bool.and_eq_true] at h
    refine ⟨?_, keysInt_of h.2⟩
    have h1 := h.1
    cases ek : e.key with
    | int i t =>
      rw [ek] at h1
      exact ⟨i, t, rfl, eq_of_beq h1⟩
    | _ => rw [ek] at h1; cases h1
theorem kdi_of (_ : K.In h) {d tp : Addr} {i : Int} {es : Array DictEntry} {n : Nat} (l : K.lookup d = some ⟨.type "dict", none, .dict es n, #[]⟩) (k : keysOk es.toList = true) (f : findBy Value.isInt es i = some (.ref tp)) : KDi K d i (.ref tp) := ⟨es, n, _, l, keysInt_of k, f, rfl⟩
theorem sqt_of (_ : K.In h) {tp f : Addr} {n : Int} {od : Option Addr} {t : Tok} {sl : Array (Option Value)} {m : Nat} (l : K.lookup tp = some ⟨.type "tuple", od, .seq #[.int n t, .ref f] m, sl⟩) : ∀ H, SqT K H tp [.int n, .ref f] := fun H =>
  .inr ⟨_, _, _, l, rfl, rfl, (by show 2 ≤ sizeLine; decide), .cons ⟨_, rfl⟩ (.cons rfl .nil)⟩
theorem callAt_of {P : Program} {w : World} {base : Heap} {T : List NTab} {C d tp f : Addr} {i j k : Nat} {x : Str} (hk : KDi K d (i : Int) (.ref tp)) (ht : ∀ H, SqT K H tp [.int (KxH.lenOf i : Nat), .ref f]) (e : mg x = some (.ref f))
    (c : Cal0 P w K mg base j x (sp_op K T C (KxH.lenOf i) (decide (i = 0)) (KxH.reqOf i))) (hj : j ≤ k) : ∃ f sp, CallAt P w K mg base T C k d i f sp := ⟨f, _, rfl, held_of c hj e, tp, hk, ht⟩
end
end St
/-! KxI: the probabilities of all stops add up to at most 1, in whole numbers. -/
namespace KxI
open Kxd7 St KxG
def sumN : Nat → (Nat → Nat) → Nat
  | 0, _ => 0
  | n + 1, f => sumN n f + f n
theorem sumN_congr {f g : Nat → Nat} : ∀ {n : Nat}, (∀ s, s < n → f s = g s) → sumN n f = sumN n g
  | 0, _ => rfl
  | n + 1, h => by
    show sumN n f + f n = sumN n g + g n
    rw [sumN_congr fun s hs => h s (by omega), h n (by omega)]
theorem sumN_add (f g : Nat → Nat) : ∀ n, sumN n (fun s => f s + g s) = sumN n f + sumN n g
  | 0 => rfl
  | n + 1 => by
    show sumN n (fun s => f s + g s) + (f n + g n) = (sumN n f + f n) + (sumN n g + g n)
    rw [sumN_add f g n]
    omega
/-- each term goes to its own place and to the next -/
theorem sumN_shift (m w : Nat → Nat) : ∀ n, sumN (n + 1) (fun s => (match s with | 0 => m 0 | k + 1 => m (k + 1) + m k) * w s) = sumN n (fun s => m s * (w s + w (s + 1))) + m n * w n
  | 0 => by
    show 0 + m 0 * w 0 = 0 + m 0 * w 0
    rfl
  | n + 1 => by
    have ih := sumN_shift m w n
    show sumN (n + 1) (fun s => (match s with | 0 => m 0 | k + 1 => m (k + 1) + m k) * w s) + (m (n + 1) + m n) * w (n + 1) = (sumN n (fun s => m s * (w s + w (s + 1))) + m n * (w n + w (n + 1))) + m (n + 1) * w (n + 1)
    rw [ih, Nat.add_mul, Nat.mul_add]
    omega
theorem wsum_app (h x d : Nat) (g : Nat × Nat → Nat) (l m : List (Nat × Nat)) : wsum h x d g (l ++ m) = wsum h x d g l + wsum h x d g m := by
  unfold wsum
  rw [List.foldl_append]
  have key : ∀ (m : List (Nat × Nat)) (a : Nat), m.foldl (fun t z => t + g z * x ^ z.2 * (d - x) ^ (z.1 - z.2) * d ^ (h - z.1)) a = a + m.foldl (fun t z => t + g z * x ^ z.2 * (d - x) ^ (z.1 - z.2) * d ^ (h - z.1)) 0 := by
    intro m
    induction m with
    | nil => intro a; rfl
    | cons z m ih =>
      intro a
      rw [List.foldl_cons, List.foldl_cons, ih, ih (0 + _), Nat.zero_add, Nat.add_assoc]
  rw [key]
theorem wsum_one (h x d : Nat) (g : Nat × Nat → Nat) (z : Nat × Nat) : wsum h x d g [z] = g z * x ^ z.2 * (d - x) ^ (z.1 - z.2) * d ^ (h - z.1) := by
  unfold wsum
  rw [List.foldl_cons, List.foldl_nil, Nat.zero_add]
/-- the weight of a point -/
def wt (h x d n s : Nat) : Nat := x ^ s * (d - x) ^ (n - s) * d ^ (h - n)
theorem wt_split {h x d n s : Nat} (hx : x ≤ d) (hs : s ≤ n) (hn : n < h) : wt h x d (n + 1) s + wt h x d (n + 1) (s + 1) = wt h x d n s := by
  unfold wt
  have e1 : n + 1 - s = (n - s) + 1 := by omega
  have e2 : n + 1 - (s + 1) = n - s := by omega
  have e3 : h - n = (h - (n + 1)) + 1 := by omega
  rw [e1, e2, e3]
  generalize h - (n + 1) = q
  generalize n - s = r
  rw [Nat.pow_succ (d - x) r, Nat.pow_succ x s, Nat.pow_succ d q]
  have e4 : d = (d - x) + x := by omega
  generalize hX : x ^ s = A
  generalize hY : (d - x) ^ r = B
  generalize hZ : d ^ q = C
  have e5 : A * B * (C * d) = A * B * C * d := by rw [Nat.mul_assoc (A * B) C d]
  rw [e5]
  have e6 : A * (B * (d - x)) * C = A * B * C * (d - x) := by
    rw [Nat.mul_assoc A, Nat.mul_right_comm B (d - x) C, ← Nat.mul_assoc A (B * C), ← Nat.mul_assoc A B C]
  have e7 : A * x * B * C = A * B * C * x := by
    rw [Nat.mul_right_comm A x B, Nat.mul_right_comm (A * B) x C]
  rw [e6, e7, ← Nat.mul_add, ← e4]
section
variable {h : Nat} {t : List (List Nat)}
/-- a row's counts -/
def cnt (h : Nat) (t : List (List Nat)) (n s : Nat) : Nat := (pathRow (planT h t) n).getD s 0
/-- those that stop, and those that go on -/
def stp (h : Nat) (t : List (List Nat)) (n s : Nat) : Nat := if decision (planT h t) n s = 0 then 0 else cnt h t n s
def opn (h : Nat) (t : List (List Nat)) (n s : Nat) : Nat := msk (t.getD n []) (pathRow (planT h t) n) (n + 1) s
theorem opn_in {n s : Nat} (hs : s ≤ n) : opn h t n s = if decision (planT h t) n s = 0 then cnt h t n s else 0 := by
  unfold opn msk
  by_cases e : decision (planT h t) n s = 0
  · rw [if_pos ⟨by omega, e⟩, if_pos e]
    rfl
  · rw [if_neg (fun z => e z.2), if_neg e]
theorem opn_out (n : Nat) : opn h t n (n + 1) = 0 := msk_above (Nat.le_refl _)
theorem stp_opn {n s : Nat} (hs : s ≤ n) : stp h t n s + opn h t n s = cnt h t n s := by
  rw [opn_in hs]
  unfold stp
  by_cases e : decision (planT h t) n s = 0
  · rw [if_pos e, if_pos e, Nat.zero_add]
  · rw [if_neg e, if_neg e, Nat.add_zero]
theorem cnt_succ {n s : Nat} (hs : s ≤ n + 1) : cnt h t (n + 1) s = match s with | 0 => opn h t n 0 | k + 1 => opn h t n (k + 1) + opn h t n k := by
  have hl := pathRow_len h t n
  unfold cnt
  rw [pathRow_succ, ← nrow_all, List.getD_eq_getElem?_getD, nrow_get (by omega), hl]
  cases s <;> rfl
theorem open_next {x d n : Nat} (hx : x ≤ d) (hn : n < h) : sumN (n + 2) (fun s => cnt h t (n + 1) s * wt h x d (n + 1) s) = sumN (n + 1) (fun s => opn h t n s * wt h x d n s) := by
  have e1 : sumN (n + 2) (fun s => cnt h t (n + 1) s * wt h x d (n + 1) s) = sumN (n + 2) (fun s => (match s with | 0 => opn h t n 0 | k + 1 => opn h t n (k + 1) + opn h t n k) * wt h x d (n + 1) s) := sumN_congr fun s hs => by
    rw [cnt_succ (by omega)]
    cases s <;> rfl
  rw [e1, sumN_shift (opn h t n), opn_out, Nat.zero_mul, Nat.add_zero]
  exact sumN_congr fun s hs => by rw [wt_split hx (by omega) hn]
/-- the stops of a row -/
theorem row_sum (x d n : Nat) : ∀ j, wsum h x d (fun z => paths (planT h t) z.1 z.2) (rowStops (planT h t) n j) = sumN j (fun s => stp h t n s * wt h x d n s)
  | 0 => rfl
  | j + 1 => by
    rw [rowStops_succ, wsum_app, row_sum x d n j]
    show _ = sumN j _ + stp h t n j * wt h x d n j
    congr 1
    by_cases c : (decision (planT h t) n j != 0 && (pathRow (planT h t) n).getD j 0 != 0) = true
    · rw [if_pos c, wsum_one]
      rw [Bool.and_eq_true, bne_iff_ne, bne_iff_ne] at c
      unfold stp wt
      rw [if_neg c.1, Nat.mul_assoc, Nat.mul_assoc, Nat.mul_assoc]
      rfl
    · rw [if_neg c]
      show 0 = _
      unfold stp
      by_cases e : decision (planT h t) n j = 0
      · rw [if_pos e, Nat.zero_mul]
      · rw [if_neg e]
        have z : cnt h t n j = 0 := by
          refine Classical.byContradiction fun y => c ?_
          rw [Bool.and_eq_true, bne_iff_ne, bne_iff_ne]
          exact ⟨e, y⟩
        rw [z, Nat.zero_mul]
/-- what has stopped and what is open -/
theorem all_one {x d : Nat} (hx : x ≤ d) : ∀ n, n ≤ h → wsum h x d (fun z => paths (planT h t) z.1 z.2) (stopsN (planT h t) n) + sumN (n + 1) (fun s => cnt h t n s * wt h x d n s) = d ^ h
  | 0, _ => by
    show 0 + (0 + 1 * (x ^ 0 * (d - x) ^ (0 - 0) * d ^ (h - 0))) = d ^ h
    simp
  | n + 1, hn => by
    have ih := all_one hx n (by omega)
    rw [stopsN_succ, wsum_app, row_sum, open_next hx (by omega), Nat.add_assoc, ← sumN_add]
    rw [← ih]
    congr 1
    exact sumN_congr fun s hs => by rw [← Nat.add_mul, stp_opn (by omega)]
theorem stops_le {x d : Nat} (hx : x ≤ d) : wsum h x d (fun z => paths (planT h t) z.1 z.2) (stops (planT h t)) ≤ d ^ h := by
  rw [stops_eq]
  show wsum h x d _ (stopsN (planT h t) (h + 1)) ≤ _
  have e := all_one (t := t) hx h (Nat.le_refl _)
  rw [stopsN_succ, wsum_app, row_sum, ← e]
  refine Nat.add_le_add_left ?_ _
  have key : ∀ m, m ≤ h + 1 → sumN m (fun s => stp h t h s * wt h x d h s) ≤ sumN m (fun s => cnt h t h s * wt h x d h s) := by
    intro m
    induction m with
    | zero => intro _; exact Nat.le_refl _
    | succ m ih =>
      intro hm
      refine Nat.add_le_add (ih (by omega)) (Nat.mul_le_mul_right _ ?_)
      rw [← stp_opn (by omega : m ≤ h)]
      exact Nat.le_add_right _ _
  exact key _ (Nat.le_refl _)
theorem wsum_filter_le (x d : Nat) (g : Nat × Nat → Nat) (q : Nat × Nat → Bool) : ∀ l : List (Nat × Nat), wsum h x d g (l.filter q) ≤ wsum h x d g l
  | [] => Nat.le_refl _
  | z :: l => by
    have ih := wsum_filter_le x d g q l
    have e : wsum h x d g (z :: l) = wsum h x d g [z] + wsum h x d g l := wsum_app h x d g [z] l
    rw [List.filter_cons]
    by_cases c : q z = true
    · rw [if_pos c, e]
      have e2 : wsum h x d g (z :: l.filter q) = wsum h x d g [z] + wsum h x d g (l.filter q) := wsum_app h x d g [z] _
      rw [e2]
      exact Nat.add_le_add_left ih _
    · rw [if_neg c, e]
      exact Nat.le_trans ih (Nat.le_add_left _ _)
/-- an acceptance is at most 1 -/
theorem acc_le {x d : Nat} (hx : x ≤ d) : accN (planT h t) x d ≤ d ^ h := Nat.le_trans (wsum_filter_le x d _ _ _) (stops_le hx)
end
end KxI
/-! KxJ: error probabilities and the cost of a plan, over one denominator. -/
namespace KxJ
open Kxd7 KxA KxB KxC KxD St KxG
theorem one_sub {a S : Nat} (ha : a ≤ S) (hS : 0 < S) : minus (ofInt 1) (fr ((a : Rat) / (S : Rat))) = fr (((S - a : Nat) : Rat) / (S : Rat)) := by
  rw [one_minus]
  congr 1
  rw [cast_sub ha]
  have := cast_ne hS
  grind
theorem mul_div2 (a T w S : Nat) : times (fr ((a : Rat) / (T : Rat))) (fr ((w : Rat) / (S : Rat))) = fr (((a * w : Nat) : Rat) / ((T * S : Nat) : Rat)) := by
  rw [times_eq]
  congr 1
  rw [Rat.natCast_mul, Rat.natCast_mul, Rat.div_def, Rat.div_def, Rat.div_def, Rat.inv_mul_rev]
  rw [Rat.mul_assoc, Rat.mul_assoc]
  congr 1
  rw [← Rat.mul_assoc, Rat.mul_comm (T : Rat)⁻¹, Rat.mul_assoc, Rat.mul_comm (T : Rat)⁻¹]
theorem errors_eq {h : Nat} {t : List (List Nat)} {x d : Nat} (hx : x ≤ d) (hd : 0 < d) : minus (ofInt 1) (acceptance (planT h t) (share x d)) = fr (((d ^ h - accN (planT h t) x d : Nat) : Rat) / ((d ^ h : Nat) : Rat)) := by
  rw [acc_eq (planT h t) hx hd]
  exact one_sub (KxI.acc_le hx) (Nat.pow_pos hd)
/-- the cost of a plan, times what makes it whole -/
def costN (b : PB) (h : Nat) (t : List (List Nat)) : Nat :=
  (b.pd - b.pr) * (b.c * sizeN (planT h t) b.p0 b.d + b.l0 * (b.d ^ h - accN (planT h t) b.p0 b.d)) + b.pr * (b.c * sizeN (planT h t) b.p1 b.d + b.l1 * accN (planT h t) b.p1 b.d)
theorem planCost_eq {b : PB} (ok : PBOk b) (h : Nat) (t : List (List Nat)) : planCost (prob b) (planT h t) = fr ((costN b h t : Rat) / ((b.pd * b.d ^ h : Nat) : Rat)) := by
  have hd : 0 < b.d := by have := ok.p01; have := ok.p1; omega
  have h0 : b.p0 ≤ b.d := by have := ok.p01; have := ok.p1; omega
  have h1 : b.p1 ≤ b.d := by have := ok.p1; omega
  have hD : 0 < b.d ^ h := Nat.pow_pos hd
  have e : planCost (prob b) (planT h t) = plus (times (minus (ofInt 1) (share b.pr b.pd)) (plus (times (ofNat b.c) (expectedSize (planT h t) (share b.p0 b.d))) (times (ofNat b.l0) (minus (ofInt 1) (acceptance (planT h t) (share b.p0 b.d))))))
      (times (share b.pr b.pd) (plus (times (ofNat b.c) (expectedSize (planT h t) (share b.p1 b.d))) (times (ofNat b.l1) (acceptance (planT h t) (share b.p1 b.d))))) := rfl
  rw [e, errors_eq h0 hd, sizeE_eq (planT h t) h0 hd, sizeE_eq (planT h t) h1 hd, acc_eq (planT h t) h1 hd, share_eq, one_sub ok.pr ok.pd1]
  show plus (times _ (plus (times (ofNat b.c) (fr (_ / ((b.d ^ h : Nat) : Rat)))) (times (ofNat b.l0) (fr (_ / ((b.d ^ h : Nat) : Rat)))))) (times _ (plus (times (ofNat b.c) (fr (_ / ((b.d ^ h : Nat) : Rat)))) (times (ofNat b.l1) (fr (_ / ((b.d ^ h : Nat) : Rat)))))) = _
  rw [scaled, scaled, scaled, scaled, add_div, add_div, mul_div2, mul_div2, add_div]
  rfl
end KxJ
/-! KxK: weighted sums over stops; what isn't accepted is rejected. -/
namespace KxK
open Kxd7 St KxG KxI KxF
theorem wsum_cons (h x d : Nat) (g : Nat × Nat → Nat) (z : Nat × Nat) (l : List (Nat × Nat)) : wsum h x d g (z :: l) = g z * x ^ z.2 * (d - x) ^ (z.1 - z.2) * d ^ (h - z.1) + wsum h x d g l := by
  have e : wsum h x d g (z :: l) = wsum h x d g [z] + wsum h x d g l := wsum_app h x d g [z] l
  rw [e, wsum_one]
theorem wsum_congr (h x d : Nat) {g g' : Nat × Nat → Nat} : ∀ {l : List (Nat × Nat)}, (∀ z ∈ l, g z = g' z) → wsum h x d g l = wsum h x d g' l
  | [], _ => rfl
  | z :: l, e => by rw [wsum_cons, wsum_cons, e z (.head _), wsum_congr h x d fun y hy => e y (.tail _ hy)]
/-- a weight of 0 or 1 picks -/
theorem wsum_pick (h x d : Nat) (g : Nat × Nat → Nat) (q : Nat × Nat → Bool) : ∀ l : List (Nat × Nat), wsum h x d (fun z => (if q z = true then 1 else 0) * g z) l = wsum h x d g (l.filter q)
  | [] => rfl
  | z :: l => by
    rw [wsum_cons, wsum_pick h x d g q l, List.filter_cons]
    by_cases e : q z = true
    · rw [if_pos e, if_pos e, wsum_cons, Nat.one_mul]
    · rw [if_neg e, if_neg e]
      simp
theorem wsum_add (h x d : Nat) (f g : Nat × Nat → Nat) : ∀ l : List (Nat × Nat), wsum h x d (fun z => f z + g z) l = wsum h x d f l + wsum h x d g l
  | [] => rfl
  | z :: l => by
    rw [wsum_cons, wsum_cons, wsum_cons, wsum_add h x d f g l]
    have e : (f z + g z) * x ^ z.2 * (d - x) ^ (z.1 - z.2) * d ^ (h - z.1) = f z * x ^ z.2 * (d - x) ^ (z.1 - z.2) * d ^ (h - z.1) + g z * x ^ z.2 * (d - x) ^ (z.1 - z.2) * d ^ (h - z.1) := by
      rw [Nat.add_mul, Nat.add_mul, Nat.add_mul]
    rw [e]
    omega
theorem wsum_mul (h x d c : Nat) (g : Nat × Nat → Nat) : ∀ l : List (Nat × Nat), wsum h x d (fun z => c * g z) l = c * wsum h x d g l
  | [] => rfl
  | z :: l => by
    rw [wsum_cons, wsum_cons, wsum_mul h x d c g l, Nat.mul_add]
    congr 1
    rw [Nat.mul_assoc c, Nat.mul_assoc c, Nat.mul_assoc c]
/-- what the program adds up for a decision -/
def decN (p : Plan) (x d k : Nat) : Nat := wsum p.horizon x d (fun z => paths p z.1 z.2) ((stops p).filter fun z => decision p z.1 z.2 == k)
theorem decN_one (p : Plan) (x d : Nat) : decN p x d 1 = accN p x d := rfl
section
variable {h : Nat} {t : List (List Nat)}
/-- the probabilities of all stops add up to 1 -/
theorem stops_all (g : GoodT h t) {x d : Nat} (hx : x ≤ d) : wsum h x d (fun z => paths (planT h t) z.1 z.2) (stops (planT h t)) = d ^ h := by
  rw [stops_eq]
  show wsum h x d _ (stopsN (planT h t) (h + 1)) = _
  have e := all_one (t := t) hx h (Nat.le_refl _)
  rw [stopsN_succ, wsum_app, row_sum, ← e]
  congr 1
  refine sumN_congr fun s hs => ?_
  have hd : decision (planT h t) h s ≠ 0 := by
    obtain ⟨r, hr⟩ : ∃ r, t[h]? = some r := ⟨_, List.getElem?_eq_getElem (by rw [g.len]; omega)⟩
    have hl := g.tri h r hr
    have e1 : decision (planT h t) h s = r[s]'(by omega) := by
      show (t.getD h []).getD s 1 = _
      rw [List.getD_eq_getElem?_getD (l := t), hr]
      show r.getD s 1 = _
      rw [List.getD_eq_getElem?_getD, List.getElem?_eq_getElem (by omega)]
      rfl
    rw [e1]
    exact g.fin r hr _ (List.getElem_mem _)
  unfold stp
  rw [if_neg hd]
theorem dec_le (g : GoodT h t) (n s : Nat) : decision (planT h t) n s ≤ 2 := by
  show (t.getD n []).getD s 1 ≤ 2
  rw [List.getD_eq_getElem?_getD (l := t)]
  cases e : t[n]? with
  | none => show ([] : List Nat).getD s 1 ≤ 2; simp
  | some r =>
    show r.getD s 1 ≤ 2
    rw [List.getD_eq_getElem?_getD]
    cases e2 : r[s]? with
    | none => decide
    | some y => exact g.le2 r (List.mem_of_getElem? e) y (List.mem_of_getElem? e2)
theorem stops_dec {p : Plan} : ∀ z ∈ stops p, decision p z.1 z.2 ≠ 0 := fun z hz => by
  unfold stops at hz
  obtain ⟨n, hn, hz⟩ := List.mem_flatMap.mp hz
  simp only [List.mem_map, List.mem_filter, List.mem_range, Bool.and_eq_true, bne_iff_ne] at hz
  obtain ⟨s, ⟨hs, hd⟩, e⟩ := hz
  rw [← e]
  exact hd.1
/-- what isn't accepted is rejected -/
theorem rej_eq (g : GoodT h t) {x d : Nat} (hx : x ≤ d) : decN (planT h t) x d 2 = d ^ h - accN (planT h t) x d := by
  have key : accN (planT h t) x d + decN (planT h t) x d 2 = d ^ h := by
    rw [← stops_all g hx]
    unfold accN decN
    rw [← wsum_pick, ← wsum_pick, ← wsum_add]
    refine wsum_congr _ _ _ fun z hz => ?_
    have h0 := stops_dec z hz
    have h2 := dec_le g z.1 z.2
    generalize decision (planT h t) z.1 z.2 = k at *
    have hk : k = 1 ∨ k = 2 := by omega
    rcases hk with rfl | rfl <;> simp
  omega
end
end KxK
set_option Elab.async false
set_option linter.all false
set_option maxRecDepth 100000
set_option maxHeartbeats 2000000
/-! W26: a lambda with parameters, handed on to another def that calls it; the captured cells are known while it runs. -/
namespace St
open PySem PySem.Spec PyProof.Rows L2 NdefX LamX
/-- a lambda's words: as a nested def's, its body apart -/
structure LF where
  qual : Str
  params : Arguments
  body : Expr
  scope : Scope
  cl : List (Str × Addr)
  c : Addr
abbrev LF.fd (F : LF) (pm ctv : Value) : FuncData := PySem.W.kla_fn "<lambda>" F.qual F.params F.body F.scope F.cl pm (.ref F.c) ctv
abbrev LF.nf (F : LF) : NF := ⟨"<lambda>", F.qual, F.params, [], F.scope, F.cl, F.c⟩
/-- the object at f is the lambda F -/
def LamO (f : Addr) (F : LF) : HO := .ext fun h => ∃ (od : Option Addr) (sl : Array (Option Value)) (pm ctv : Value), h.get? f = some (⟨.type "function", od, .func (F.fd pm ctv), sl⟩ : Obj)
theorem lamO_ne {f : Addr} {F : LF} (ps : Array Value) : LamO f F ≠ .tbl ps := fun z => by
  unfold LamO at z
  cases z
theorem lamO_at {P : Program} {w : World} {H : Hp} {h : Heap} {f : Addr} {F : LF} (hok : HOk P w H h) (e : H f = some (LamO f F)) : ∃ (od : Option Addr) (sl : Array (Option Value)) (pm ctv : Value), h.get? f = some (⟨.type "function", od, .func (F.fd pm ctv), sl⟩ : Obj) := by
  obtain ⟨z, _, _⟩ := hok f _ e
  exact z
section
variable {X : Cx} {pins : List (Addr × Obj)} {σ : L2.St} {H : Hp} {s : Shared}
theorem inv_lam {F : LF} {o : Obj} {t' : Nat} {pm ctv : Value} (I : Inv X pins σ H s) (ho : o = { cls := .type "function", data := .func (F.fd pm ctv) }) :
    Inv X pins σ (upd H s.heap.objs.size (LamO s.heap.objs.size F)) { s with heap := s.heap.push o, toks := t' } := by
  subst ho
  refine I.laid (a := s.heap.objs.size) (fun b u e => Heap.get?_push_of_some _ e) (Nat.le_refl _) ?_
  have e : (s.heap.push ({ cls := .type "function", data := .func (F.fd pm ctv) } : Obj)).get? s.heap.objs.size = some ({ cls := .type "function", data := .func (F.fd pm ctv) } : Obj) := Heap.get?_push_size _ rfl
  exact ⟨⟨_, _, pm, ctv, e⟩, ⟨_, e⟩, fun h1 h2 ⟨od, sl, p, t, z⟩ st => ⟨od, sl, p, t, st _ z⟩⟩
/-- the lambda's object is made: its code object is new, or found in the table -/
theorem lam_makeV {T : List NTab} {nm : Nat → Nat → Str} {c P : Addr} {params : Arguments} {body : Expr} {scope : Scope} {pos : Pos} {E : Value → Shared → Prop} {Q : Value → Shared → Prop} (I : Inv X pins σ H s) (TB : TabB X.base X.mg c P) (hcode : X.env.code = .ref c)
    (hm : (P, nm) ∈ T) (hn : nm pos.line pos.col = X.env.qual ++ "<lambda>") (hu : ∀ p ∈ T, p.1 = P → p.2 = nm) (hT : TabsN T H) (hfree : ∀ y ∈ scope.names, y.2 = .free → ∃ c, X.env.cells.lookup y.1 = some c)
    (h : ∀ (f c' : Addr) (H1 : Hp) (s' : Shared), Inv X pins σ H1 s' → ExtN H H1 → (∀ b, H1 b = Option.none → H b = Option.none) → TabsN T H1 → H f = none → H1 f = some (LamO f ⟨X.env.qual ++ "<lambda>", params, body, scope, cloFrom X.env.cells scope.names [], c'⟩) → H1 c' = some (CodeO c' (X.env.qual ++ "<lambda>")) → Q (.ref f) s') :
    wpAny (model X.prog X.w) X.A (makeFunction "<lambda>" (X.env.qual ++ "<lambda>") params (.expr body) scope X.env [] [] [] pos pos.line) Q E s := by
  obtain ⟨ps, hP, ht, ha⟩ := (show TabN H P nm from hT _ hm)
  have bP : s.heap.BuiltinsAt X.mg P := TB.bm.keeps I.bk
  have hP' : s.heap.get? P = some { cls := .none, data := .fields ps } := I.hok P _ hP
  cases hc : codeAmong pos ps.toList with
  | none =>
    refine PySem.W.kla_makeFunction (mg := X.mg) (c := c) (P := P) (ps := ps) (closure_ok hfree) I.ok.glob (I.mod.glob.keeps I.bk) hcode (TB.code.keeps I.bk) hP' ht hc TB.gP bP fun c' ctv h' tk hx hge hlt hrec htb => ?_
    obtain ⟨c2, oc, vs, t, e2, hoc, hd, hv⟩ := hrec
    cases e2
    have nC : H c' = none := I.hok.fresh hge
    have I1 := inv_table (t' := tk) (more := #[rawInt pos.line, rawInt pos.col, .ref c']) (h' := h') I hP (fun b o hb e => hx b o hb e) htb hge ⟨oc, vs, t, hoc, hd, hv⟩
    have hE : ExtN H (upd (upd H P (.tbl (ps ++ #[rawInt pos.line, rawInt pos.col, .ref c']))) c' (CodeO c' (X.env.qual ++ "<lambda>"))) := fun b o e n => by
      rw [upd_ne (ne_of_none e nC), upd_ne (fun z => n ps (Option.some.inj (e.symm.trans (by rw [z]; exact hP))))]
      exact e
    have eL : (ps ++ #[rawInt pos.line, rawInt pos.col, .ref c']).toList = ps.toList ++ [rawInt pos.line, rawInt pos.col, .ref c'] := by simp
    have T1 : TabsN T (upd (upd H P (.tbl (ps ++ #[rawInt pos.line, rawInt pos.col, .ref c']))) c' (CodeO c' (X.env.qual ++ "<lambda>"))) := fun p hp => by
      by_cases hb : p.1 = P
      · rw [hu p hp hb, hb]
        refine ⟨_, by rw [upd_ne (ne_of_none hP nC), upd_same], by rw [eL]; exact PySem.TriplesOk_snoc _ _ _ _ ht, fun p' cv hcv => ?_⟩
        rw [eL] at hcv
        rcases among_app2 _ ht hcv with z | ⟨z, z1, z2⟩
        · obtain ⟨c0, e1, e2⟩ := ha p' cv z
          exact ⟨c0, e1, hE _ _ e2 codeO_ne⟩
        · refine ⟨c', z, ?_⟩
          rw [← z1, ← z2, hn]
          exact upd_same
      · obtain ⟨ps', a1, a2, a3⟩ := hT p hp
        refine ⟨ps', by rw [upd_ne (ne_of_none a1 nC), upd_ne hb]; exact a1, a2, fun p' cv hcv => ?_⟩
        obtain ⟨c0, e1, e2⟩ := a3 p' cv hcv
        exact ⟨c0, e1, hE _ _ e2 codeO_ne⟩
    have nF := I1.hok.fresh (Nat.le_refl _)
    have I2 := inv_lam (F := ⟨X.env.qual ++ "<lambda>", params, body, scope, cloFrom X.env.cells scope.names [], c'⟩) (t' := tk) (pm := (X.mg "__name__").getD .none) (ctv := ctv) I1 rfl
    refine h h'.objs.size c' _ _ I2 (fun b o e n => ?_) (fun b e => upd_none (upd_none (upd_none e))) (T1.ext fun b o e => ?_) (I.hok.fresh (Nat.le_trans hge (Nat.le_of_lt hlt))) upd_same ?_
    · have e1 := hE b o e n
      exact (upd_ne (ne_of_none e1 nF)).trans e1
    · exact (upd_ne (ne_of_none e nF)).trans e
    · exact (upd_ne (Nat.ne_of_lt hlt)).trans upd_same
  | some cv =>
    obtain ⟨c', e, hco⟩ := ha pos cv hc
    subst e
    rw [hn] at hco
    refine PySem.W.kla_makeFunctionHit (mg := X.mg) (c := c) (P := P) (ps := ps) (closure_ok hfree) I.ok.glob (I.mod.glob.keeps I.bk) hcode (TB.code.keeps I.bk) hP' ht hc bP fun ctv h' tk hx hsz => ?_
    have I1 : Inv X pins σ H { s with heap := h', toks := tk } := I.kept hx
    have nF : H h'.objs.size = none := I1.hok.fresh (Nat.le_refl _)
    have I2 := inv_lam (F := ⟨X.env.qual ++ "<lambda>", params, body, scope, cloFrom X.env.cells scope.names [], c'⟩) (t' := tk) (pm := (X.mg "__name__").getD .none) (ctv := ctv) I1 rfl
    refine h h'.objs.size c' _ _ I2 (fun b o e n => ?_) (fun b e => upd_none e) (hT.ext fun b o e => ?_) nF upd_same ?_
    · exact (upd_ne (ne_of_none e nF)).trans e
    · exact (upd_ne (ne_of_none e nF)).trans e
    · exact (upd_ne (ne_of_none hco nF)).trans hco
end
/-! ### the expression -/
def lamArgs : Expr → Arguments
  | .Lambda a _ _ _ => a
  | _ => ⟨[], [], none, [], [], none, []⟩
def lamBody : Expr → Expr
  | .Lambda _ b _ _ => b
  | e => e
def lamScope : Expr → Scope
  | .Lambda _ _ s _ => s
  | _ => default
def lamPos : Expr → Pos
  | .Lambda _ _ _ p => p
  | _ => ⟨0, 0, 0, 0⟩
def LF.of (e : Expr) (qual : Str) (cl : List (Str × Addr)) (c : Addr) : LF := ⟨qual, lamArgs e, lamBody e, lamScope e, cl, c⟩
def tLamV (T : List NTab) (mk : Addr → LF) : TE := fun _ H Q => TabsN T H ∧ ∀ (f c' : Addr) (H1 : Hp), ExtN H H1 → (∀ b, H1 b = Option.none → H b = Option.none) → TabsN T H1 → H f = none → H1 f = some (LamO f (mk c')) → H1 c' = some (CodeO c' (mk c').qual) → Q (.ref f) H1
theorem pe_lamV {X : Cx} {e : Expr} {T : List NTab} {nm : Nat → Nat → Str} {c P : Addr} (he : e = .Lambda (lamArgs e) (lamBody e) (lamScope e) (lamPos e)) (TB : TabB X.base X.mg c P) (hcode : X.env.code = .ref c) (hm : (P, nm) ∈ T) (hn : nm (lamPos e).line (lamPos e).col = X.env.qual ++ "<lambda>")
    (hu : ∀ p ∈ T, p.1 = P → p.2 = nm) (hfree : ∀ y ∈ (lamScope e).names, y.2 = .free → X.env.scope.names.lookup y.1 = some .cell ∨ X.env.scope.names.lookup y.1 = some .free) (hdef : defaultsOf (lamArgs e) X.env = ([], [])) :
    PE X e (tLamV T (LF.of e (X.env.qual ++ "<lambda>") (cloFrom X.env.cells (lamScope e).names []))) := by
  refine ⟨fun pins s σ H Q I h => ?_⟩
  obtain ⟨hT, h⟩ := h
  have hfr : ∀ y ∈ (lamScope e).names, y.2 = .free → ∃ c, X.env.cells.lookup y.1 = some c := fun y hy z => (hfree y hy z).elim (fun z => I.ok.has _ (.inl z)) fun z => I.ok.has _ (.inr z)
  have key : wpAny (model X.prog X.w) X.A (eval (.Lambda (lamArgs e) (lamBody e) (lamScope e) (lamPos e)) X.env) (EP X pins σ Q) X.xe s := by
    refine PySem.W.kla_eval hdef ?_
    exact lam_makeV I TB hcode hm hn hu hT hfr fun f c' H1 s' I1 eN nn T1 f0 f1 c1 => ⟨.ref f, H1, I1, rfl, h f c' H1 eN nn T1 f0 f1 c1⟩
  rw [← he] at key
  exact key
/-! ### what it promises -/
structure LOk (P : Program) (w : World) (K : PySem.W.Frag) (mg : Str → Option Value) (base : Heap) (CX : CXT) (k : Nat) (f : Addr) (F : LF) (ps fr : List Str) (sp : List (Option V) → Sp) : Prop where
  len : ∀ ws vs H Q E, sp ws vs H Q E → vs.length = ps.length
  run : ∀ (A : Around) (outer : List Env) (s : Shared) (H : Hp) (us : List Value) (vs : List V) (ws : List (Option V)) (Q : VK) (E : XK), Room k A → Env0 P w K mg base A outer s H → H f = some (LamO f F) → H F.c = some (CodeO F.c F.qual) →
    CellsAt F.cl fr ws s.heap H → Vals vs us → sp ws vs H Q E → codeAny (model P w) A (.call (.ref f) ⟨us, []⟩) (CR CX outer P w H s Q E) s
section
variable {CX : CXT} {P : Program} {w : World} {K : PySem.W.Frag} {mg : Str → Option Value} {base : Heap} {N ps fr : List Str} {F : LF} {f : Addr} {k j : Nat} {sp : List (Option V) → Sp}
theorem lok_of (S : NScope N ps fr F.scope) (hb : ∀ (pm ctv : Value) (us : List Value), us.length = ps.length → bindArgs (F.fd pm ctv) ⟨us, []⟩ = pure (ps.zip us)) (len : ∀ ws vs H Q E, sp ws vs H Q E → vs.length = ps.length)
    (hbody : ∀ (A : Around) (outer : List Env) (s : Shared) (H : Hp) (vs : List V) (ws : List (Option V)) (Q : VK) (E : XK), Room k (A.deeper (envF F.nf f s.heap.objs.size)) → ws.length = fr.length → sp ws vs H Q E →
      ∃ t, PE (ncx CX P w K mg base N F.nf f A outer s H E) F.body t ∧ t (startF N vs ws) H Q) :
    LOk P w K mg base CX (k + 1) f F ps fr sp := by
  refine ⟨len, fun A outer s H us vs ws Q E hr e0 hf hc C r hsp => ?_⟩
  have hl := len _ _ _ _ _ hsp
  have lim : s.heap.NoLimit := e0.mod.nolimit.keeps fun b o e => (e0.bs b o e).1
  obtain ⟨od, sl, pm, ctv, ho⟩ := lamO_at e0.hok hf
  refine PySem.W.kla_callFunE hr.depth ho rfl S.co S.gen rfl (codeO_at e0.hok hc) ?_
  rw [hb pm ctv us (by rw [← r.length]; exact hl)]
  refine wpAny_pure (wpAny_newFunctionEnv S.nocell (fun ⟨n, _⟩ hy => S.par n (List.of_mem_zip hy).1) (fun h₁ hns hsb => ⟨lim.fresh _ hsb, ?_⟩) S.kind)
  show codeAny _ _ (.expr F.body (envF F.nf f s.heap.objs.size)) _ _
  have kp : ∀ b o, s.heap.get? b = some o → h₁.get? b = some o := fun b o e => hsb.extBut b o (Nat.ne_of_lt (Heap.lt_size e)) (Heap.get?_push_of_some _ e)
  obtain ⟨t, ht, hq⟩ := hbody A outer s H vs ws Q E (hr.deeper _) C.len hsp
  have I : Inv (ncx CX P w K mg base N F.nf f A outer s H E) [] (startF N vs ws) H { s with heap := h₁, toks := s.toks + (ps.zip us).length } := inv_startN S hr.hd e0 hl r C hns kp
  refine PySem.W.kla_codeExpr (wpAny_mono (ht.run [] _ (startF N vs ws) H Q I hq) (fun v s' hs => ?_) fun e s' hs => hs)
  obtain ⟨w', H', J, rv, q⟩ := hs
  exact ⟨w', H', J.os, J.bare, J.base, J.hok, rv, q⟩
end
/-- what must be known of the heap to call it -/
def KeptL (f : Addr) (F : LF) (L H : Hp) : Prop := H f = some (LamO f F) ∧ H F.c = some (CodeO F.c F.qual) ∧ ∀ b o, L b = some o → H b = some o
theorem cloL_of {P : Program} {w : World} {K : PySem.W.Frag} {mg : Str → Option Value} {base : Heap} {k : Nat} {f : Addr} {F : LF} {ps fr : List Str} {sp : List (Option V) → Sp} {wv : List V} {L : Hp} {G : Hp → Prop} {spc : Sp}
    (Fn : LOk P w K mg base C8.CX0 k f F ps fr sp) (C : CellsT F.cl fr wv L) (hG : ∀ H, G H → KeptL f F L H)
    (hf : ∀ b o, L b = some o → b ≠ f ∧ b ≠ F.c)
    (hs : ∀ vs H Q, G H → spc vs H Q (fun _ _ _ => False) → sp (wv.map some) vs (under L H) (fun v H' => Q v (over L H')) (fun _ _ _ => False)) : CloOk P w K mg base k f G spc := by
  refine ⟨fun H h ok g => ?_, fun A outer s H us vs Q hr e0 g r q => ?_⟩
  · obtain ⟨od, sl, pm, ctv, ho⟩ := lamO_at ok (hG H g).1
    exact ⟨_, od, _, sl, ho⟩
  · obtain ⟨h1, h2, h3⟩ := hG H g
    have nl : ∀ a, (∀ b o, L b = some o → b ≠ a) → L a = none := fun a z => by
      cases q : L a with
      | none => rfl
      | some o => exact absurd rfl (z a o q)
    refine codeAny_mono (Fn.run A outer s (under L H) us vs (wv.map some) _ _ hr (env0_under C h3 e0) ?_ ?_ (cellsAt_of C h3 e0.hok) r (hs vs H Q g q)) fun r' s' hq => ?_
    · rw [under_none (nl f fun b o e => (hf b o e).1)]
      exact h1
    · rw [under_none (nl F.c fun b o e => (hf b o e).2)]
      exact h2
    · cases r' with
      | error e => exact hq
      | ok fl =>
        cases fl with
        | ret u => exact ce_over C h3 e0 hq
        | next => exact hq
        | brk => exact hq
        | cont => exact hq
end St
set_option Elab.async false
set_option linter.all false
set_option maxRecDepth 100000
set_option maxHeartbeats 2000000
set_option exponentiation.threshold 100000
/-! W25: expected values over the stops of a plan: what each stop is worth is told by a function. -/
namespace St
open PySem PySem.Spec PyProof.Rows L2 NdefX LamX KxF
theorem wsum_snoc (h x d : Nat) (g : Nat × Nat → Nat) (l : List (Nat × Nat)) (z : Nat × Nat) : KxG.wsum h x d g (l ++ [z]) = KxG.wsum h x d g l + g z * x ^ z.2 * (d - x) ^ (z.1 - z.2) * d ^ (h - z.1) := by
  unfold KxG.wsum
  rw [List.foldl_append]
  rfl
theorem pows_int {b m i : Nat} (h : i < m) : (pows (b : Int) m)[i]? = some (V.int ((b ^ i : Nat) : Int)) := by
  rw [pows_get h, Int.natCast_pow]
theorem StAt.kp {T : List NTab} {H H' : Hp} {C I : Addr} {s : Kxd7.State} {X : Addr → Prop} (S : StAt H C I s X) (k : Kp T H H') : StAt H' C I s X := by
  cases S with
  | none dx h => exact .none dx (k.ins h)
  | some p => exact .some ⟨let ⟨dx, h⟩ := p.ins; ⟨dx, k.ins h⟩, k.rows p.rows, p.good⟩
theorem Aft.kp {T : List NTab} {C I : Addr} {H H' : Hp} {X : Addr → Prop} {s : Kxd7.State} (S : StAt H C I s X) (k : Kp T H H') : Aft T C I H H' X s :=
  ⟨⟨X, S.kp k, fun _ h => .inl h⟩, fun b o e _ t => k.ext b o e t, k.tab, k.non⟩
/-- what a stop's worth is, as a function promises it -/
def spw (W : Nat → Nat → Nat) (h : Nat) : Sp := fun vs H Q _ => ∃ n e : Nat, vs = [.int n, .int e] ∧ n ≤ h ∧ e ≤ 2 ∧ Q (.int (W n e)) H
/-- the expected worth, times the horizon's denominator -/
def totN (W : Nat → Nat → Nat) (p : Kxd7.Plan) (x d : Nat) : Nat := KxG.wsum p.horizon x d (fun z => W z.1 (Kxd7.decision p z.1 z.2) * Kxd7.paths p z.1 z.2) (Kxd7.stops p)
/-- what is asked of the arguments -/
structure TotA (P : Program) (w : World) (K : PySem.W.Frag) (mg : Str → Option Value) (base : Heap) (H : Hp) (a f : Addr) (rs : List Addr) (t : List (List Nat)) (h x d : Nat) (W : Nat → Nat → Nat) : Prop where
  rows : RowsAt H a rs t
  good : GoodT h t
  hx : x ≤ d
  hd1 : 1 ≤ d
  hd : d ≤ 1000
  small : ∀ n e, n ≤ h → e ≤ 2 → W n e < 2 ^ 20
  clo : ∃ G : Hp → Prop, G H ∧ (∀ H1 H2, G H1 → Same H1 H2 → G H2) ∧ CloOk P w K mg base 2 f G (spw W h)
theorem TotA.same {P : Program} {w : World} {K : PySem.W.Frag} {mg : Str → Option Value} {base : Heap} {H H' : Hp} {a f : Addr} {rs : List Addr} {t : List (List Nat)} {h x d : Nat} {W : Nat → Nat → Nat} (A : TotA P w K mg base H a f rs t h x d W) (s : Same H H') : TotA P w K mg base H' a f rs t h x d W :=
  ⟨A.rows.same s, A.good, A.hx, A.hd1, A.hd, A.small, let ⟨G, h1, h2, h3⟩ := A.clo; ⟨G, h2 _ _ h1 s, h2, h3⟩⟩
section
variable {P : Program} {w : World} {K : PySem.W.Frag} {mg : Str → Option Value} {base : Heap}
def sp_expected_total (P : Program) (w : World) (K : PySem.W.Frag) (mg : Str → Option Value) (base : Heap) : Sp := fun vs H Q _ => ∃ (a f : Addr) (rs : List Addr) (t : List (List Nat)) (h x d : Nat) (W : Nat → Nat → Nat), vs = [.ref a, .int x, .int d, .ref f] ∧ TotA P w K mg base H a f rs t h x d W ∧
  ∀ H', Same H H' → Q (.int (totN W (planT h t) x d : Nat)) H'
theorem c_expected_total (gl : Glb mg) (F : DefB K mg "expected_total" s_expected_total ["rows", "p", "divisor", "worth"]) (c1 : Cal0 P w K mg base 1 "powers" sp_powers) (c2 : Cal0 P w K mg base 4 "stops" sp_stops) :
    Cal0 P w K mg base 5 "expected_total" (sp_expected_total P w K mg base) := by
  obtain ⟨fa, fd, F, b⟩ := F.ex
  refine C8.cal0 F b .nil (C8.fnScope_by (N := ["rows", "p", "divisor", "worth", "horizon", "success", "failure", "scale", "total", "n", "s", "decision", "count"]) (by decide +kernel)) (fun vs H Q E h => ?_) (fun cdv A outer s H vs Q E hr h => ?_)
  · obtain ⟨_, _, _, _, _, _, _, _, rfl, _⟩ := h
    rfl
  · obtain ⟨a, f, rs, t, h, x, d, W, rfl, TA, k⟩ := h
    have nd : (["rows", "p", "divisor", "worth", "horizon", "success", "failure", "scale", "total", "n", "s", "decision", "count"] : List Str).Nodup := by decide +kernel
    have hz := sizeLine_eq
    have R := TA.rows
    have ht := TA.good.len
    have hh := TA.good.h20
    have tri := TA.good.tri
    have hx := TA.hx
    have hd1 := TA.hd1
    have hd := TA.hd
    refine ⟨_, C8.pss_cut (ps_set (i := 4) nd rfl (.inl rfl) (pe_op op_sub (pe_callB call_len_seq (by rfl) gl.len PySem.boot_len (pa_cons (pv 0) pa_nil)) pe_int))
      (pss_cons (ps_set (i := 5) nd rfl (.inl rfl) (C8.pe_c c1 hr (by decide) rfl (pa_cons (pv 1) (pa_cons (pv 4) pa_nil))))
      (pss_cons (ps_set (i := 6) nd rfl (.inl rfl) (C8.pe_c c1 hr (by decide) rfl (pa_cons (pe_op op_sub (pv 2) (pv 1)) (pa_cons (pv 4) pa_nil))))
      (pss_cons (ps_set (i := 7) nd rfl (.inl rfl) (C8.pe_c c1 hr (by decide) rfl (pa_cons (pv 2) (pa_cons (pv 4) pa_nil))))
      (pss_cons (ps_set (i := 8) nd rfl (.inl rfl) pe_int)
      (pss_cons (ps_for PassesOwn.never rfl (pi_list (C8.pe_c c2 hr (by decide) rfl (pa_cons (pv 0) pa_nil))) (pg_tup rfl (pgs_cons (pg_name (i := 9) nd rfl (.inl rfl)) (pgs_cons (pg_name (i := 10) nd rfl (.inl rfl)) (pgs_cons (pg_name (i := 11) nd rfl (.inl rfl)) (pgs_cons (pg_name (i := 12) nd rfl (.inl rfl)) pgs_nil)))))
        (pss_one (ps_aug (i := 8) nd rfl (.inl rfl) (pe_op op_mulW (pe_op op_mulW (pe_op op_mulW (pe_op op_mulW
          (pe_clo (P := P) (w := w) (K := K) (mg := mg) (base := base) rfl rfl rfl rfl rfl (i := 3) (k := 2) hr (by decide) rfl (by first | exact Or.inl rfl | exact Or.inr (Or.inl rfl) | exact Or.inr (Or.inr rfl)) (pa_cons (pv 9) (pa_cons (pv 11) pa_nil)))
          (pv 12)) (pe_ix ix_list (pv 5) (pv 10) (fun _ _ => rfl))) (pe_ix ix_list (pv 6) (pe_op op_sub (pv 9) (pv 10)) (fun _ _ => rfl))) (pe_ix ix_list (pv 7) (pe_op op_sub (pv 4) (pv 9)) (fun _ _ => rfl))) ip_add)))
      (pss_one (ps_ret (pv 8)))))))), ?_⟩
    have e1 : (((rs.map V.ref).length : Nat) : Int) - 1 = (h : Int) := by
      rw [List.length_map, R.len, ht]
      omega
    have e2 : (d : Int) - (x : Int) = ((d - x : Nat) : Int) := by omega
    refine ⟨fun σ' H' => σ' = [some (.ref a), some (.int x), some (.int d), some (.ref f), some (.int (h : Nat)), none, none, none, none, none, none, none, none] ∧ H' = H, ⟨_, rfl, a, _, rfl, .inl (SqL.of R.at_), _, _, rfl, rfl, ?_⟩, ?_⟩
    · refine ⟨?_, rfl⟩
      rw [← e1]
      rfl
    rintro σ' H' ⟨rfl, rfl⟩
    refine ⟨_, rfl, _, rfl, (x : Int), h, rfl, by omega, by omega, fun H1 p1 N1 => ?_⟩
    refine ⟨_, rfl, _, rfl, _, _, rfl, rfl, _, rfl, ((d - x : Nat) : Int), h, ?_, by omega, by omega, fun H2 p2 N2 => ?_⟩
    · show [V.int ((d : Int) - (x : Int)), V.int (h : Int)] = _
      rw [e2]
    refine ⟨_, rfl, _, rfl, (d : Int), h, rfl, by omega, by omega, fun H3 p3 N3 => ?_⟩
    have s3 := (N1.same.trans N2.same).trans N3.same
    refine ⟨_, rfl, a, rs, t, h, rfl, R.same s3, ht, hh, tri, fun H4 q ts s4 hq Z => ?_⟩
    have P1 : H4 p1 = some (.lst (pows (x : Int) (h + 1))) := s4 _ _ (N3.same _ _ (N2.same _ _ N1.at_))
    have P2 : H4 p2 = some (.lst (pows ((d - x : Nat) : Int) (h + 1))) := s4 _ _ (N3.same _ _ N2.at_)
    have P3 : H4 p3 = some (.lst (pows (d : Int) (h + 1))) := s4 _ _ N3.at_
    obtain ⟨G, hG, mono, clo⟩ := TA.clo
    have hG4 := mono _ _ hG (s3.trans s4)
    refine ⟨q, rfl, ⟨_, SqL.of Z.at_⟩, for_list (K := K) (a := q) (xs := ts.map V.ref) (fun i σ H' => ∃ v9 v10 v11 v12 : Option V, σ = [some (.ref a), some (.int x), some (.int d), some (.ref f), some (.int (h : Nat)), some (.ref p1), some (.ref p2), some (.ref p3), some (.int (KxG.wsum h x d (fun z => W z.1 (Kxd7.decision (planT h t) z.1 z.2) * Kxd7.paths (planT h t) z.1 z.2) ((Kxd7.stops (planT h t)).take i) : Nat)), v9, v10, v11, v12] ∧ H' = H4)
      ⟨none, none, none, none, rfl, rfl⟩ (fun i σ H' _ ⟨_, _, _, _, _, e⟩ => by rw [e]; exact SqL.of Z.at_) ?_ ?_⟩
    · rintro i y σ H' hy ⟨v9, v10, v11, v12, rfl, rfl⟩
      obtain ⟨tp, htp, rfl⟩ : ∃ tp, ts[i]? = some tp ∧ y = V.ref tp := by
        rw [List.getElem?_map] at hy
        cases e : ts[i]? with
        | none => rw [e] at hy; cases hy
        | some tp => rw [e] at hy; exact ⟨tp, rfl, (Option.some.inj hy).symm⟩
      obtain ⟨z, hz1, hz2⟩ := Z.tup i tp htp
      have zin := KxG.stops_in z (List.mem_of_getElem? hz1)
      have zn : z.1 ≤ h := zin.1
      have zs' : z.2 ≤ z.1 := zin.2
      have ze := KxK.dec_le TA.good z.1 z.2
      refine ⟨tp, _, rfl, SqT.of hz2, rfl, _, _, rfl, _, _, rfl, _, _, rfl, _, _, rfl, rfl, ?_⟩
      have bW := TA.small z.1 _ zn ze
      have b0 : Kxd7.paths (planT h t) z.1 z.2 < 2 ^ 21 := Nat.lt_of_le_of_lt (KxG.paths_le h t z.1 z.2) (Nat.pow_lt_pow_right (by decide) (by omega))
      have b1 : x ^ z.2 < 2 ^ 201 := npow_small (by omega) (by omega)
      have b2 : (d - x) ^ (z.1 - z.2) < 2 ^ 201 := npow_small (by omega) (by omega)
      have b3 : d ^ (h - z.1) < 2 ^ 201 := npow_small (by omega) (by omega)
      refine ⟨_, rfl, f, G, spw W h, rfl, clo, hG4, _, rfl, _, rfl, hG4, z.1, _, rfl, zn, ze, ?_⟩
      generalize hWz : W z.1 (Kxd7.decision (planT h t) z.1 z.2) = Wz at *
      have m0 : CMulW (Wz : Int) (Kxd7.paths (planT h t) z.1 z.2 : Int) := cmulN bW b0 (by decide) (by decide) (by decide)
      have m1 : CMulW ((Wz : Int) * (Kxd7.paths (planT h t) z.1 z.2 : Int)) ((x ^ z.2 : Nat) : Int) := by
        rw [← Int.natCast_mul]
        exact cmulN (mul_lt2 bW b0) b1 (by decide) (by decide) (by decide)
      have m2 : CMulW ((Wz : Int) * (Kxd7.paths (planT h t) z.1 z.2 : Int) * ((x ^ z.2 : Nat) : Int)) (((d - x) ^ (z.1 - z.2) : Nat) : Int) := by
        rw [← Int.natCast_mul, ← Int.natCast_mul]
        exact cmulN (mul_lt2 (mul_lt2 bW b0) b1) b2 (by decide) (by decide) (by decide)
      have m3 : CMulW ((Wz : Int) * (Kxd7.paths (planT h t) z.1 z.2 : Int) * ((x ^ z.2 : Nat) : Int) * (((d - x) ^ (z.1 - z.2) : Nat) : Int)) ((d ^ (h - z.1) : Nat) : Int) := by
        rw [← Int.natCast_mul, ← Int.natCast_mul, ← Int.natCast_mul]
        exact cmulN (mul_lt2 (mul_lt2 (mul_lt2 bW b0) b1) b2) b3 (by decide) (by decide) (by decide)
      refine ⟨_, rfl, _, _, rfl, rfl, m0, ?_⟩
      refine ⟨_, rfl, _, rfl, p1, _, _, _, rfl, rfl, SqL.of P1, at_of rfl (pows_int (by omega)), _, _, rfl, rfl, m1, ?_⟩
      refine ⟨_, rfl, _, rfl, _, rfl, _, _, rfl, rfl, p2, _, _, _, rfl, rfl, SqL.of P2, at_of (j := z.1 - z.2) (by omega) (pows_int (by omega)), _, _, rfl, rfl, m2, ?_⟩
      refine ⟨_, rfl, _, rfl, _, rfl, _, _, rfl, rfl, p3, _, _, _, rfl, rfl, SqL.of P3, at_of (j := h - z.1) (by omega) (pows_int (by omega)), _, _, rfl, rfl, m3, ?_⟩
      refine ⟨_, _, rfl, rfl, some (.int (z.1 : Nat)), some (.int (z.2 : Nat)), some (.int (Kxd7.decision (planT h t) z.1 z.2 : Nat)), some (.int (Kxd7.paths (planT h t) z.1 z.2 : Nat)), ?_, rfl⟩
      rw [take_snoc hz1, wsum_snoc, hWz, Int.natCast_add, Int.natCast_mul, Int.natCast_mul, Int.natCast_mul, Int.natCast_mul]
      rfl
    · rintro σ H' ⟨v9, v10, v11, v12, rfl, rfl⟩
      have e3 : (Kxd7.stops (planT h t)).take (ts.map V.ref).length = Kxd7.stops (planT h t) := by rw [List.length_map, Z.len, List.take_length]
      rw [e3]
      exact ⟨_, rfl, k H' (s3.trans s4)⟩
def sp_expected_value (P : Program) (w : World) (K : PySem.W.Frag) (mg : Str → Option Value) (base : Heap) : Sp := fun vs H Q _ => ∃ (a f : Addr) (rs : List Addr) (t : List (List Nat)) (h x d : Nat) (W : Nat → Nat → Nat), vs = [.ref a, .int x, .int d, .ref f] ∧ TotA P w K mg base H a f rs t h x d W ∧
  ∀ H' q, Same H H' → H q = Option.none → H' q = some (.lst (lowest (totN W (planT h t) x d) (d ^ h))) → Q (.ref q) H'
theorem c_expected_value (gl : Glb mg) (F : DefB K mg "expected_value" s_expected_value ["rows", "p", "divisor", "worth"]) (c1 : Cal0 P w K mg base 5 "expected_total" (sp_expected_total P w K mg base)) (c2 : Cal0 P w K mg base 1 "powers" sp_powers) (c3 : Cal0 P w K mg base 2 "lowest_terms" sp_lowest_terms) :
    Cal0 P w K mg base 6 "expected_value" (sp_expected_value P w K mg base) := by
  obtain ⟨fa, fd, F, b⟩ := F.ex
  refine C8.cal0 F b .nil (C8.fnScope_by (N := ["rows", "p", "divisor", "worth", "horizon", "total"]) (by decide +kernel)) (fun vs H Q E h => ?_) (fun cdv A outer s H vs Q E hr h => ?_)
  · obtain ⟨_, _, _, _, _, _, _, _, rfl, _⟩ := h
    rfl
  · obtain ⟨a, f, rs, t, h, x, d, W, rfl, TA, k⟩ := h
    have nd : (["rows", "p", "divisor", "worth", "horizon", "total"] : List Str).Nodup := by decide +kernel
    have hd := TA.hd
    have hd1 := TA.hd1
    have hh := TA.good.h20
    refine ⟨_, C8.pss_cut (ps_set (i := 4) nd rfl (.inl rfl) (pe_op op_sub (pe_callB call_len_seq (by rfl) gl.len PySem.boot_len (pa_cons (pv 0) pa_nil)) pe_int))
      (pss_cons (ps_set (i := 5) nd rfl (.inl rfl) (C8.pe_c c1 hr (by decide) rfl (pa_cons (pv 0) (pa_cons (pv 1) (pa_cons (pv 2) (pa_cons (pv 3) pa_nil))))))
      (pss_one (ps_ret (C8.pe_c c3 hr (by decide) rfl (pa_cons (pv 5) (pa_cons (pe_ix ix_list (C8.pe_c c2 hr (by decide) rfl (pa_cons (pv 2) (pa_cons (pv 4) pa_nil))) (pv 4) (fun _ _ => rfl)) pa_nil)))))), ?_⟩
    have e1 : (((rs.map V.ref).length : Nat) : Int) - 1 = (h : Int) := by
      rw [List.length_map, TA.rows.len, TA.good.len]
      omega
    refine ⟨fun σ' H' => σ' = [some (.ref a), some (.int x), some (.int d), some (.ref f), some (.int (h : Nat)), none] ∧ H' = H, ⟨_, rfl, a, _, rfl, .inl (SqL.of TA.rows.at_), _, _, rfl, rfl, ?_⟩, ?_⟩
    · refine ⟨?_, rfl⟩
      rw [← e1]
      rfl
    rintro σ' H' ⟨rfl, rfl⟩
    refine ⟨_, rfl, _, rfl, _, rfl, _, rfl, a, f, rs, t, h, x, d, W, rfl, TA, fun H1 s1 => ?_⟩
    refine ⟨_, rfl, _, rfl, _, rfl, (d : Int), h, rfl, by omega, by omega, fun H2 p N => ?_⟩
    have dpos : 0 < d ^ h := Nat.pow_pos (by omega)
    have dsm : d ^ h < 2 ^ 8000 := Nat.lt_of_lt_of_le (npow_small (by omega) hh) (Nat.pow_le_pow_right (by decide) (by decide))
    refine ⟨_, rfl, p, _, _, _, rfl, rfl, SqL.of N.at_, at_of rfl (pows_int (by omega)), totN W (planT h t) x d, d ^ h, rfl, dpos, dsm, fun H3 q N3 => ?_⟩
    exact k H3 q ((s1.trans N.same).trans N3.same) ((s1.trans N.same).free N3.fresh) N3.at_
end
/-- the last argument of the call that a def returns -/
def lamOf (st : Stmt) : Expr := match (C8.fnBody st).getLast? with
  | some (.Return (some (.Call _ es _ _)) _) => es.getLastD (.Constant .none 0 ⟨0, 0, 0, 0⟩)
  | _ => .Constant .none 0 ⟨0, 0, 0, 0⟩
/-- behind the call that was handed a lambda -/
theorem after_lam {T : List NTab} {H H1 L H' : Hp} {q : Addr} {o : HO} (k : Kp T H H1) (dis : ∀ b o, L b = some o → H1 b = Option.none) (s : Same (over L H1) H') (f : over L H1 q = Option.none) (hq : H' q = some o) : Kp T H (under L H') ∧ H q = Option.none ∧ under L H' q = some o := by
  have noL : ∀ b, over L H1 b = Option.none → L b = Option.none ∧ H1 b = Option.none := fun b h => by
    cases e : L b with
    | none => exact ⟨rfl, by rw [over_none e] at h; exact h⟩
    | some o => rw [over_some e] at h; cases h
  have s1 : Same H1 (under L H') := fun b o e => by
    cases l : L b with
    | some q => rw [dis b q l] at e; cases e
    | none =>
      rw [under_none l]
      exact s b o (by rw [over_none l]; exact e)
  refine ⟨k.trans (Kp.of s1), k.non q (noL q f).2, ?_⟩
  rw [under_none (noL q f).1]
  exact hq
theorem over_same {H1 L : Hp} (dis : ∀ b o, L b = some o → H1 b = Option.none) : Same H1 (over L H1) := fun b o e => by
  cases lb : L b with
  | none => rw [over_none lb]; exact e
  | some q => rw [dis b q lb] at e; cases e
/-- a lambda that tells the worth of a stop -/
theorem given_lam {P : Program} {w : World} {K : PySem.W.Frag} {mg : Str → Option Value} {base : Heap} {H1 L : Hp} {fn : Addr} {F : LF} {ps fr : List Str} {wv : List V} {h : Nat} {W : Nat → Nat → Nat} {nsp : List (Option V) → Sp}
    (f1 : H1 fn = some (LamO fn F)) (cc1 : H1 F.c = some (CodeO F.c F.qual)) (Fn : LOk P w K mg base C8.CX0 2 fn F ps fr nsp) (C : CellsT F.cl fr wv L) (dis : ∀ b o, L b = some o → H1 b = Option.none)
    (hsp : ∀ (H2 : Hp) (n e : Nat) (Q2 : VK), Same H1 H2 → n ≤ h → e ≤ 2 → Q2 (.int (W n e)) H2 → nsp (wv.map some) [.int n, .int e] H2 Q2 (fun _ _ _ => False)) :
    ∃ G : Hp → Prop, G (over L H1) ∧ (∀ H1 H2, G H1 → Same H1 H2 → G H2) ∧ CloOk P w K mg base 2 fn G (spw W h) := by
  have up := over_same dis
  have kept : ∀ H2, Same (over L H1) H2 → KeptL fn F L H2 := fun H2 s => ⟨s _ _ (up _ _ f1), s _ _ (up _ _ cc1), fun b o e => s _ _ (over_some e)⟩
  refine ⟨Same (over L H1), Same.refl _, fun H2 H3 a b => a.trans b, cloL_of Fn C kept (fun b o e => ⟨fun z => ?_, fun z => ?_⟩) fun vs H2 Q2 s hs => ?_⟩
  · have := dis b o e
    rw [z, f1] at this
    cases this
  · have := dis b o e
    rw [z] at this
    have q := this.symm.trans cc1
    cases q
  · obtain ⟨n, e, rfl, hn, he, q⟩ := hs
    refine hsp (under L H2) n e _ (fun b o z => ?_) hn he ?_
    · cases lb : L b with
      | none =>
        rw [under_none lb]
        exact s b o (up b o z)
      | some q => rw [dis b q lb] at z; cases z
    · show Q2 (.int (W n e)) (over L (under L H2))
      rw [over_under (kept H2 s).2.2]
      exact q
/-- the same of a nested def -/
theorem given_def {P : Program} {w : World} {K : PySem.W.Frag} {mg : Str → Option Value} {base : Heap} {H1 L : Hp} {fn : Addr} {F : NF} {ps fr : List Str} {wv : List V} {h : Nat} {W : Nat → Nat → Nat} {nsp : List (Option V) → Sp}
    (f1 : H1 fn = some (FnO fn F)) (cc1 : H1 F.c = some (CodeO F.c F.qual)) (Fn : NOk P w K mg base C8.CX0 2 fn F ps fr nsp) (C : CellsT F.cl fr wv L) (dis : ∀ b o, L b = some o → H1 b = Option.none)
    (hsp : ∀ (H2 : Hp) (n e : Nat) (Q2 : VK), Same H1 H2 → n ≤ h → e ≤ 2 → Q2 (.int (W n e)) H2 → nsp (wv.map some) [.int n, .int e] H2 Q2 (fun _ _ _ => False)) :
    ∃ G : Hp → Prop, G (over L H1) ∧ (∀ H1 H2, G H1 → Same H1 H2 → G H2) ∧ CloOk P w K mg base 2 fn G (spw W h) := by
  have up := over_same dis
  have kept : ∀ H2, Same (over L H1) H2 → Kept fn F L H2 := fun H2 s => ⟨s _ _ (up _ _ f1), s _ _ (up _ _ cc1), fun b o e => s _ _ (over_some e)⟩
  refine ⟨Same (over L H1), Same.refl _, fun H2 H3 a b => a.trans b, clo_of Fn C kept (fun b o e => ⟨fun z => ?_, fun z => ?_⟩) fun vs H2 Q2 s hs => ?_⟩
  · have := dis b o e
    rw [z, f1] at this
    cases this
  · have := dis b o e
    rw [z] at this
    have q := this.symm.trans cc1
    cases q
  · obtain ⟨n, e, rfl, hn, he, q⟩ := hs
    refine hsp (under L H2) n e _ (fun b o z => ?_) hn he ?_
    · cases lb : L b with
      | none =>
        rw [under_none lb]
        exact s b o (up b o z)
      | some q => rw [dis b q lb] at z; cases z
    · show Q2 (.int (W n e)) (over L (under L H2))
      rw [over_under (kept H2 s).2.2]
      exact q
section
variable {P : Program} {w : World} {K : PySem.W.Frag} {mg : Str → Option Value} {base : Heap}
/-- what is asked of a plan's rows and a probability -/
structure RowsP (H : Hp) (a : Addr) (rs : List Addr) (t : List (List Nat)) (h x d : Nat) : Prop where
  rows : RowsAt H a rs t
  good : GoodT h t
  hx : x ≤ d
  hd1 : 1 ≤ d
  hd : d ≤ 1000
theorem RowsP.kp {T : List NTab} {H H' : Hp} {a : Addr} {rs : List Addr} {t : List (List Nat)} {h x d : Nat} (A : RowsP H a rs t h x d) (k : Kp T H H') : RowsP H' a rs t h x d := ⟨k.rows A.rows, A.good, A.hx, A.hd1, A.hd⟩
/-- a fraction over the horizon's denominator is answered -/
def spFrac (T : List NTab) (W : Nat → Nat → Nat) (a : Addr) (rs : List Addr) (t : List (List Nat)) (h x d : Nat) (H : Hp) (Q : VK) : Prop := RowsP H a rs t h x d ∧ TabsN T H ∧
  ∀ H' q, Kp T H H' → H q = Option.none → H' q = some (.lst (lowest (totN W (planT h t) x d) (d ^ h))) → Q (.ref q) H'
/-- 1 for one decision, 0 for all others -/
def wDec (k : Nat) : Nat → Nat → Nat := fun _ e => if e = k then 1 else 0
/-- 1 for stops at one n, 0 for all others -/
def wAt (k : Nat) : Nat → Nat → Nat := fun n _ => if n = k then 1 else 0
def wSize : Nat → Nat → Nat := fun n _ => n
abbrev l_decision_chance : Expr := lamOf s_decision_chance
def ns_dc : List (Option V) → Sp := fun ws vs H Q _ => ∃ n e k : Nat, ws = [some (.int k)] ∧ vs = [.int n, .int e] ∧ Q (.int (wDec k n e)) H
theorem n_dc (gl : Glb mg) {f c : Addr} {q : Str} {cl : List (Str × Addr)} : LOk P w K mg base C8.CX0 2 f (LF.of l_decision_chance q cl c) ["n", "decision"] ["wanted"] ns_dc := by
  have S : NScope ["n", "decision", "wanted"] ["n", "decision"] ["wanted"] (lamScope l_decision_chance) := nscope_by (by decide +kernel)
  refine lok_of S (fun pm ctv us hl => match us, hl with | [_, _], _ => rfl) (fun ws vs H Q E h => ?_) fun A outer s H vs ws Q E hr hw h => ?_
  · obtain ⟨_, _, _, _, rfl, _⟩ := h
    rfl
  · obtain ⟨n, e, k, rfl, rfl, q⟩ := h
    refine ⟨_, pe_callTy call_int1 (by rfl) gl.int (by decide +kernel) (pa_cons (pe_cmpR op_eq (pv 1) (pv 2) (nomark _)) pa_nil), ?_⟩
    refine ⟨_, rfl, _, rfl, rfl, .inr ⟨_, rfl, ?_⟩⟩
    unfold wDec at q
    by_cases c : e = k
    · rw [if_pos c] at q
      rw [decide_eq_true (by rw [c])]
      exact q
    · rw [if_neg c] at q
      rw [decide_eq_false (fun z => c (intN z))]
      exact q
def nm_dc : Nat → Nat → Str := fun _ _ => "decision_chance.<locals>.<lambda>"
def sp_decision_chance (T : List NTab) : Sp := fun vs H Q _ => ∃ (a : Addr) (rs : List Addr) (t : List (List Nat)) (h x d k : Nat), vs = [.ref a, .int x, .int d, .int k] ∧ spFrac T (wDec k) a rs t h x d H Q
theorem c_decision_chance {T : List NTab} {c tb : Addr} (gl : Glb mg) (F : DefT K mg "decision_chance" s_decision_chance ["rows", "p", "divisor", "wanted"] c) (TB : TabB base mg c tb) (hm : (tb, nm_dc) ∈ T) (hu : ∀ p ∈ T, p.1 = tb → p.2 = nm_dc)
    (c1 : Cal0 P w K mg base 6 "expected_value" (sp_expected_value P w K mg base)) : Cal0 P w K mg base 7 "decision_chance" (sp_decision_chance T) := by
  obtain ⟨f, fd, oc, od, dV, kV, doc, pm, an, ct, osl, rfl, lk, hcd, mgf, kp, b⟩ := F.ex
  refine ⟨f, _, ["rows", "p", "divisor", "wanted"], [], fn_of lk hcd (C8.fnScope_by (N := ["rows", "p", "divisor", "wanted"]) (by decide +kernel)) (fun vs H Q E h => ?_) fun A outer s H vs Q E hr h => ?_, mgf, kp, b, .nil⟩
  · obtain ⟨_, _, _, _, _, _, _, rfl, _⟩ := h
    rfl
  · obtain ⟨a, rs, t, h, x, d, wanted, rfl, RP, hT, k⟩ := h
    have fb : ndefB (C8.fnScope s_decision_chance) (lamScope l_decision_chance) ["wanted"] = true := by decide +kernel
    have hfree := ndef_free fb
    have hfr := ndef_fr fb
    refine ⟨_, pss_one (ps_ret (pe_cw (js := [3]) c1 hr (by decide) rfl (fun ok => Caps.made ok hfree hfr rfl) (fun _ _ => rfl) (clo_in (sc := lamScope l_decision_chance) (by decide +kernel)) (by decide +kernel)
      (pa_cons (pv 0) (pa_cons (pv 1) (pa_cons (pv 2) (pa_cons (pe_lamV (e := l_decision_chance) rfl TB rfl hm (by rfl) hu hfree rfl) pa_nil)))))), ?_⟩
    refine ⟨_, rfl, _, rfl, _, rfl, hT, fun fn cc H1 eN nn T1 f0 f1 cc1 => ?_⟩
    refine ⟨[.int wanted], rfl, fun L C dis => ?_⟩
    have k1 : Kp T H H1 := ⟨eN, fun _ => T1, nn⟩
    have RP1 := RP.kp k1
    refine ⟨a, fn, rs, t, h, x, d, wDec wanted, rfl, ⟨RP1.rows.same (over_same dis), RP1.good, RP1.hx, RP1.hd1, RP1.hd, fun n e _ _ => ?_, given_lam f1 cc1 (n_dc gl) C dis fun H2 n e Q2 _ _ _ q => ⟨n, e, wanted, rfl, rfl, q⟩⟩, fun H' q s1 fr hq => ?_⟩
    · unfold wDec
      split <;> decide
    · obtain ⟨z1, z2, z3⟩ := after_lam k1 dis s1 fr hq
      exact k _ q z1 z2 z3
end
end St
set_option Elab.async false
set_option linter.all false
set_option maxRecDepth 100000
set_option maxHeartbeats 2000000
set_option exponentiation.threshold 100000
/-! W27: expected size, stop probability, error probabilities; a row and the horizon: calls 10 to 13, 19, 20. -/
namespace St
open PySem PySem.Spec PyProof.Rows L2 NdefX LamX KxF
section
variable {P : Program} {w : World} {K : PySem.W.Frag} {mg : Str → Option Value} {base : Heap}
abbrev l_expected_size : Expr := lamOf s_expected_size
def ns_es : List (Option V) → Sp := fun ws vs H Q _ => ∃ n e : Nat, ws = [] ∧ vs = [.int n, .int e] ∧ Q (.int (wSize n e)) H
theorem n_es {f c : Addr} {q : Str} {cl : List (Str × Addr)} : LOk P w K mg base C8.CX0 2 f (LF.of l_expected_size q cl c) ["n", "decision"] [] ns_es := by
  have S : NScope ["n", "decision"] ["n", "decision"] [] (lamScope l_expected_size) := nscope_by (by decide +kernel)
  refine lok_of S (fun pm ctv us hl => match us, hl with | [_, _], _ => rfl) (fun ws vs H Q E h => ?_) fun A outer s H vs ws Q E hr hw h => ?_
  · obtain ⟨_, _, _, rfl, _⟩ := h
    rfl
  · obtain ⟨n, e, rfl, rfl, q⟩ := h
    exact ⟨_, pv 0, _, rfl, q⟩
def nm_es : Nat → Nat → Str := fun _ _ => "expected_size.<locals>.<lambda>"
def sp_expected_size (T : List NTab) : Sp := fun vs H Q _ => ∃ (a : Addr) (rs : List Addr) (t : List (List Nat)) (h x d : Nat), vs = [.ref a, .int x, .int d] ∧ spFrac T wSize a rs t h x d H Q
theorem c_expected_size {T : List NTab} {c tb : Addr} (F : DefT K mg "expected_size" s_expected_size ["rows", "p", "divisor"] c) (TB : TabB base mg c tb) (hm : (tb, nm_es) ∈ T) (hu : ∀ p ∈ T, p.1 = tb → p.2 = nm_es)
    (c1 : Cal0 P w K mg base 6 "expected_value" (sp_expected_value P w K mg base)) : Cal0 P w K mg base 7 "expected_size" (sp_expected_size T) := by
  obtain ⟨f, fd, oc, od, dV, kV, doc, pm, an, ct, osl, rfl, lk, hcd, mgf, kp, b⟩ := F.ex
  refine ⟨f, _, ["rows", "p", "divisor"], [], fn_of lk hcd (C8.fnScope_by (N := ["rows", "p", "divisor"]) (by decide +kernel)) (fun vs H Q E h => ?_) fun A outer s H vs Q E hr h => ?_, mgf, kp, b, .nil⟩
  · obtain ⟨_, _, _, _, _, _, rfl, _⟩ := h
    rfl
  · obtain ⟨a, rs, t, h, x, d, rfl, RP, hT, k⟩ := h
    have fb : ndefB (C8.fnScope s_expected_size) (lamScope l_expected_size) [] = true := by decide +kernel
    have hfree := ndef_free fb
    have hfr := ndef_fr fb
    refine ⟨_, pss_one (ps_ret (pe_cw (js := []) c1 hr (by decide) rfl (fun ok => Caps.made ok hfree hfr rfl) (fun y hy => absurd hy (by simp)) (clo_in (sc := lamScope l_expected_size) (by decide +kernel)) (by decide +kernel)
      (pa_cons (pv 0) (pa_cons (pv 1) (pa_cons (pv 2) (pa_cons (pe_lamV (e := l_expected_size) rfl TB rfl hm (by rfl) hu hfree rfl) pa_nil)))))), ?_⟩
    refine ⟨_, rfl, _, rfl, _, rfl, hT, fun fn cc H1 eN nn T1 f0 f1 cc1 => ?_⟩
    refine ⟨[], rfl, fun L C dis => ?_⟩
    have k1 : Kp T H H1 := ⟨eN, fun _ => T1, nn⟩
    have RP1 := RP.kp k1
    have hh := RP.good.h20
    refine ⟨a, fn, rs, t, h, x, d, wSize, rfl, ⟨RP1.rows.same (over_same dis), RP1.good, RP1.hx, RP1.hd1, RP1.hd, fun n e hn _ => ?_, given_lam f1 cc1 n_es C dis fun H2 n e Q2 _ _ _ q => ⟨n, e, rfl, rfl, q⟩⟩, fun H' q s1 fr hq => ?_⟩
    · show n < 2 ^ 20
      omega
    · obtain ⟨z1, z2, z3⟩ := after_lam k1 dis s1 fr hq
      exact k _ q z1 z2 z3
abbrev l_stop_chance : Expr := lamOf s_stop_chance
def ns_sc : List (Option V) → Sp := fun ws vs H Q _ => ∃ n e k : Nat, ws = [some (.int k)] ∧ vs = [.int n, .int e] ∧ Q (.int (wAt k n e)) H
theorem n_sc (gl : Glb mg) {f c : Addr} {q : Str} {cl : List (Str × Addr)} : LOk P w K mg base C8.CX0 2 f (LF.of l_stop_chance q cl c) ["n", "decision"] ["wanted"] ns_sc := by
  have S : NScope ["n", "decision", "wanted"] ["n", "decision"] ["wanted"] (lamScope l_stop_chance) := nscope_by (by decide +kernel)
  refine lok_of S (fun pm ctv us hl => match us, hl with | [_, _], _ => rfl) (fun ws vs H Q E h => ?_) fun A outer s H vs ws Q E hr hw h => ?_
  · obtain ⟨_, _, _, _, rfl, _⟩ := h
    rfl
  · obtain ⟨n, e, k, rfl, rfl, q⟩ := h
    refine ⟨_, pe_callTy call_int1 (by rfl) gl.int (by decide +kernel) (pa_cons (pe_cmpR op_eq (pv 0) (pv 2) (nomark _)) pa_nil), ?_⟩
    refine ⟨_, rfl, _, rfl, rfl, .inr ⟨_, rfl, ?_⟩⟩
    unfold wAt at q
    by_cases c : n = k
    · rw [if_pos c] at q
      rw [decide_eq_true (by rw [c])]
      exact q
    · rw [if_neg c] at q
      rw [decide_eq_false (fun z => c (intN z))]
      exact q
def nm_sc : Nat → Nat → Str := fun _ _ => "stop_chance.<locals>.<lambda>"
def sp_stop_chance (T : List NTab) : Sp := fun vs H Q _ => ∃ (a : Addr) (rs : List Addr) (t : List (List Nat)) (h x d k : Nat), vs = [.ref a, .int x, .int d, .int k] ∧ spFrac T (wAt k) a rs t h x d H Q
theorem c_stop_chance {T : List NTab} {c tb : Addr} (gl : Glb mg) (F : DefT K mg "stop_chance" s_stop_chance ["rows", "p", "divisor", "wanted"] c) (TB : TabB base mg c tb) (hm : (tb, nm_sc) ∈ T) (hu : ∀ p ∈ T, p.1 = tb → p.2 = nm_sc)
    (c1 : Cal0 P w K mg base 6 "expected_value" (sp_expected_value P w K mg base)) : Cal0 P w K mg base 7 "stop_chance" (sp_stop_chance T) := by
  obtain ⟨f, fd, oc, od, dV, kV, doc, pm, an, ct, osl, rfl, lk, hcd, mgf, kp, b⟩ := F.ex
  refine ⟨f, _, ["rows", "p", "divisor", "wanted"], [], fn_of lk hcd (C8.fnScope_by (N := ["rows", "p", "divisor", "wanted"]) (by decide +kernel)) (fun vs H Q E h => ?_) fun A outer s H vs Q E hr h => ?_, mgf, kp, b, .nil⟩
  · obtain ⟨_, _, _, _, _, _, _, rfl, _⟩ := h
    rfl
  · obtain ⟨a, rs, t, h, x, d, wanted, rfl, RP, hT, k⟩ := h
    have fb : ndefB (C8.fnScope s_stop_chance) (lamScope l_stop_chance) ["wanted"] = true := by decide +kernel
    have hfree := ndef_free fb
    have hfr := ndef_fr fb
    refine ⟨_, pss_one (ps_ret (pe_cw (js := [3]) c1 hr (by decide) rfl (fun ok => Caps.made ok hfree hfr rfl) (fun _ _ => rfl) (clo_in (sc := lamScope l_stop_chance) (by decide +kernel)) (by decide +kernel)
      (pa_cons (pv 0) (pa_cons (pv 1) (pa_cons (pv 2) (pa_cons (pe_lamV (e := l_stop_chance) rfl TB rfl hm (by rfl) hu hfree rfl) pa_nil)))))), ?_⟩
    refine ⟨_, rfl, _, rfl, _, rfl, hT, fun fn cc H1 eN nn T1 f0 f1 cc1 => ?_⟩
    refine ⟨[.int wanted], rfl, fun L C dis => ?_⟩
    have k1 : Kp T H H1 := ⟨eN, fun _ => T1, nn⟩
    have RP1 := RP.kp k1
    refine ⟨a, fn, rs, t, h, x, d, wAt wanted, rfl, ⟨RP1.rows.same (over_same dis), RP1.good, RP1.hx, RP1.hd1, RP1.hd, fun n e _ _ => ?_, given_lam f1 cc1 (n_sc gl) C dis fun H2 n e Q2 _ _ _ q => ⟨n, e, wanted, rfl, rfl, q⟩⟩, fun H' q s1 fr hq => ?_⟩
    · unfold wAt
      split <;> decide
    · obtain ⟨z1, z2, z3⟩ := after_lam k1 dis s1 fr hq
      exact k _ q z1 z2 z3
end
/-! ### what the specification says of these -/
theorem tot_dec (h : Nat) (t : List (List Nat)) (x d k : Nat) : totN (wDec k) (planT h t) x d = KxK.decN (planT h t) x d k := by
  unfold totN KxK.decN
  rw [← KxK.wsum_pick]
  refine KxK.wsum_congr _ _ _ fun z _ => ?_
  unfold wDec
  by_cases e : Kxd7.decision (planT h t) z.1 z.2 = k
  · rw [if_pos e, if_pos (by rw [e]; simp)]
  · rw [if_neg e, if_neg (by simpa using e)]
theorem tot_size (h : Nat) (t : List (List Nat)) (x d : Nat) : totN wSize (planT h t) x d = KxG.sizeN (planT h t) x d := rfl
theorem tot_at (h : Nat) (t : List (List Nat)) (x d k : Nat) : totN (wAt k) (planT h t) x d = KxG.stopN' (planT h t) x d k := by
  unfold totN KxG.stopN'
  rw [← KxK.wsum_pick]
  refine KxK.wsum_congr _ _ _ fun z _ => ?_
  unfold wAt
  by_cases e : z.1 = k
  · rw [if_pos e, if_pos (by rw [e]; simp)]
  · rw [if_neg e, if_neg (by simpa using e)]
theorem isProb_eq (x d : Nat) : Kxd7.isProbability x d = decide (IsProb (x : Int) (d : Int)) := by
  rw [Bool.eq_iff_iff, decide_eq_true_eq]
  unfold Kxd7.isProbability IsProb
  simp only [Bool.and_eq_true, decide_eq_true_eq]
  omega
theorem pair_eq (p0 p1 d : Nat) : Kxd7.arePair p0 p1 d = decide (ArePair (p0 : Int) (p1 : Int) (d : Int)) := by
  rw [Bool.eq_iff_iff, decide_eq_true_eq]
  unfold Kxd7.arePair Kxd7.isStrict Kxd7.isProbability ArePair
  simp only [Bool.and_eq_true, decide_eq_true_eq]
  omega
/-- 0 and a fraction, as the program answers it -/
theorem frac_fields (n d : Nat) (hd : 0 < d) : zs (Kxd7Neutral.fields (Kxd7.fractionResult (KxA.fr ((n : Rat) / (d : Rat))))) = [V.int 0] ++ lowest n d := by
  rw [KxG.lowest_eq n d hd]
  rfl
section
variable {P : Program} {w : World} {K : PySem.W.Frag} {mg : Str → Option Value} {base : Heap}
theorem c_answer_acceptance {T : List NTab} {C : Addr} (gl : Glb mg) (Ti : ICls K C) (F : DefB K mg "answer_acceptance" s_answer_acceptance ["instance", "numbers"]) (c1 : Cal0 P w K mg base 3 "is_probability" sp_is_probability) (c2 : Cal0 P w K mg base 7 "decision_chance" (sp_decision_chance T)) :
    Cal0 P w K mg base 8 "answer_acceptance" (sp_op K T C 2 false fun l => .acceptance (arg l 0) (arg l 1)) := by
  obtain ⟨fa, fd, F, b⟩ := F.ex
  refine C8.cal0 F b .nil (C8.fnScope_by (N := ["instance", "numbers", "p", "divisor"]) (by decide +kernel)) (fun vs H Q E h => ?_) (fun cdv A outer s H vs Q E hr h => ?_)
  · obtain ⟨_, _, _, _, _, rfl, _⟩ := h
    rfl
  · obtain ⟨I, nb, X, s, args, rfl, S, hn, hl, hz, hT, hs, k⟩ := h
    obtain ⟨x, d, rfl⟩ : ∃ x0 x1, args = [x0, x1] := match args, hl with | [x0, x1], _ => ⟨x0, x1, rfl⟩
    replace k : Out T C I H X Q (Kxd7.step s (.acceptance x d)) := k
    obtain ⟨h, t, a, rs, rfl, pl⟩ := S.plan (hs rfl)
    obtain ⟨dx, hI⟩ := id pl.ins
    have nd : (["instance", "numbers", "p", "divisor"] : List Str).Nodup := by decide +kernel
    refine ⟨_, pss_cons (ps_asg (pv 1) (pg_lst rfl (pgs_cons (pg_name (i := 2) nd rfl (.inl rfl)) (pgs_cons (pg_name (i := 3) nd rfl (.inl rfl)) pgs_nil))))
      (pss_cons (ps_if (pt_not (pt_val (C8.pe_c c1 hr (by decide) rfl (pa_cons (pv 2) (pa_cons (pv 3) pa_nil))))) (pss_one (ps_ret (pe_lst (pa_cons (C8.pe_gc rfl gl.OUTSIDE_RANGE) pa_nil)))) pss_nil)
      (pss_one (ps_ret (pe_op op_cat (pe_lst (pa_cons pe_int pa_nil)) (C8.pe_c c2 hr (by decide) rfl (pa_cons (pe_fld (pv 0) rfl) (pa_cons (pv 2) (pa_cons (pv 3) (pa_cons (C8.pe_gc rfl gl.ACCEPT) pa_nil))))))))), ?_⟩
    refine ⟨_, rfl, nb, _, rfl, hn, rfl, _, _, rfl, _, _, rfl, rfl, ?_⟩
    refine ⟨_, rfl, _, rfl, _, _, rfl, _, rfl, ?_⟩
    have st : Kxd7.step (some ⟨h, t⟩) (.acceptance x d) = (some ⟨h, t⟩, if Kxd7.isProbability x d = false then .value (-22) else Kxd7.fractionResult (Kxd7.acceptance (planT h t) (Kxd7.share x d))) := rfl
    rw [st, isProb_eq] at k
    by_cases hc : IsProb (x : Int) (d : Int)
    · have hx : x ≤ d := by have := hc.2.2; omega
      have hd1 : 1 ≤ d := by have := hc.1.1; omega
      have hd2 : d ≤ 1000 := by have := hc.1.2; omega
      rw [decide_eq_true hc] at k ⊢
      refine iteF ⟨(by show 1 ≤ sizeLine; decide), fun l hl0 => ?_⟩
      have s1 : Same H (upd H l (.lst [V.int 0])) := same_upd hl0
      refine ⟨_, rfl, I, C, dx, _, _, rfl, s1 _ _ hI, Ti.cl, Ti.rows, rF_get _, _, rfl, _, rfl, a, rs, t, h, x, d, 1, rfl, ⟨pl.rows.same s1, pl.good, hx, hd1, hd2⟩, hT.ext s1, fun H2 q k2 hq0 hq => ?_⟩
      refine ⟨l, q, _, _, rfl, rfl, k2.lst upd_same, hq, (by show 1 + 2 ≤ sizeLine; decide), fun p hp => ?_⟩
      have kk : Kp T H H2 := (Kp.of (T := T) s1).trans k2
      refine k _ p ((Aft.kp S kk).more (same_upd hp)) (kk.non p hp) ?_
      rw [upd_same, tot_dec, KxK.decN_one, if_neg (by decide), KxG.acc_eq (planT h t) hx hd1, frac_fields _ _ (Nat.pow_pos (by omega))]
    · rw [decide_eq_false hc] at k ⊢
      exact iteT ⟨(by show 1 ≤ sizeLine; decide), fun p hp => k _ p (aft_lit S hp) hp upd_same⟩
theorem c_answer_expected_size {T : List NTab} {C : Addr} (gl : Glb mg) (Ti : ICls K C) (F : DefB K mg "answer_expected_size" s_answer_expected_size ["instance", "numbers"]) (c1 : Cal0 P w K mg base 3 "is_probability" sp_is_probability) (c2 : Cal0 P w K mg base 7 "expected_size" (sp_expected_size T)) :
    Cal0 P w K mg base 8 "answer_expected_size" (sp_op K T C 2 false fun l => .expectedSize (arg l 0) (arg l 1)) := by
  obtain ⟨fa, fd, F, b⟩ := F.ex
  refine C8.cal0 F b .nil (C8.fnScope_by (N := ["instance", "numbers", "p", "divisor"]) (by decide +kernel)) (fun vs H Q E h => ?_) (fun cdv A outer s H vs Q E hr h => ?_)
  · obtain ⟨_, _, _, _, _, rfl, _⟩ := h
    rfl
  · obtain ⟨I, nb, X, s, args, rfl, S, hn, hl, hz, hT, hs, k⟩ := h
    obtain ⟨x, d, rfl⟩ : ∃ x0 x1, args = [x0, x1] := match args, hl with | [x0, x1], _ => ⟨x0, x1, rfl⟩
    replace k : Out T C I H X Q (Kxd7.step s (.expectedSize x d)) := k
    obtain ⟨h, t, a, rs, rfl, pl⟩ := S.plan (hs rfl)
    obtain ⟨dx, hI⟩ := id pl.ins
    have nd : (["instance", "numbers", "p", "divisor"] : List Str).Nodup := by decide +kernel
    refine ⟨_, pss_cons (ps_asg (pv 1) (pg_lst rfl (pgs_cons (pg_name (i := 2) nd rfl (.inl rfl)) (pgs_cons (pg_name (i := 3) nd rfl (.inl rfl)) pgs_nil))))
      (pss_cons (ps_if (pt_not (pt_val (C8.pe_c c1 hr (by decide) rfl (pa_cons (pv 2) (pa_cons (pv 3) pa_nil))))) (pss_one (ps_ret (pe_lst (pa_cons (C8.pe_gc rfl gl.OUTSIDE_RANGE) pa_nil)))) pss_nil)
      (pss_one (ps_ret (pe_op op_cat (pe_lst (pa_cons pe_int pa_nil)) (C8.pe_c c2 hr (by decide) rfl (pa_cons (pe_fld (pv 0) rfl) (pa_cons (pv 2) (pa_cons (pv 3) pa_nil)))))))), ?_⟩
    refine ⟨_, rfl, nb, _, rfl, hn, rfl, _, _, rfl, _, _, rfl, rfl, ?_⟩
    refine ⟨_, rfl, _, rfl, _, _, rfl, _, rfl, ?_⟩
    have st : Kxd7.step (some ⟨h, t⟩) (.expectedSize x d) = (some ⟨h, t⟩, if Kxd7.isProbability x d = false then .value (-22) else Kxd7.fractionResult (Kxd7.expectedSize (planT h t) (Kxd7.share x d))) := rfl
    rw [st, isProb_eq] at k
    by_cases hc : IsProb (x : Int) (d : Int)
    · have hx : x ≤ d := by have := hc.2.2; omega
      have hd1 : 1 ≤ d := by have := hc.1.1; omega
      have hd2 : d ≤ 1000 := by have := hc.1.2; omega
      rw [decide_eq_true hc] at k ⊢
      refine iteF ⟨(by show 1 ≤ sizeLine; decide), fun l hl0 => ?_⟩
      have s1 : Same H (upd H l (.lst [V.int 0])) := same_upd hl0
      refine ⟨_, rfl, I, C, dx, _, _, rfl, s1 _ _ hI, Ti.cl, Ti.rows, rF_get _, _, rfl, _, rfl, a, rs, t, h, x, d, rfl, ⟨pl.rows.same s1, pl.good, hx, hd1, hd2⟩, hT.ext s1, fun H2 q k2 hq0 hq => ?_⟩
      refine ⟨l, q, _, _, rfl, rfl, k2.lst upd_same, hq, (by show 1 + 2 ≤ sizeLine; decide), fun p hp => ?_⟩
      have kk : Kp T H H2 := (Kp.of (T := T) s1).trans k2
      refine k _ p ((Aft.kp S kk).more (same_upd hp)) (kk.non p hp) ?_
      rw [upd_same, tot_size, if_neg (by decide), KxG.sizeE_eq (planT h t) hx hd1, frac_fields _ _ (Nat.pow_pos (by omega))]
    · rw [decide_eq_false hc] at k ⊢
      exact iteT ⟨(by show 1 ≤ sizeLine; decide), fun p hp => k _ p (aft_lit S hp) hp upd_same⟩
theorem c_answer_stop_probability {T : List NTab} {C : Addr} (gl : Glb mg) (Ti : ICls K C) (F : DefB K mg "answer_stop_probability" s_answer_stop_probability ["instance", "numbers"]) (m0 : C8.Met P w K mg base 1 C "horizon" (sp_horizon C) []) (c1 : Cal0 P w K mg base 3 "is_probability" sp_is_probability) (c2 : Cal0 P w K mg base 7 "stop_chance" (sp_stop_chance T)) :
    Cal0 P w K mg base 8 "answer_stop_probability" (sp_op K T C 3 false fun l => .stopProbability (arg l 0) (arg l 1) (arg l 2)) := by
  obtain ⟨fa, fd, F, b⟩ := F.ex
  refine C8.cal0 F b .nil (C8.fnScope_by (N := ["instance", "numbers", "p", "divisor", "n"]) (by decide +kernel)) (fun vs H Q E h => ?_) (fun cdv A outer s H vs Q E hr h => ?_)
  · obtain ⟨_, _, _, _, _, rfl, _⟩ := h
    rfl
  · obtain ⟨I, nb, X, s, args, rfl, S, hn, hl, hz, hT, hs, k⟩ := h
    obtain ⟨x, d, n, rfl⟩ : ∃ x0 x1 x2, args = [x0, x1, x2] := match args, hl with | [x0, x1, x2], _ => ⟨x0, x1, x2, rfl⟩
    replace k : Out T C I H X Q (Kxd7.step s (.stopProbability x d n)) := k
    obtain ⟨h, t, a, rs, rfl, pl⟩ := S.plan (hs rfl)
    obtain ⟨dx, hI⟩ := id pl.ins
    have nd : (["instance", "numbers", "p", "divisor", "n"] : List Str).Nodup := by decide +kernel
    refine ⟨_, pss_cons (ps_asg (pv 1) (pg_lst rfl (pgs_cons (pg_name (i := 2) nd rfl (.inl rfl)) (pgs_cons (pg_name (i := 3) nd rfl (.inl rfl)) (pgs_cons (pg_name (i := 4) nd rfl (.inl rfl)) pgs_nil)))))
      (pss_cons (ps_if (pt_not (pt_val (C8.pe_c c1 hr (by decide) rfl (pa_cons (pv 2) (pa_cons (pv 3) pa_nil))))) (pss_one (ps_ret (pe_lst (pa_cons (C8.pe_gc rfl gl.OUTSIDE_RANGE) pa_nil)))) pss_nil)
      (pss_cons (ps_if (pt_cmpR op_gt (pv 4) (C8.pe_mt0 m0 hr (by decide) (pv 0)) (nomark _)) (pss_one (ps_ret (pe_lst (pa_cons (C8.pe_gc rfl gl.NO_POINT) pa_nil)))) pss_nil)
      (pss_one (ps_ret (pe_op op_cat (pe_lst (pa_cons pe_int pa_nil)) (C8.pe_c c2 hr (by decide) rfl (pa_cons (pe_fld (pv 0) rfl) (pa_cons (pv 2) (pa_cons (pv 3) (pa_cons (pv 4) pa_nil)))))))))), ?_⟩
    refine ⟨_, rfl, nb, _, rfl, hn, rfl, _, _, rfl, _, _, rfl, _, _, rfl, rfl, ?_⟩
    refine ⟨_, rfl, _, rfl, _, _, rfl, _, rfl, ?_⟩
    have st : Kxd7.step (some ⟨h, t⟩) (.stopProbability x d n) = (some ⟨h, t⟩, if Kxd7.isProbability x d = false then .value (-22) else if h < n then .value (-2) else Kxd7.fractionResult (Kxd7.stopProbability (planT h t) (Kxd7.share x d) n)) := rfl
    rw [st, isProb_eq] at k
    by_cases hc : IsProb (x : Int) (d : Int)
    · have hx : x ≤ d := by have := hc.2.2; omega
      have hd1 : 1 ≤ d := by have := hc.1.1; omega
      have hd2 : d ≤ 1000 := by have := hc.1.2; omega
      rw [decide_eq_true hc] at k ⊢
      refine iteF ⟨_, rfl, _, rfl, I, dx, _, rfl, hI, rF_no _ (by decide +kernel), I, h, t, a, rs, rfl, pl, _, _, rfl, rfl, _, rfl, ?_⟩
      rw [if_neg (by decide)] at k
      by_cases hn2 : h < n
      · rw [if_pos hn2] at k
        rw [decide_eq_true (show (h : Int) < (n : Int) by omega)]
        exact iteT ⟨(by show 1 ≤ sizeLine; decide), fun p hp => k _ p (aft_lit S hp) hp upd_same⟩
      · rw [if_neg hn2] at k
        rw [decide_eq_false (show ¬ (h : Int) < (n : Int) by omega)]
        refine iteF ⟨(by show 1 ≤ sizeLine; decide), fun l hl0 => ?_⟩
        have s1 : Same H (upd H l (.lst [V.int 0])) := same_upd hl0
        refine ⟨_, rfl, I, C, dx, _, _, rfl, s1 _ _ hI, Ti.cl, Ti.rows, rF_get _, _, rfl, _, rfl, _, rfl, a, rs, t, h, x, d, n, rfl, ⟨pl.rows.same s1, pl.good, hx, hd1, hd2⟩, hT.ext s1, fun H2 q k2 hq0 hq => ?_⟩
        refine ⟨l, q, _, _, rfl, rfl, k2.lst upd_same, hq, (by show 1 + 2 ≤ sizeLine; decide), fun p hp => ?_⟩
        have kk : Kp T H H2 := (Kp.of (T := T) s1).trans k2
        refine k _ p ((Aft.kp S kk).more (same_upd hp)) (kk.non p hp) ?_
        rw [upd_same, tot_at, KxG.stopE_eq (planT h t) n hx hd1, frac_fields _ _ (Nat.pow_pos (by omega))]
    · rw [decide_eq_false hc] at k ⊢
      exact iteT ⟨(by show 1 ≤ sizeLine; decide), fun p hp => k _ p (aft_lit S hp) hp upd_same⟩
theorem c_answer_errors {T : List NTab} {C : Addr} (gl : Glb mg) (Ti : ICls K C) (F : DefB K mg "answer_errors" s_answer_errors ["instance", "numbers"]) (c1 : Cal0 P w K mg base 3 "are_two_probabilities" sp_are_two_probabilities) (c2 : Cal0 P w K mg base 7 "decision_chance" (sp_decision_chance T)) :
    Cal0 P w K mg base 8 "answer_errors" (sp_op K T C 3 false fun l => .errors (arg l 0) (arg l 1) (arg l 2)) := by
  obtain ⟨fa, fd, F, b⟩ := F.ex
  refine C8.cal0 F b .nil (C8.fnScope_by (N := ["instance", "numbers", "p0", "p1", "divisor", "answer"]) (by decide +kernel)) (fun vs H Q E h => ?_) (fun cdv A outer s H vs Q E hr h => ?_)
  · obtain ⟨_, _, _, _, _, rfl, _⟩ := h
    rfl
  · obtain ⟨I, nb, X, s, args, rfl, S, hn, hl, hz, hT, hs, k⟩ := h
    obtain ⟨p0, p1, d, rfl⟩ : ∃ x0 x1 x2, args = [x0, x1, x2] := match args, hl with | [x0, x1, x2], _ => ⟨x0, x1, x2, rfl⟩
    replace k : Out T C I H X Q (Kxd7.step s (.errors p0 p1 d)) := k
    obtain ⟨h, t, a, rs, rfl, pl⟩ := S.plan (hs rfl)
    obtain ⟨dx, hI⟩ := id pl.ins
    have nd : (["instance", "numbers", "p0", "p1", "divisor", "answer"] : List Str).Nodup := by decide +kernel
    refine ⟨_, pss_cons (ps_asg (pv 1) (pg_lst rfl (pgs_cons (pg_name (i := 2) nd rfl (.inl rfl)) (pgs_cons (pg_name (i := 3) nd rfl (.inl rfl)) (pgs_cons (pg_name (i := 4) nd rfl (.inl rfl)) pgs_nil)))))
      (pss_cons (ps_if (pt_not (pt_val (C8.pe_c c1 hr (by decide) rfl (pa_cons (pv 2) (pa_cons (pv 3) (pa_cons (pv 4) pa_nil)))))) (pss_one (ps_ret (pe_lst (pa_cons (C8.pe_gc rfl gl.OUTSIDE_RANGE) pa_nil)))) pss_nil)
      (pss_cons (ps_set (i := 5) nd rfl (.inl rfl) (pe_lst (pa_cons pe_int pa_nil)))
      (pss_cons (ps_expr (pe_bm PySem.F.plainAttrs_list PySem.F.slot_list_extend PySem.F.type_list_extend mt_extend (pv 5) (pa_cons (C8.pe_c c2 hr (by decide) rfl (pa_cons (pe_fld (pv 0) rfl) (pa_cons (pv 2) (pa_cons (pv 4) (pa_cons (C8.pe_gc rfl gl.REJECT) pa_nil))))) pa_nil)))
      (pss_cons (ps_expr (pe_bm PySem.F.plainAttrs_list PySem.F.slot_list_extend PySem.F.type_list_extend mt_extend (pv 5) (pa_cons (C8.pe_c c2 hr (by decide) rfl (pa_cons (pe_fld (pv 0) rfl) (pa_cons (pv 3) (pa_cons (pv 4) (pa_cons (C8.pe_gc rfl gl.ACCEPT) pa_nil))))) pa_nil)))
      (pss_one (ps_ret (pv 5))))))), ?_⟩
    refine ⟨_, rfl, nb, _, rfl, hn, rfl, _, _, rfl, _, _, rfl, _, _, rfl, rfl, ?_⟩
    refine ⟨_, rfl, _, rfl, _, rfl, _, _, _, rfl, _, rfl, ?_⟩
    have st : Kxd7.step (some ⟨h, t⟩) (.errors p0 p1 d) = (some ⟨h, t⟩, if Kxd7.arePair p0 p1 d = false then .value (-22) else .values 0 (Kxd7.fields (Kxd7.minus (Kxd7.ofInt 1) (Kxd7.acceptance (planT h t) (Kxd7.share p0 d))) ++ Kxd7.fields (Kxd7.acceptance (planT h t) (Kxd7.share p1 d)))) := rfl
    rw [st, pair_eq] at k
    by_cases hc : ArePair (p0 : Int) (p1 : Int) (d : Int)
    · have h1 := hc.1
      have h2 := hc.2
      have hx0 : p0 ≤ d := by omega
      have hx1 : p1 ≤ d := by omega
      have hd1 : 1 ≤ d := by omega
      have hd2 : d ≤ 1000 := by omega
      rw [decide_eq_true hc] at k ⊢
      rw [if_neg (by decide)] at k
      refine iteF ⟨(by show 1 ≤ sizeLine; decide), fun l hl0 => ?_⟩
      have k1 : Kp T H (upd H l (.lst [V.int 0])) := Kp.of (same_upd hl0)
      refine ⟨_, rfl, .inl ⟨rfl, _, SqL.of upd_same⟩, _, rfl, I, C, dx, _, _, rfl, k1.ins hI, Ti.cl, Ti.rows, rF_get _, _, rfl, _, rfl, a, rs, t, h, p0, d, 2, rfl, ⟨k1.rows pl.rows, pl.good, hx0, hd1, hd2⟩, k1.tab hT, fun H2 q2 k2 hq0 hq => ?_⟩
      have l2 : H2 l = some (.lst [V.int 0]) := k2.lst upd_same
      refine ⟨l, q2, _, _, rfl, rfl, l2, hq, (by show 1 + 2 ≤ sizeLine; decide), ?_⟩
      have lq2 : l ≠ q2 := fun z => by rw [← z, upd_same] at hq0; cases hq0
      generalize ev1 : ([V.int 0] ++ lowest (totN (wDec 2) (planT h t) p0 d) (d ^ h) : List V) = v1
      have len1 : v1.length = 3 := by rw [← ev1]; rfl
      have hw : Kp T H (upd H2 l (.lst v1)) := by
        refine ⟨fun b o e n => ?_, fun hT' p hp => ?_, fun b e => ?_⟩
        · have e2 := (k1.trans k2).ext b o e n
          rw [upd_ne (fun z => by rw [z, hl0] at e; cases e)]
          exact e2
        · obtain ⟨ps, g1, g2, g3⟩ := (k1.trans k2).tab hT' p hp
          refine ⟨ps, ?_, g2, fun pos cv hcv => ?_⟩
          · rw [upd_ne (fun z => by rw [z, l2] at g1; cases g1)]
            exact g1
          · obtain ⟨c, e1, e2⟩ := g3 pos cv hcv
            refine ⟨c, e1, ?_⟩
            rw [upd_ne (fun z => by rw [z, l2] at e2; unfold CodeO at e2; cases e2)]
            exact e2
        · by_cases z : b = l
          · rw [z]; exact hl0
          · rw [upd_ne z] at e
            exact (k1.trans k2).non b e
      refine ⟨_, rfl, .inl ⟨rfl, _, SqL.of upd_same⟩, _, rfl, I, C, dx, _, _, rfl, hw.ins hI, Ti.cl, Ti.rows, rF_get _, _, rfl, _, rfl, a, rs, t, h, p1, d, 1, rfl, ⟨hw.rows pl.rows, pl.good, hx1, hd1, hd2⟩, hw.tab hT, fun H3 q3 k3 hq0' hq' => ?_⟩
      have l3 : H3 l = some (.lst v1) := k3.lst upd_same
      refine ⟨l, q3, _, _, rfl, rfl, l3, hq', (by rw [len1]; show 3 + 2 ≤ sizeLine; decide), ?_⟩
      generalize ev2 : (v1 ++ lowest (totN (wDec 1) (planT h t) p1 d) (d ^ h) : List V) = v2
      have hw2 : Kp T H (upd H3 l (.lst v2)) := by
        refine ⟨fun b o e n => ?_, fun hT' p hp => ?_, fun b e => ?_⟩
        · have e2 := (hw.trans k3).ext b o e n
          rw [upd_ne (fun z => by rw [z, hl0] at e; cases e)]
          exact e2
        · obtain ⟨ps, g1, g2, g3⟩ := (hw.trans k3).tab hT' p hp
          refine ⟨ps, ?_, g2, fun pos cv hcv => ?_⟩
          · rw [upd_ne (fun z => by rw [z, l3] at g1; cases g1)]
            exact g1
          · obtain ⟨c, e1, e2⟩ := g3 pos cv hcv
            refine ⟨c, e1, ?_⟩
            rw [upd_ne (fun z => by rw [z, l3] at e2; unfold CodeO at e2; cases e2)]
            exact e2
        · by_cases z : b = l
          · rw [z]; exact hl0
          · rw [upd_ne z] at e
            exact (hw.trans k3).non b e
      refine ⟨_, rfl, k _ l (Aft.kp S hw2) hl0 ?_⟩
      have hD : 0 < d ^ h := Nat.pow_pos (by omega)
      rw [upd_same, ← ev2, ← ev1, tot_dec, tot_dec, KxK.decN_one, KxK.rej_eq pl.good hx0, KxJ.errors_eq hx0 (by omega), KxG.acc_eq (planT h t) hx1 (by omega)]
      rw [KxG.lowest_eq _ _ hD, KxG.lowest_eq _ _ hD]
      show some (HO.lst _) = some (HO.lst (zs (0 :: _)))
      unfold zs
      rw [List.map_cons, List.map_append]
      rfl
    · rw [decide_eq_false hc] at k ⊢
      exact iteT ⟨(by show 1 ≤ sizeLine; decide), fun p hp => k _ p (aft_lit S hp) hp upd_same⟩
theorem c_answer_summary {T : List NTab} {C : Addr} (Ti : ICls K C) (F : DefB K mg "answer_summary" s_answer_summary ["instance", "numbers"]) (m0 : C8.Met P w K mg base 1 C "horizon" (sp_horizon C) []) : Cal0 P w K mg base 8 "answer_summary" (sp_op K T C 0 false fun _ => .summary) := by
  obtain ⟨fa, fd, F, b⟩ := F.ex
  refine C8.cal0 F b .nil (C8.fnScope_by (N := ["instance", "numbers"]) (by decide +kernel)) (fun vs H Q E h => ?_) (fun cdv A outer s H vs Q E hr h => ?_)
  · obtain ⟨_, _, _, _, _, rfl, _⟩ := h
    rfl
  · obtain ⟨I, nb, X, s, args, rfl, S, hn, hl, hz, hT, hs, k⟩ := h
    replace k : Out T C I H X Q (Kxd7.step s .summary) := k
    obtain ⟨h, t, a, rs, rfl, pl⟩ := S.plan (hs rfl)
    obtain ⟨dx, hI⟩ := id pl.ins
    refine ⟨_, pss_one (ps_ret (pe_lst (pa_cons (C8.pe_mt0 m0 hr (by decide) (pv 0)) pa_nil))), ?_⟩
    refine ⟨_, rfl, I, dx, _, rfl, hI, rF_no _ (by decide +kernel), I, h, t, a, rs, rfl, pl, (by show 1 ≤ sizeLine; decide), fun p hp => ?_⟩
    exact k _ p (aft_lit S hp) hp upd_same
theorem c_answer_row {T : List NTab} {C : Addr} (gl : Glb mg) (Ti : ICls K C) (F : DefB K mg "answer_row" s_answer_row ["instance", "numbers"]) (m0 : C8.Met P w K mg base 1 C "horizon" (sp_horizon C) []) : Cal0 P w K mg base 8 "answer_row" (sp_op K T C 1 false fun l => .row (arg l 0)) := by
  obtain ⟨fa, fd, F, b⟩ := F.ex
  refine C8.cal0 F b .nil (C8.fnScope_by (N := ["instance", "numbers", "n"]) (by decide +kernel)) (fun vs H Q E h => ?_) (fun cdv A outer s H vs Q E hr h => ?_)
  · obtain ⟨_, _, _, _, _, rfl, _⟩ := h
    rfl
  · obtain ⟨I, nb, X, s, args, rfl, S, hn, hl, hz, hT, hs, k⟩ := h
    replace k : Out T C I H X Q (Kxd7.step s (.row (arg args 0))) := k
    obtain ⟨h, t, a, rs, rfl, pl⟩ := S.plan (hs rfl)
    obtain ⟨dx, hI⟩ := id pl.ins
    have nd : (["instance", "numbers", "n"] : List Str).Nodup := by decide +kernel
    refine ⟨_, pss_cons (ps_set (i := 2) nd rfl (.inl rfl) (pe_ix ix_list (pv 1) pe_int (fun _ _ => rfl)))
      (pss_cons (ps_if (pt_cmpR op_gt (pv 2) (C8.pe_mt0 m0 hr (by decide) (pv 0)) (nomark _)) (pss_one (ps_ret (pe_lst (pa_cons (C8.pe_gc rfl gl.NO_POINT) pa_nil)))) pss_nil)
      (pss_one (ps_ret (pe_op op_cat (pe_lst (pa_cons (pe_op op_add (pv 2) pe_int) pa_nil)) (pe_ix ix_list (pe_fld (pv 0) rfl) (pv 2) (fun _ _ => rfl)))))), ?_⟩
    refine ⟨_, rfl, nb, _, _, _, rfl, rfl, hn, at_of (j := 0) rfl (nats_at (by omega)), ?_⟩
    generalize arg args 0 = n at *
    refine ⟨_, rfl, _, rfl, I, dx, _, rfl, hI, rF_no _ (by decide +kernel), I, h, t, a, rs, rfl, pl, _, _, rfl, rfl, _, rfl, ?_⟩
    have st : Kxd7.step (some ⟨h, t⟩) (.row n) = (some ⟨h, t⟩, if h < n then .value (-2) else .values (n + 1 : Nat) (Kxd7.toInts ((List.range (n + 1)).map (Kxd7.decision (planT h t) n)))) := rfl
    rw [st] at k
    by_cases hn2 : h < n
    · rw [if_pos hn2] at k
      rw [decide_eq_true (show (h : Int) < (n : Int) by omega)]
      exact iteT ⟨(by show 1 ≤ sizeLine; decide), fun p hp => k _ p (aft_lit S hp) hp upd_same⟩
    · rw [if_neg hn2] at k
      rw [decide_eq_false (show ¬ (h : Int) < (n : Int) by omega)]
      obtain ⟨r, dd, h1, h2, h3, h4, h5, _⟩ := pl.point (n := n) (s := 0) (by omega) (Nat.zero_le _)
      have hz := sizeLine_eq
      have hh := pl.good.h20
      refine iteF ⟨_, rfl, _, _, rfl, rfl, (by show 1 ≤ sizeLine; decide), fun l hl0 => ?_⟩
      have s1 : Same H (upd H l (.lst [V.int ((n : Int) + 1)])) := same_upd hl0
      refine ⟨_, rfl, I, C, dx, _, _, rfl, s1 _ _ hI, Ti.cl, Ti.rows, rF_get _, _, rfl, a, _, _, _, rfl, rfl, SqL.of (s1 _ _ pl.rows.at_), at_of rfl h3, ?_⟩
      refine ⟨l, r, _, _, rfl, rfl, upd_same, s1 _ _ h4, by rw [nats_len, h5]; show 1 + (n + 1) ≤ _; omega, fun p hp => ?_⟩
      refine k _ p (Aft.same S (s1.trans (same_upd hp))) (s1.free hp) ?_
      have e : (List.range (n + 1)).map (Kxd7.decision (planT h t) n) = dd := by
        refine List.ext_getElem? fun i => ?_
        by_cases hi : i < n + 1
        · rw [List.getElem?_map, List.getElem?_range hi]
          have e1 : Kxd7.decision (planT h t) n i = dd.getD i 1 := by
            show (t.getD n []).getD i 1 = _
            rw [List.getD_eq_getElem?_getD (l := t), h1]
            rfl
          show some (Kxd7.decision (planT h t) n i) = _
          rw [e1, List.getD_eq_getElem?_getD, List.getElem?_eq_getElem (by omega)]
          rfl
        · rw [List.getElem?_eq_none (by rw [List.length_map, List.length_range]; omega), List.getElem?_eq_none (by omega)]
      rw [upd_same, e]
      show some (HO.lst ([V.int ((n : Int) + 1)] ++ nats dd)) = some (HO.lst (V.int ((n + 1 : Nat) : Int) :: (Kxd7.toInts dd).map V.int))
      have e2 : ((n + 1 : Nat) : Int) = (n : Int) + 1 := by omega
      rw [e2]
      unfold Kxd7.toInts nats
      rw [List.map_map]
      rfl
end
end St
set_option Elab.async false
set_option linter.all false
set_option maxRecDepth 100000
set_option maxHeartbeats 2000000
set_option exponentiation.threshold 100000
/-! W28: what a plan costs and the least cost: calls 14 and 15. -/
namespace St
open PySem PySem.Spec PyProof.Rows L2 NdefX LamX KxF
theorem under_same {H1 L H' : Hp} (dis : ∀ b o, L b = some o → H1 b = Option.none) (s : Same (over L H1) H') : Same H1 (under L H') := fun b o e => by
  cases l : L b with
  | some q => rw [dis b q l] at e; cases e
  | none =>
    rw [under_none l]
    exact s b o (by rw [over_none l]; exact e)
section
variable {P : Program} {w : World} {K : PySem.W.Frag} {mg : Str → Option Value} {base : Heap}
def sp_cost_scale (C : Addr) : Sp := fun vs H Q _ => ∃ (pa : Addr) (b : PB) (h : Nat), vs = [.int h, .ref pa] ∧ ProbAt C H pa b ∧ PBOk b ∧ h ≤ 20 ∧ ∀ H', Same H H' → Q (.int ((b.pd * b.d ^ h : Nat) : Int)) H'
theorem c_cost_scale {C : Addr} (T_ : PCls K C) (F : DefB K mg "cost_scale" s_cost_scale ["horizon", "problem"]) (c1 : Cal0 P w K mg base 1 "powers" sp_powers) : Cal0 P w K mg base 2 "cost_scale" (sp_cost_scale C) := by
  obtain ⟨fa, fd, F, b⟩ := F.ex
  refine C8.cal0 F b .nil (C8.fnScope_by (N := ["horizon", "problem"]) (by decide +kernel)) (fun vs H Q E h => ?_) (fun cdv A outer s H vs Q E hr h => ?_)
  · obtain ⟨_, _, _, rfl, _⟩ := h
    rfl
  · obtain ⟨pa, b, h, rfl, ⟨dx, hp⟩, ok, hh, k⟩ := h
    refine ⟨_, pss_one (ps_ret (pe_op op_mulW (pe_fld (pv 1) rfl) (pe_ix ix_list (C8.pe_c c1 hr (by decide) rfl (pa_cons (pe_fld (pv 1) rfl) (pa_cons (pv 0) pa_nil))) (pv 0) (fun _ _ => rfl)))), ?_⟩
    have hd := ok.d
    have hpd := ok.pd
    refine ⟨_, rfl, pa, C, dx, _, _, rfl, hp, T_.cl, T_.pd, pF_pd b, ?_⟩
    refine ⟨_, rfl, pa, C, dx, _, _, rfl, hp, T_.cl, T_.d, pF_d b, _, rfl, (b.d : Int), h, rfl, by omega, by omega, fun H1 p N => ?_⟩
    refine ⟨_, rfl, p, _, _, _, rfl, rfl, SqL.of N.at_, at_of rfl (pows_int (by omega)), _, _, rfl, rfl, cmulN (i := 11) (j := 201) (by omega) (npow_small (by omega) hh) (by decide) (by decide) (by decide), ?_⟩
    show Q (.int ((b.pd : Int) * ((b.d ^ h : Nat) : Int))) H1
    rw [← Int.natCast_mul]
    exact k H1 N.same
def sp_least_cost (C : Addr) : Sp := fun vs H Q _ => ∃ (pa : Addr) (b : PB) (h : Nat), vs = [.int h, .ref pa] ∧ ProbAt C H pa b ∧ PBOk b ∧ h ≤ 20 ∧ ∀ H' q, Same H H' → H q = Option.none → H' q = some (.lst (lowest ((bestFrom b h h).getD 0 (0, 0)).2 (b.pd * b.d ^ h))) → Q (.ref q) H'
theorem scale_small {b : PB} (ok : PBOk b) {h : Nat} (hh : h ≤ 20) : 0 < b.pd * b.d ^ h ∧ b.pd * b.d ^ h < 2 ^ 8000 := by
  have h1 := ok.pd1
  have h2 := ok.p01
  have h3 := ok.p1
  have h4 := ok.d
  have h5 := ok.pd
  refine ⟨Nat.mul_pos h1 (Nat.pow_pos (by omega)), ?_⟩
  have a : b.pd < 2 ^ 11 := by omega
  have c : b.d ^ h < 2 ^ 201 := npow_small (by omega) hh
  exact Nat.lt_of_lt_of_le (mul_lt2 a c) (Nat.pow_le_pow_right (by decide) (by decide))
theorem c_least_cost {C : Addr} (F : DefB K mg "least_cost" s_least_cost ["horizon", "problem"]) (c1 : Cal0 P w K mg base 3 "best_rows" (sp_best_rows C)) (c2 : Cal0 P w K mg base 2 "cost_scale" (sp_cost_scale C)) (c3 : Cal0 P w K mg base 2 "lowest_terms" sp_lowest_terms) :
    Cal0 P w K mg base 4 "least_cost" (sp_least_cost C) := by
  obtain ⟨fa, fd, F, b⟩ := F.ex
  refine C8.cal0 F b .nil (C8.fnScope_by (N := ["horizon", "problem", "cost"]) (by decide +kernel)) (fun vs H Q E h => ?_) (fun cdv A outer s H vs Q E hr h => ?_)
  · obtain ⟨_, _, _, rfl, _⟩ := h
    rfl
  · obtain ⟨pa, b, h, rfl, ⟨dx, hp⟩, ok, hh, k⟩ := h
    have nd : (["horizon", "problem", "cost"] : List Str).Nodup := by decide +kernel
    refine ⟨_, pss_cons (ps_set (i := 2) nd rfl (.inl rfl) (pe_ix (ix_tupK (K := K) rfl) (pe_ix ix_list (pe_ix ix_list (C8.pe_c c1 hr (by decide) rfl (pa_cons (pv 0) (pa_cons (pv 1) pa_nil))) pe_int (fun _ _ => rfl)) pe_int (fun _ _ => rfl)) pe_int (fun _ _ => rfl)))
      (pss_one (ps_ret (C8.pe_c c3 hr (by decide) rfl (pa_cons (pv 2) (pa_cons (C8.pe_c c2 hr (by decide) rfl (pa_cons (pv 0) (pa_cons (pv 1) pa_nil))) pa_nil))))), ?_⟩
    refine ⟨_, rfl, _, rfl, pa, b, h, rfl, ⟨dx, hp⟩, ok, hh, fun H1 q brs s1 hq bfr B => ?_⟩
    have g0 : (bestRows b h (h + 1))[0]? = some (bestFrom b h h) := by
      unfold bestRows
      rw [List.getElem?_map, List.getElem?_range (by omega)]
      rfl
    have hn : 0 < brs.length := by
      rw [B.len]
      exact (List.getElem?_eq_some_iff.mp g0).1
    obtain ⟨l, ts, e1, P1⟩ := B.row 0 _ (List.getElem?_eq_getElem hn)
    rw [g0] at e1
    cases e1
    have e2 : (brs.map V.ref)[0]? = some (V.ref (brs[0]'hn)) := by rw [List.getElem?_map, List.getElem?_eq_getElem hn]; rfl
    have e3 : (bestFrom b h h)[0]? = some ((bestFrom b h h).getD 0 (0, 0)) := getD_pair (by rw [bestFrom_len]; omega)
    obtain ⟨tp, f1, f2⟩ := P1.get e3
    generalize (bestFrom b h h).getD 0 (0, 0) = z at *
    refine ⟨q, _, _, _, rfl, rfl, SqL.of B.at_, at_of (j := 0) rfl e2, brs[0]'hn, _, _, _, rfl, rfl, SqL.of P1.at_, at_of (j := 0) rfl f1, tp, _, _, _, rfl, rfl, SqT.of f2, at_of (j := 1) rfl rfl, ?_⟩
    refine ⟨_, rfl, _, rfl, _, rfl, pa, b, h, rfl, ⟨dx, s1 _ _ hp⟩, ok, hh, fun H2 s2 => ?_⟩
    have sm := scale_small ok hh
    refine ⟨z.2, b.pd * b.d ^ h, rfl, sm.1, sm.2, fun H3 q3 N => ?_⟩
    exact k H3 q3 ((s1.trans s2).trans N.same) ((s1.trans s2).free N.fresh) N.at_
/-! ### the cost of the plan at hand -/
def wLoss (b : PB) (k l : Nat) : Nat → Nat → Nat := fun n e => b.c * n + if e = k then l else 0
abbrev s_worth0 : Stmt := inner s_plan_cost 0
abbrev s_worth1 : Stmt := inner s_plan_cost 1
def ns_worth (C : Addr) (k : Nat) (l : PB → Nat) : List (Option V) → Sp := fun ws vs H Q _ => ∃ (pa : Addr) (b : PB) (n e : Nat), ws = [some (.ref pa)] ∧ vs = [.int n, .int e] ∧ ProbAt C H pa b ∧ b.c ≤ 1000 ∧ n ≤ 20 ∧ Q (.int (wLoss b k (l b) n e)) H
theorem n_worth0 {C : Addr} (gl : Glb mg) (T_ : PCls K C) {f c : Addr} {q : Str} {cl : List (Str × Addr)} : NOk P w K mg base C8.CX0 2 f (NF.of s_worth0 "worth0" q cl c) ["n", "decision"] ["problem"] (ns_worth C 2 PB.l0) := by
  have S : NScope ["n", "decision", "problem"] ["n", "decision"] ["problem"] (C8.fnScope s_worth0) := nscope_by (by decide +kernel)
  refine nok_of S (fun doc pm ctv us hl => match us, hl with | [_, _], _ => rfl) (fun ws vs H Q E h => ?_) fun A outer s H vs ws Q E hr hf hc hw h => ?_
  · obtain ⟨_, _, _, _, _, rfl, _⟩ := h
    rfl
  · obtain ⟨pa, b, n, e, rfl, rfl, ⟨dx, hp⟩, hc1, hn, q⟩ := h
    refine ⟨_, pss_one (ps_ret (pe_op op_add (pe_op op_mulW (pe_fld (pv 2) rfl) (pv 0)) (pe_ifExp (pt_cmpR op_eq (pv 1) (C8.pe_gc rfl gl.REJECT) (nomark _)) (pe_fld (pv 2) rfl) pe_int))), ?_⟩
    refine ⟨_, rfl, pa, C, dx, _, _, rfl, hp, T_.cl, T_.c, pF_c b, _, rfl, _, _, rfl, rfl, cmulN (i := 10) (j := 10) (by omega) (by omega) (by decide) (by decide) (by decide), ?_⟩
    refine ⟨_, rfl, rfl, _, rfl, ?_⟩
    unfold wLoss at q
    by_cases c : e = 2
    · rw [if_pos c] at q
      rw [decide_eq_true (show V.int (e : Int) = V.int 2 by rw [c]; rfl)]
      refine iteT ⟨_, rfl, pa, C, dx, _, _, rfl, hp, T_.cl, T_.l0, pF_l0 b, _, _, rfl, rfl, ?_⟩
      show Q (.int ((b.c : Int) * (n : Int) + (b.l0 : Int))) H
      rw [← Int.natCast_mul, ← Int.natCast_add]
      exact q
    · rw [if_neg c] at q
      rw [decide_eq_false (show ¬ V.int (e : Int) = V.int 2 from fun z => c (intN (b := 2) z))]
      refine iteF ⟨_, _, rfl, rfl, ?_⟩
      show Q (.int ((b.c : Int) * (n : Int) + 0)) H
      rw [← Int.natCast_mul, Int.add_zero]
      exact q
theorem n_worth1 {C : Addr} (gl : Glb mg) (T_ : PCls K C) {f c : Addr} {q : Str} {cl : List (Str × Addr)} : NOk P w K mg base C8.CX0 2 f (NF.of s_worth1 "worth1" q cl c) ["n", "decision"] ["problem"] (ns_worth C 1 PB.l1) := by
  have S : NScope ["n", "decision", "problem"] ["n", "decision"] ["problem"] (C8.fnScope s_worth1) := nscope_by (by decide +kernel)
  refine nok_of S (fun doc pm ctv us hl => match us, hl with | [_, _], _ => rfl) (fun ws vs H Q E h => ?_) fun A outer s H vs ws Q E hr hf hc hw h => ?_
  · obtain ⟨_, _, _, _, _, rfl, _⟩ := h
    rfl
  · obtain ⟨pa, b, n, e, rfl, rfl, ⟨dx, hp⟩, hc1, hn, q⟩ := h
    refine ⟨_, pss_one (ps_ret (pe_op op_add (pe_op op_mulW (pe_fld (pv 2) rfl) (pv 0)) (pe_ifExp (pt_cmpR op_eq (pv 1) (C8.pe_gc rfl gl.ACCEPT) (nomark _)) (pe_fld (pv 2) rfl) pe_int))), ?_⟩
    refine ⟨_, rfl, pa, C, dx, _, _, rfl, hp, T_.cl, T_.c, pF_c b, _, rfl, _, _, rfl, rfl, cmulN (i := 10) (j := 10) (by omega) (by omega) (by decide) (by decide) (by decide), ?_⟩
    refine ⟨_, rfl, rfl, _, rfl, ?_⟩
    unfold wLoss at q
    by_cases c : e = 1
    · rw [if_pos c] at q
      rw [decide_eq_true (show V.int (e : Int) = V.int 1 by rw [c]; rfl)]
      refine iteT ⟨_, rfl, pa, C, dx, _, _, rfl, hp, T_.cl, T_.l1, pF_l1 b, _, _, rfl, rfl, ?_⟩
      show Q (.int ((b.c : Int) * (n : Int) + (b.l1 : Int))) H
      rw [← Int.natCast_mul, ← Int.natCast_add]
      exact q
    · rw [if_neg c] at q
      rw [decide_eq_false (show ¬ V.int (e : Int) = V.int 1 from fun z => c (intN (b := 1) z))]
      refine iteF ⟨_, _, rfl, rfl, ?_⟩
      show Q (.int ((b.c : Int) * (n : Int) + 0)) H
      rw [← Int.natCast_mul, Int.add_zero]
      exact q
/-- the cost as the program adds it up -/
def pcN (b : PB) (h : Nat) (t : List (List Nat)) : Nat := (b.pd - b.pr) * totN (wLoss b 2 b.l0) (planT h t) b.p0 b.d + b.pr * totN (wLoss b 1 b.l1) (planT h t) b.p1 b.d
def nm_pc : Nat → Nat → Str := fun l _ => if l = (posOf s_worth0).line then "plan_cost.<locals>.worth0" else "plan_cost.<locals>.worth1"
def sp_plan_cost (C : Addr) (T : List NTab) : Sp := fun vs H Q _ => ∃ (a pa : Addr) (rs : List Addr) (t : List (List Nat)) (h : Nat) (b : PB), vs = [.ref a, .ref pa] ∧ RowsAt H a rs t ∧ GoodT h t ∧ ProbAt C H pa b ∧ PBOk b ∧ TabsN T H ∧
  ∀ H' q, Kp T H H' → H q = Option.none → H' q = some (.lst (lowest (pcN b h t) (b.pd * b.d ^ h))) → Q (.ref q) H'
theorem tot_small {W : Nat → Nat → Nat} {h x d : Nat} {t : List (List Nat)} (g : GoodT h t) (hx : x ≤ d) (hd : d ≤ 1000) (hW : ∀ n e, n ≤ h → e ≤ 2 → W n e < 2 ^ 20) : totN W (planT h t) x d < 2 ^ 300 := by
  have key : ∀ l : List (Nat × Nat), (∀ z ∈ l, z.1 ≤ h ∧ z.2 ≤ z.1) → KxG.wsum h x d (fun z => W z.1 (Kxd7.decision (planT h t) z.1 z.2) * Kxd7.paths (planT h t) z.1 z.2) l ≤ 2 ^ 20 * KxG.wsum h x d (fun z => Kxd7.paths (planT h t) z.1 z.2) l := fun l => by
    induction l with
    | nil => intro _; exact Nat.zero_le _
    | cons z l ih =>
      intro hl
      rw [KxK.wsum_cons, KxK.wsum_cons, Nat.mul_add]
      refine Nat.add_le_add ?_ (ih fun y hy => hl y (.tail _ hy))
      have h1 := Nat.le_of_lt (hW z.1 _ (hl z (.head _)).1 (KxK.dec_le g z.1 z.2))
      simp only [Nat.mul_assoc]
      exact Nat.mul_le_mul_right _ h1
  have e := key (Kxd7.stops (planT h t)) fun z hz => KxG.stops_in z hz
  rw [KxK.stops_all g hx] at e
  have b3 : d ^ h < 2 ^ 201 := npow_small (by omega) g.h20
  have e2 : 2 ^ 20 * d ^ h ≤ 2 ^ 20 * 2 ^ 201 := Nat.mul_le_mul_left _ (Nat.le_of_lt b3)
  rw [← Nat.pow_add] at e2
  exact Nat.lt_of_le_of_lt (Nat.le_trans e e2) (Nat.pow_lt_pow_right (by decide) (by decide))
theorem c_plan_cost {C : Addr} {T : List NTab} {c tb : Addr} (gl : Glb mg) (T_ : PCls K C) (F : DefT K mg "plan_cost" s_plan_cost ["rows", "problem"] c) (TB : TabB base mg c tb) (hm : (tb, nm_pc) ∈ T) (hu : ∀ p ∈ T, p.1 = tb → p.2 = nm_pc)
    (c1 : Cal0 P w K mg base 5 "expected_total" (sp_expected_total P w K mg base)) (c2 : Cal0 P w K mg base 2 "cost_scale" (sp_cost_scale C)) (c3 : Cal0 P w K mg base 2 "lowest_terms" sp_lowest_terms) : Cal0 P w K mg base 6 "plan_cost" (sp_plan_cost C T) := by
  obtain ⟨f, fd, oc, od, dV, kV, doc, pm, an, ct, osl, rfl, lk, hcd, mgf, kp, b⟩ := F.ex
  refine ⟨f, _, ["rows", "problem"], [], fn_of lk hcd (C8.fnScope_by (N := ["rows", "problem", "worth0", "worth1", "prior0", "total"]) (by decide +kernel)) (fun vs H Q E h => ?_) fun A outer s H vs Q E hr h => ?_, mgf, kp, b, .nil⟩
  · obtain ⟨_, _, _, _, _, _, rfl, _⟩ := h
    rfl
  · obtain ⟨a, pa, rs, t, h, b, rfl, R, g, ⟨dx, hp⟩, ok, hT, k⟩ := h
    have nd : (["rows", "problem", "worth0", "worth1", "prior0", "total"] : List Str).Nodup := by decide +kernel
    have fb0 : ndefB (C8.fnScope s_plan_cost) (C8.fnScope s_worth0) ["problem"] = true := by decide +kernel
    have fb1 : ndefB (C8.fnScope s_plan_cost) (C8.fnScope s_worth1) ["problem"] = true := by decide +kernel
    have hst0 : s_worth0 = .FunctionDef "worth0" (C8.fnArgs s_worth0) (C8.fnBody s_worth0) [] none [] (C8.fnScope s_worth0) none "worth0" (posOf s_worth0) := rfl
    have hst1 : s_worth1 = .FunctionDef "worth1" (C8.fnArgs s_worth1) (C8.fnBody s_worth1) [] none [] (C8.fnScope s_worth1) none "worth1" (posOf s_worth1) := rfl
    have hfree0 := ndef_free fb0
    have hfr0 := ndef_fr fb0
    have hfree1 := ndef_free fb1
    have hfr1 := ndef_fr fb1
    refine ⟨_, pss_cons (ps_ndefMS (i := 2) hst0 TB rfl hm (by rfl) hu hfree0 rfl rfl rfl nd rfl (.inl rfl) (.inr rfl))
      (pss_cons (ps_ndefMS (i := 3) hst1 TB rfl hm (by rfl) hu hfree1 rfl rfl rfl nd rfl (.inl rfl) (.inr rfl))
      (C8.pss_cut (ps_set (i := 4) nd rfl (.inl rfl) (pe_op op_sub (pe_fld (pv 1) rfl) (pe_fld (pv 1) rfl)))
      (pss_cons (ps_set (i := 5) nd rfl (.inl rfl) (pe_op op_mulW (pv 4) (pe_cw (js := [1]) c1 hr (by decide) rfl (fun ok => Caps.made ok hfree0 hfr0 rfl) (fun _ _ => rfl) (clo_in (by decide +kernel)) (by decide +kernel) (pa_cons (pv 0) (pa_cons (pe_fld (pv 1) rfl) (pa_cons (pe_fld (pv 1) rfl) (pa_cons (pv 2) pa_nil)))))))
      (pss_cons (ps_aug (i := 5) nd rfl (.inl rfl) (pe_op op_mulW (pe_fld (pv 1) rfl) (pe_cw (js := [1]) c1 hr (by decide) rfl (fun ok => Caps.made ok hfree1 hfr1 rfl) (fun _ _ => rfl) (clo_in (by decide +kernel)) (by decide +kernel) (pa_cons (pv 0) (pa_cons (pe_fld (pv 1) rfl) (pa_cons (pe_fld (pv 1) rfl) (pa_cons (pv 3) pa_nil)))))) ip_add)
      (pss_one (ps_ret (C8.pe_c c3 hr (by decide) rfl (pa_cons (pv 5) (pa_cons (C8.pe_c c2 hr (by decide) rfl (pa_cons (pe_op op_sub (pe_callB call_len_seq (by rfl) gl.len PySem.boot_len (pa_cons (pv 0) pa_nil)) pe_int) (pa_cons (pv 1) pa_nil))) pa_nil))))))))), ?_⟩
    refine ⟨hT, fun f0 cc0 H1 eN1 nn1 T1 a0 a1 a2 => ⟨T1, fun g0 dd0 H2 eN2 nn2 T2 b0 b1 b2 => ?_⟩⟩
    have k1 : Kp T H H1 := ⟨eN1, fun _ => T1, nn1⟩
    have k2 : Kp T H1 H2 := ⟨eN2, fun _ => T2, nn2⟩
    have k12 := k1.trans k2
    have fa2 : H2 f0 = some (FnO f0 _) := eN2 _ _ a1 (fun ps => fnO_ne ps)
    have ca2 : H2 cc0 = some (CodeO cc0 _) := eN2 _ _ a2 (fun ps => codeO_ne ps)
    have hp2 := k12.ins hp
    have R2 := k12.rows R
    have hd := ok.d
    have hpd := ok.pd
    have hpr := ok.pr
    have hpr2 : b.pr < 2 ^ 11 := by omega
    have hsb : b.pd - b.pr < 2 ^ 11 := by omega
    have hx0 : b.p0 ≤ b.d := by have := ok.p01; have := ok.p1; omega
    have hx1 : b.p1 ≤ b.d := by have := ok.p1; omega
    have hd1 : 1 ≤ b.d := by have := ok.p01; omega
    have hc := ok.c
    have hl0 := ok.l0
    have hl1 := ok.l1
    have hh := g.h20
    have w0s : ∀ n e, n ≤ h → e ≤ 2 → wLoss b 2 b.l0 n e < 2 ^ 20 := fun n e hn _ => by
      unfold wLoss
      have : b.c * n ≤ 1000 * 20 := Nat.mul_le_mul hc (by omega)
      split <;> omega
    have w1s : ∀ n e, n ≤ h → e ≤ 2 → wLoss b 1 b.l1 n e < 2 ^ 20 := fun n e hn _ => by
      unfold wLoss
      have : b.c * n ≤ 1000 * 20 := Nat.mul_le_mul hc (by omega)
      split <;> omega
    have e2 : (b.pd : Int) - (b.pr : Int) = ((b.pd - b.pr : Nat) : Int) := by omega
    refine ⟨fun σ' H' => σ' = [some (.ref a), some (.ref pa), some (.ref f0), some (.ref g0), some (.int ((b.pd - b.pr : Nat) : Int)), none] ∧ H' = H2, ⟨_, rfl, pa, C, dx, _, _, rfl, hp2, T_.cl, T_.pd, pF_pd b, _, rfl, pa, C, dx, _, _, rfl, hp2, T_.cl, T_.pr, pF_pr b, _, _, rfl, rfl, ?_⟩, ?_⟩
    · refine ⟨?_, rfl⟩
      rw [← e2]
      rfl
    rintro σ' H' ⟨rfl, rfl⟩
    refine ⟨_, rfl, _, rfl, _, rfl, pa, C, dx, _, _, rfl, hp2, T_.cl, T_.p0, pF_p0 b, _, rfl, pa, C, dx, _, _, rfl, hp2, T_.cl, T_.d, pF_d b, _, rfl, [.ref pa], rfl, fun L CL dis => ?_⟩
    refine ⟨a, f0, rs, t, h, b.p0, b.d, wLoss b 2 b.l0, rfl, ⟨R2.same (over_same dis), g, hx0, hd1, hd, w0s, given_def fa2 ca2 (n_worth0 gl T_) CL dis fun H3 n e Q2 s3 hn _ q => ⟨pa, b, n, e, rfl, rfl, ⟨dx, s3 _ _ hp2⟩, hc, by omega, q⟩⟩, fun H4 s4 => ?_⟩
    have s5 := under_same dis s4
    have t0 := tot_small g hx0 hd w0s
    generalize ht0 : totN (wLoss b 2 b.l0) (planT h t) b.p0 b.d = t0v at *
    refine ⟨_, _, rfl, rfl, cmulN hsb t0 (by decide) (by decide) (by decide), ?_⟩
    generalize under L H4 = H5 at *
    have hp5 := s5 _ _ hp2
    refine ⟨_, rfl, _, rfl, pa, C, dx, _, _, rfl, hp5, T_.cl, T_.pr, pF_pr b, _, rfl, _, rfl, pa, C, dx, _, _, rfl, hp5, T_.cl, T_.p1, pF_p1 b, _, rfl, pa, C, dx, _, _, rfl, hp5, T_.cl, T_.d, pF_d b, _, rfl, [.ref pa], rfl, fun L2 CL2 dis2 => ?_⟩
    refine ⟨a, g0, rs, t, h, b.p1, b.d, wLoss b 1 b.l1, rfl, ⟨(R2.same s5).same (over_same dis2), g, hx1, hd1, hd, w1s, given_def (s5 _ _ b1) (s5 _ _ b2) (n_worth1 gl T_) CL2 dis2 fun H3 n e Q2 s3 hn _ q => ⟨pa, b, n, e, rfl, rfl, ⟨dx, s3 _ _ hp5⟩, hc, by omega, q⟩⟩, fun H6 s6 => ?_⟩
    have s7 := under_same dis2 s6
    have t1 := tot_small g hx1 hd w1s
    generalize ht1 : totN (wLoss b 1 b.l1) (planT h t) b.p1 b.d = t1v at *
    refine ⟨_, _, rfl, rfl, cmulN hpr2 t1 (by decide) (by decide) (by decide), ?_⟩
    generalize under L2 H6 = H7 at *
    have s27 := s5.trans s7
    have R7 := R2.same s27
    have e1 : (((rs.map V.ref).length : Nat) : Int) - 1 = (h : Int) := by
      rw [List.length_map, R.len, g.len]
      omega
    refine ⟨_, _, rfl, rfl, _, rfl, _, rfl, a, _, rfl, .inl (SqL.of R7.at_), _, _, rfl, rfl, _, rfl, pa, b, h, ?_, ⟨dx, s7 _ _ hp5⟩, ok, hh, fun H8 s8 => ?_⟩
    · rw [← e1]
      rfl
    have sm := scale_small ok hh
    refine ⟨pcN b h t, b.pd * b.d ^ h, ?_, sm.1, sm.2, fun H9 q9 N => ?_⟩
    · unfold pcN
      rw [ht0, ht1, Int.natCast_add, Int.natCast_mul, Int.natCast_mul]
      rfl
    · have kk : Kp T H H9 := k12.trans (Kp.of ((s27.trans s8).trans N.same))
      exact k H9 q9 kk ((k12.trans (Kp.of (s27.trans s8))).non q9 N.fresh) N.at_
/-- .. is what the specification says -/
theorem pcN_eq (b : PB) {h : Nat} {t : List (List Nat)} (g : GoodT h t) (hx : b.p0 ≤ b.d) : pcN b h t = KxJ.costN b h t := by
  have key : ∀ k l x, totN (wLoss b k l) (planT h t) x b.d = b.c * KxG.sizeN (planT h t) x b.d + l * KxK.decN (planT h t) x b.d k := fun k l x => by
    unfold totN KxG.sizeN KxK.decN
    rw [← KxK.wsum_pick, ← KxK.wsum_mul, ← KxK.wsum_mul, ← KxK.wsum_add]
    refine KxK.wsum_congr _ _ _ fun z _ => ?_
    unfold wLoss
    rw [Nat.add_mul, Nat.mul_assoc]
    congr 1
    by_cases e : Kxd7.decision (planT h t) z.1 z.2 = k
    · rw [if_pos e, if_pos (by rw [e]; simp), Nat.one_mul]
    · rw [if_neg e, if_neg (by simpa using e)]
      simp
  unfold pcN KxJ.costN
  rw [key, key, KxK.rej_eq g hx, KxK.decN_one]
theorem prob_step (h : Nat) (t : List (List Nat)) (b : PB) : Kxd7.step (some ⟨h, t⟩) (.planCost b.p0 b.p1 b.d b.pr b.pd b.c b.l0 b.l1) = (some ⟨h, t⟩, if decide (IsPB b) = false then .value (-22) else Kxd7.fractionResult (Kxd7.planCost (KxD.prob b) (planT h t))) := by
  rw [← isPB_spec]
  rfl
theorem least_step (h : Nat) (t : List (List Nat)) (b : PB) : Kxd7.step (some ⟨h, t⟩) (.leastCost b.p0 b.p1 b.d b.pr b.pd b.c b.l0 b.l1) = (some ⟨h, t⟩, if decide (IsPB b) = false then .value (-22) else Kxd7.fractionResult (Kxd7.leastCost (KxD.prob b) h)) := by
  rw [← isPB_spec]
  rfl
theorem c_answer_plan_cost {T : List NTab} {C CP : Addr} (gl : Glb mg) (Ti : ICls K C) (Tp : PCls K CP) (F : DefB K mg "answer_plan_cost" s_answer_plan_cost ["instance", "numbers"]) (c0 : C8.Mak P w K mg base 1 "Problem" CP (sp_Problem K CP) []) (c1 : Cal0 P w K mg base 4 "is_problem" (sp_is_problem CP)) (c2 : Cal0 P w K mg base 6 "plan_cost" (sp_plan_cost CP T)) :
    Cal0 P w K mg base 8 "answer_plan_cost" (sp_op K T C 8 false fun l => .planCost (arg l 0) (arg l 1) (arg l 2) (arg l 3) (arg l 4) (arg l 5) (arg l 6) (arg l 7)) := by
  obtain ⟨fa, fd, F, b⟩ := F.ex
  refine C8.cal0 F b .nil (C8.fnScope_by (N := ["instance", "numbers", "problem"]) (by decide +kernel)) (fun vs H Q E h => ?_) (fun cdv A outer s H vs Q E hr h => ?_)
  · obtain ⟨_, _, _, _, _, rfl, _⟩ := h
    rfl
  · obtain ⟨I, nb, X, s, args, rfl, S, hn, hl, hz, hT, hs, k⟩ := h
    obtain ⟨b, rfl⟩ : ∃ b : PB, args = numsOf b := match args, hl with | [p0, p1, d, pr, pd, c, l0, l1], _ => ⟨⟨p0, p1, d, pr, pd, c, l0, l1⟩, rfl⟩
    replace k : Out T C I H X Q (Kxd7.step s (.planCost b.p0 b.p1 b.d b.pr b.pd b.c b.l0 b.l1)) := k
    obtain ⟨h, t, a, rs, rfl, pl⟩ := S.plan (hs rfl)
    obtain ⟨dx, hI⟩ := id pl.ins
    have nd : (["instance", "numbers", "problem"] : List Str).Nodup := by decide +kernel
    refine ⟨_, pss_cons (ps_set (i := 2) nd rfl (.inl rfl) (C8.pe_mk c0 hr (by decide) rfl (pa_cons (pv 1) pa_nil)))
      (pss_cons (ps_if (pt_not (pt_val (C8.pe_c c1 hr (by decide) rfl (pa_cons (pv 2) pa_nil)))) (pss_one (ps_ret (pe_lst (pa_cons (C8.pe_gc rfl gl.OUTSIDE_RANGE) pa_nil)))) pss_nil)
      (pss_one (ps_ret (pe_op op_cat (pe_lst (pa_cons pe_int pa_nil)) (C8.pe_c c2 hr (by decide) rfl (pa_cons (pe_fld (pv 0) rfl) (pa_cons (pv 2) pa_nil))))))), ?_⟩
    refine ⟨_, rfl, fun x dp hx hd ne => ?_⟩
    have s1 : Same H (upd (upd H dp (.own x)) x (.ins CP dp [])) := (same_upd hd).trans (same_upd (by rw [upd_ne (Ne.symm ne)]; exact hx))
    refine ⟨x, nb, dp, b, rfl, upd_same, s1.seq hn, rfl, ?_⟩
    rw [upd_upd]
    have s2 : Same H (upd (upd H dp (.own x)) x (.ins CP dp (pF b))) := (same_upd hd).trans (same_upd (by rw [upd_ne (Ne.symm ne)]; exact hx))
    have hp : ProbAt CP (upd (upd H dp (.own x)) x (.ins CP dp (pF b))) x b := ⟨dp, upd_same⟩
    generalize upd (upd H dp (.own x)) x (.ins CP dp (pF b)) = H1 at *
    refine ⟨_, rfl, x, b, rfl, hp, _, rfl, ?_⟩
    rw [prob_step] at k
    by_cases hc : IsPB b
    · rw [decide_eq_true hc] at k ⊢
      rw [if_neg (by decide)] at k
      have ok := isPB_ok hc
      have hx0 : b.p0 ≤ b.d := by have := ok.p01; have := ok.p1; omega
      refine iteF ⟨(by show 1 ≤ sizeLine; decide), fun l hl0 => ?_⟩
      have s3 : Same H1 (upd H1 l (.lst [V.int 0])) := same_upd hl0
      have s23 := s2.trans s3
      obtain ⟨dp', hp'⟩ := hp
      refine ⟨_, rfl, I, C, dx, _, _, rfl, s23 _ _ hI, Ti.cl, Ti.rows, rF_get _, _, rfl, a, x, rs, t, h, b, rfl, pl.rows.same s23, pl.good, ⟨dp', s3 _ _ hp'⟩, ok, hT.ext s23, fun H2 q k2 hq0 hq => ?_⟩
      refine ⟨l, q, _, _, rfl, rfl, k2.lst upd_same, hq, (by show 1 + 2 ≤ sizeLine; decide), fun p hp => ?_⟩
      have kk : Kp T H H2 := (Kp.of (T := T) s23).trans k2
      refine k _ p ((Aft.kp S kk).more (same_upd hp)) (kk.non p hp) ?_
      rw [upd_same, pcN_eq b pl.good hx0, KxJ.planCost_eq ok, frac_fields _ _ (scale_small ok pl.good.h20).1]
    · rw [decide_eq_false hc] at k ⊢
      exact iteT ⟨(by show 1 ≤ sizeLine; decide), fun p hp => k _ p ((Aft.same S s2).more (same_upd hp)) (s2.free hp) upd_same⟩
theorem c_answer_least_cost {T : List NTab} {C CP : Addr} (gl : Glb mg) (Ti : ICls K C) (Tp : PCls K CP) (F : DefB K mg "answer_least_cost" s_answer_least_cost ["instance", "numbers"]) (c0 : C8.Mak P w K mg base 1 "Problem" CP (sp_Problem K CP) []) (c1 : Cal0 P w K mg base 4 "is_problem" (sp_is_problem CP)) (c2 : Cal0 P w K mg base 4 "least_cost" (sp_least_cost CP))
    (m0 : C8.Met P w K mg base 1 C "horizon" (sp_horizon C) []) : Cal0 P w K mg base 8 "answer_least_cost" (sp_op K T C 8 false fun l => .leastCost (arg l 0) (arg l 1) (arg l 2) (arg l 3) (arg l 4) (arg l 5) (arg l 6) (arg l 7)) := by
  obtain ⟨fa, fd, F, b⟩ := F.ex
  refine C8.cal0 F b .nil (C8.fnScope_by (N := ["instance", "numbers", "problem"]) (by decide +kernel)) (fun vs H Q E h => ?_) (fun cdv A outer s H vs Q E hr h => ?_)
  · obtain ⟨_, _, _, _, _, rfl, _⟩ := h
    rfl
  · obtain ⟨I, nb, X, s, args, rfl, S, hn, hl, hz, hT, hs, k⟩ := h
    obtain ⟨b, rfl⟩ : ∃ b : PB, args = numsOf b := match args, hl with | [p0, p1, d, pr, pd, c, l0, l1], _ => ⟨⟨p0, p1, d, pr, pd, c, l0, l1⟩, rfl⟩
    replace k : Out T C I H X Q (Kxd7.step s (.leastCost b.p0 b.p1 b.d b.pr b.pd b.c b.l0 b.l1)) := k
    obtain ⟨h, t, a, rs, rfl, pl⟩ := S.plan (hs rfl)
    obtain ⟨dx, hI⟩ := id pl.ins
    have nd : (["instance", "numbers", "problem"] : List Str).Nodup := by decide +kernel
    refine ⟨_, pss_cons (ps_set (i := 2) nd rfl (.inl rfl) (C8.pe_mk c0 hr (by decide) rfl (pa_cons (pv 1) pa_nil)))
      (pss_cons (ps_if (pt_not (pt_val (C8.pe_c c1 hr (by decide) rfl (pa_cons (pv 2) pa_nil)))) (pss_one (ps_ret (pe_lst (pa_cons (C8.pe_gc rfl gl.OUTSIDE_RANGE) pa_nil)))) pss_nil)
      (pss_one (ps_ret (pe_op op_cat (pe_lst (pa_cons pe_int pa_nil)) (C8.pe_c c2 hr (by decide) rfl (pa_cons (C8.pe_mt0 m0 hr (by decide) (pv 0)) (pa_cons (pv 2) pa_nil))))))), ?_⟩
    refine ⟨_, rfl, fun x dp hx hd ne => ?_⟩
    have s1 : Same H (upd (upd H dp (.own x)) x (.ins CP dp [])) := (same_upd hd).trans (same_upd (by rw [upd_ne (Ne.symm ne)]; exact hx))
    refine ⟨x, nb, dp, b, rfl, upd_same, s1.seq hn, rfl, ?_⟩
    rw [upd_upd]
    have s2 : Same H (upd (upd H dp (.own x)) x (.ins CP dp (pF b))) := (same_upd hd).trans (same_upd (by rw [upd_ne (Ne.symm ne)]; exact hx))
    have hp : ProbAt CP (upd (upd H dp (.own x)) x (.ins CP dp (pF b))) x b := ⟨dp, upd_same⟩
    generalize upd (upd H dp (.own x)) x (.ins CP dp (pF b)) = H1 at *
    refine ⟨_, rfl, x, b, rfl, hp, _, rfl, ?_⟩
    rw [least_step] at k
    by_cases hc : IsPB b
    · rw [decide_eq_true hc] at k ⊢
      rw [if_neg (by decide)] at k
      have ok := isPB_ok hc
      refine iteF ⟨(by show 1 ≤ sizeLine; decide), fun l hl0 => ?_⟩
      have s3 : Same H1 (upd H1 l (.lst [V.int 0])) := same_upd hl0
      have s23 := s2.trans s3
      obtain ⟨dp', hp'⟩ := hp
      have pl3 := pl.same s23
      refine ⟨_, rfl, I, dx, _, rfl, s23 _ _ hI, rF_no _ (by decide +kernel), I, h, t, a, rs, rfl, pl3, _, rfl, x, b, h, rfl, ⟨dp', s3 _ _ hp'⟩, ok, pl.good.h20, fun H2 q s4 hq0 hq => ?_⟩
      refine ⟨l, q, _, _, rfl, rfl, s4 _ _ upd_same, hq, (by show 1 + 2 ≤ sizeLine; decide), fun p hp => ?_⟩
      have ss := s23.trans s4
      refine k _ p ((Aft.same S ss).more (same_upd hp)) (ss.free hp) ?_
      rw [upd_same, KxD.leastCost_eq ok, frac_fields _ _ (KxD.scale_pos ok h)]
      rfl
    · rw [decide_eq_false hc] at k ⊢
      exact iteT ⟨(by show 1 ≤ sizeLine; decide), fun p hp => k _ p ((Aft.same S s2).more (same_upd hp)) (s2.free hp) upd_same⟩
end
end St
/-! KxL: the unbiased estimate. -/
namespace KxL
open Kxd7 St
section
variable {h : Nat} {t : List (List Nat)}
theorem from_eq (h0 : decision (planT h t) 0 0 = 0) : ∀ n, pathsFromSuccessRow (planT h t) (n + 1) = rowAt t 1 [0, 1] n
  | 0 => by
    show (if decision (planT h t) 0 0 = 0 then [0, 1] else [0, 0]) = [0, 1]
    rw [if_pos h0]
  | n + 1 => by
    show nextRow (t.getD (n + 1) []) (pathsFromSuccessRow (planT h t) (n + 1)) = nextRow (t.getD (1 + n) []) (rowAt t 1 [0, 1] n)
    rw [from_eq h0 n, Nat.add_comm n 1]
/-- where the plan stops at once there are no paths further on -/
theorem no_paths (h0 : decision (planT h t) 0 0 ≠ 0) : ∀ n, ∀ x ∈ pathRow (planT h t) (n + 1), x = 0
  | 0, x, hx => by
    have e : pathRow (planT h t) 1 = [0, 0] := by
      show List.zipWith (· + ·) ([if decision (planT h t) 0 0 = 0 then 1 else 0] ++ [0]) (0 :: [if decision (planT h t) 0 0 = 0 then 1 else 0]) = _
      rw [if_neg h0]
      rfl
    rw [e] at hx
    simpa using hx
  | n + 1, x, hx => by
    have ih := no_paths h0 n
    rw [pathRow_succ] at hx
    have e : nextRow (t.getD (n + 1) []) (pathRow (planT h t) (n + 1)) = (List.range ((pathRow (planT h t) (n + 1)).length + 1)).map (nval (t.getD (n + 1) []) (pathRow (planT h t) (n + 1)) (pathRow (planT h t) (n + 1)).length) := (nrow_all _ _).symm
    rw [e] at hx
    obtain ⟨i, _, e2⟩ := List.mem_map.mp hx
    have m0 : ∀ i, msk (t.getD (n + 1) []) (pathRow (planT h t) (n + 1)) (pathRow (planT h t) (n + 1)).length i = 0 := fun i => by
      unfold msk
      split
      · rw [List.getD_eq_getElem?_getD]
        cases e3 : (pathRow (planT h t) (n + 1))[i]? with
        | none => rfl
        | some y => exact ih y (List.mem_of_getElem? e3)
      · rfl
    rw [← e2]
    cases i with
    | zero => exact m0 0
    | succ i =>
      show msk _ _ _ (i + 1) + msk _ _ _ i = 0
      rw [m0, m0]
theorem starts {n s : Nat} (hn : 0 < n) (hp : paths (planT h t) n s ≠ 0) : decision (planT h t) 0 0 = 0 := by
  refine Classical.byContradiction fun z => hp ?_
  obtain ⟨m, rfl⟩ : ∃ m, n = m + 1 := ⟨n - 1, by omega⟩
  unfold paths
  rw [List.getD_eq_getElem?_getD]
  cases e : (pathRow (planT h t) (m + 1))[s]? with
  | none => rfl
  | some y => exact no_paths z m y (List.mem_of_getElem? e)
theorem unbiased_eq {n s : Nat} (hn : 0 < n) (hp : paths (planT h t) n s ≠ 0) : unbiased (planT h t) n s = KxA.fr ((((rowAt t 1 [0, 1] (n - 1)).getD s 0 : Nat) : Rat) / ((paths (planT h t) n s : Nat) : Rat)) := by
  unfold unbiased
  obtain ⟨m, rfl⟩ : ∃ m, n = m + 1 := ⟨n - 1, by omega⟩
  rw [from_eq (starts (by omega) hp), KxA.fraction_eq, Rat.divInt_eq_div]
  rfl
end
end KxL
set_option Elab.async false
set_option linter.all false
set_option maxRecDepth 100000
set_option maxHeartbeats 2000000
set_option exponentiation.threshold 100000
/-! W29: the unbiased estimate: call 16; ranges of the last calls. -/
namespace St
open PySem PySem.Spec PyProof.Rows L2 NdefX LamX KxF
section
variable {P : Program} {w : World} {K : PySem.W.Frag} {mg : Str → Option Value} {base : Heap}
def NoEst (h : Nat) (t : List (List Nat)) (n s : Nat) : Prop := Kxd7.decision (planT h t) n s = 0 ∨ Kxd7.paths (planT h t) n s = 0 ∨ n = 0
def sp_unbiased_estimate : Sp := fun vs H Q _ => ∃ (a : Addr) (rs : List Addr) (t : List (List Nat)) (h n s : Nat), vs = [.ref a, .int n, .int s] ∧ RowsAt H a rs t ∧ GoodT h t ∧ s ≤ n ∧ n ≤ h ∧ (NoEst h t n s → ∀ H', Same H H' → Q .non H') ∧
  (¬ NoEst h t n s → ∀ H' q, Same H H' → H q = Option.none → H' q = some (.lst (lowest ((rowAt t 1 [0, 1] (n - 1)).getD s 0) (Kxd7.paths (planT h t) n s))) → Q (.ref q) H')
theorem c_unbiased_estimate (gl : Glb mg) (F : DefB K mg "unbiased_estimate" s_unbiased_estimate ["rows", "n", "s"]) (c1 : Cal0 P w K mg base 3 "path_counts" sp_path_counts) (c2 : Cal0 P w K mg base 2 "counts_behind" sp_counts_behind) (c3 : Cal0 P w K mg base 2 "lowest_terms" sp_lowest_terms) :
    Cal0 P w K mg base 4 "unbiased_estimate" sp_unbiased_estimate := by
  obtain ⟨fa, fd, F, b⟩ := F.ex
  refine C8.cal0 F b .nil (C8.fnScope_by (N := ["rows", "n", "s", "count", "success_first"]) (by decide +kernel)) (fun vs H Q E h => ?_) (fun cdv A outer s H vs Q E hr h => ?_)
  · obtain ⟨_, _, _, _, _, _, rfl, _⟩ := h
    rfl
  · obtain ⟨a, rs, t, h, n, s', rfl, R, g, hsn, hn, k1, k2⟩ := h
    have nd : (["rows", "n", "s", "count", "success_first"] : List Str).Nodup := by decide +kernel
    refine ⟨_, C8.pss_cut (ps_set (i := 3) nd rfl (.inl rfl) (pe_ix ix_list (pe_ix ix_list (C8.pe_c c1 hr (by decide) rfl (pa_cons (pv 0) pa_nil)) (pv 1) (fun _ _ => rfl)) (pv 2) (fun _ _ => rfl)))
      (pss_cons (ps_if (PW.pt (pw_or (pt_cmpR op_eq (pv 1) pe_int (nomark _)) (pw_or (pt_cmpR op_eq (pe_ix ix_list (pe_ix ix_list (pv 0) (pv 1) (fun _ _ => rfl)) (pv 2) (fun _ _ => rfl)) (C8.pe_gc rfl gl.GO_ON) (nomark _)) (pw_or1 (pt_cmpR op_eq (pv 3) pe_int (nomark _)))))) (pss_one (ps_ret pe_non)) pss_nil)
      (pss_cons (ps_set (i := 4) nd rfl (.inl rfl) (C8.pe_c c2 hr (by decide) rfl (pa_cons (pv 0) (pa_cons (pe_lst (pa_cons (pe_lst (pa_cons pe_int pa_nil)) (pa_cons (pe_lst (pa_cons pe_int (pa_cons pe_int pa_nil))) pa_nil))) pa_nil))))
      (pss_one (ps_ret (C8.pe_c c3 hr (by decide) rfl (pa_cons (pe_ix ix_list (pe_ix ix_list (pv 4) (pv 1) (fun _ _ => rfl)) (pv 2) (fun _ _ => rfl)) (pa_cons (pv 3) pa_nil))))))), ?_⟩
    have hh := g.h20
    refine ⟨fun σ' H' => σ' = [some (.ref a), some (.int n), some (.int s'), some (.int (Kxd7.paths (planT h t) n s' : Nat)), none] ∧ Same H H', ⟨_, rfl, a, rs, t, h, rfl, R, g.len, hh, g.tri, fun H1 q rs1 s1 N => ?_⟩, ?_⟩
    · have e1 : (rowsOf h t (h + 1))[n]? = some (Kxd7.pathRow (planT h t) n) := by
        unfold rowsOf
        rw [List.getElem?_map, List.getElem?_range (by omega)]
        rfl
      obtain ⟨r, _, h3, h4⟩ := N.at_.get e1
      have h6 : (nats (Kxd7.pathRow (planT h t) n))[s']? = some (V.int (Kxd7.paths (planT h t) n s' : Nat)) := nats_get (getD_get (by rw [pathRow_len]; omega))
      exact ⟨_, rfl, q, _, _, _, rfl, rfl, SqL.of N.at_.at_, at_of rfl h3, _, rfl, r, _, _, _, rfl, rfl, SqL.of h4, at_of rfl h6, rfl, s1⟩
    rintro σ' H1 ⟨rfl, s1⟩
    refine ⟨_, rfl, rfl, _, rfl, ?_⟩
    by_cases hn0 : n = 0
    · rw [decide_eq_true (show V.int (n : Int) = V.int 0 by rw [hn0]; rfl)]
      exact iteT (iteT (k1 (.inr (.inr hn0)) H1 s1))
    · rw [decide_eq_false (show ¬ V.int (n : Int) = V.int 0 from fun z => hn0 (intN (b := 0) z))]
      obtain ⟨d, hd⟩ : ∃ d, t[n]? = some d := ⟨_, List.getElem?_eq_getElem (by rw [g.len]; omega)⟩
      obtain ⟨r0, hd1, hd2, hd3⟩ := R.get hd
      have triD := g.tri n d hd
      have dec : d[s']? = some (Kxd7.decision (planT h t) n s') := by
        have e : t.getD n [] = d := by
          rw [List.getD_eq_getElem?_getD, hd]
          rfl
        have hs' : s' < d.length := by omega
        show d[s']? = some ((t.getD n []).getD s' 1)
        rw [e, List.getElem?_eq_getElem hs']
        simp [List.getD, hs']
      refine iteF ⟨_, rfl, _, rfl, a, _, _, _, rfl, rfl, SqL.of (s1 _ _ R.at_), at_of rfl hd2, _, rfl, r0, _, _, _, rfl, rfl, SqL.of (s1 _ _ hd3), at_of rfl (nats_get dec), rfl, _, rfl, ?_⟩
      by_cases hd0 : Kxd7.decision (planT h t) n s' = 0
      · rw [decide_eq_true (show V.int (Kxd7.decision (planT h t) n s' : Nat) = V.int 0 by rw [hd0]; rfl)]
        exact iteT (iteT (k1 (.inl hd0) H1 s1))
      · rw [decide_eq_false (show ¬ V.int (Kxd7.decision (planT h t) n s' : Nat) = V.int 0 from fun z => hd0 (intN (b := 0) z))]
        refine iteF ⟨_, rfl, rfl, _, rfl, ?_⟩
        by_cases hp0 : Kxd7.paths (planT h t) n s' = 0
        · rw [decide_eq_true (show V.int (Kxd7.paths (planT h t) n s' : Nat) = V.int 0 by rw [hp0]; rfl)]
          exact iteT (k1 (.inr (.inl hp0)) H1 s1)
        · rw [decide_eq_false (show ¬ V.int (Kxd7.paths (planT h t) n s' : Nat) = V.int 0 from fun z => hp0 (intN (b := 0) z))]
          have hne : ¬ NoEst h t n s' := fun z => z.elim hd0 fun z => z.elim hp0 hn0
          refine iteF ⟨_, rfl, (by show 1 ≤ sizeLine; decide), fun l0 hl0 => ⟨(by show 2 ≤ sizeLine; decide), fun l1 hl1 => ⟨(by show 2 ≤ sizeLine; decide), fun q hq => ?_⟩⟩⟩
          have s2 := (same_upd (o := .lst [V.int 0]) hl0).trans ((same_upd (o := .lst [V.int 0, V.int 1]) hl1).trans (same_upd (o := .lst [V.ref l0, V.ref l1]) hq))
          have l01 : l0 ≠ l1 := fun z => by rw [← z, upd_same] at hl1; cases hl1
          have l0q : l0 ≠ q := fun z => by rw [← z, upd_ne l01, upd_same] at hq; cases hq
          have l1q : l1 ≠ q := fun z => by rw [← z, upd_same] at hq; cases hq
          have hn1 : 1 ≤ n := by omega
          refine ⟨a, q, rs, [l0, l1], t, [[0], [0, 1]], h, 1, [0, 1], rfl, R.same (s1.trans s2), g.len, hh, g.tri, ⟨upd_same, rfl, fun i r e => ?_, ?_, ?_⟩, rfl, by omega, rfl, rfl, fun H2 q2 rs' s3 R2 f1 f2 => ?_⟩
          · match i, e with
            | 0, e =>
              have e3 : l0 = r := Option.some.inj e
              subst e3
              exact ⟨[0], rfl, by rw [upd_ne l0q, upd_ne l01, upd_same]; rfl⟩
            | 1, e =>
              have e3 : l1 = r := Option.some.inj e
              subst e3
              exact ⟨[0, 1], rfl, by rw [upd_ne l1q, upd_same]; rfl⟩
            | i + 2, e => simp at e
          · exact List.nodup_cons.mpr ⟨by simpa using l01, List.nodup_cons.mpr ⟨by simp, List.nodup_nil⟩⟩
          · simp only [List.mem_cons, List.not_mem_nil, or_false]
            exact fun z => z.elim (Ne.symm l0q) (Ne.symm l1q)
          · have e1 := behindL_get (t := t) (beg := [[0], [0, 1]]) (m := 1) (r0 := [0, 1]) rfl rfl (n := h - 1) (i := n - 1) (by omega)
            rw [show 1 + (n - 1) = n by omega] at e1
            obtain ⟨r2, _, g2, g3⟩ := R2.get e1
            have lr := rowAt_len (t := t) (m := 1) (r0 := [0, 1]) rfl (n - 1)
            have g4 : (nats (rowAt t 1 [0, 1] (n - 1)))[s']? = some (V.int ((rowAt t 1 [0, 1] (n - 1)).getD s' 0 : Nat)) := nats_get (getD_get (by rw [lr]; omega))
            have pl : Kxd7.paths (planT h t) n s' < 2 ^ 8000 := Nat.lt_of_le_of_lt (KxG.paths_le h t n s') (Nat.pow_lt_pow_right (by decide) (by omega))
            refine ⟨_, rfl, _, rfl, q2, _, _, _, rfl, rfl, SqL.of R2.at_, at_of rfl g2, _, rfl, r2, _, _, _, rfl, rfl, SqL.of g3, at_of rfl g4, _, rfl, (rowAt t 1 [0, 1] (n - 1)).getD s' 0, Kxd7.paths (planT h t) n s', rfl, by omega, pl, fun H3 q3 N => ?_⟩
            have ss := (s1.trans s2).trans (s3.trans N.same)
            exact k2 hne H3 q3 ss ((s1.trans s2).free (s3.free N.fresh)) N.at_
theorem c_answer_unbiased {T : List NTab} {C : Addr} (gl : Glb mg) (Ti : ICls K C) (F : DefB K mg "answer_unbiased" s_answer_unbiased ["instance", "numbers"]) (m1 : C8.Met P w K mg base 2 C "has_point" (sp_has_point C) []) (c1 : Cal0 P w K mg base 4 "unbiased_estimate" sp_unbiased_estimate) :
    Cal0 P w K mg base 8 "answer_unbiased" (sp_op K T C 2 false fun l => .unbiased (arg l 0) (arg l 1)) := by
  obtain ⟨fa, fd, F, b⟩ := F.ex
  refine C8.cal0 F b .nil (C8.fnScope_by (N := ["instance", "numbers", "n", "s", "estimate"]) (by decide +kernel)) (fun vs H Q E h => ?_) (fun cdv A outer s H vs Q E hr h => ?_)
  · obtain ⟨_, _, _, _, _, rfl, _⟩ := h
    rfl
  · obtain ⟨I, nb, X, s, args, rfl, S, hn, hl, hz, hT, hs, k⟩ := h
    obtain ⟨n, s', rfl⟩ : ∃ x0 x1, args = [x0, x1] := match args, hl with | [x0, x1], _ => ⟨x0, x1, rfl⟩
    replace k : Out T C I H X Q (Kxd7.step s (.unbiased n s')) := k
    obtain ⟨h, t, a, rs, rfl, pl⟩ := S.plan (hs rfl)
    obtain ⟨dx, hI⟩ := id pl.ins
    have nd : (["instance", "numbers", "n", "s", "estimate"] : List Str).Nodup := by decide +kernel
    refine ⟨_, pss_cons (ps_asg (pv 1) (pg_lst rfl (pgs_cons (pg_name (i := 2) nd rfl (.inl rfl)) (pgs_cons (pg_name (i := 3) nd rfl (.inl rfl)) pgs_nil))))
      (pss_cons (ps_if (pt_not (pt_val (C8.pe_mt m1 hr (by decide) (pv 0) (pa_cons (pv 2) (pa_cons (pv 3) pa_nil))))) (pss_one (ps_ret (pe_lst (pa_cons (C8.pe_gc rfl gl.NO_POINT) pa_nil)))) pss_nil)
      (pss_cons (ps_set (i := 4) nd rfl (.inl rfl) (C8.pe_c c1 hr (by decide) rfl (pa_cons (pe_fld (pv 0) rfl) (pa_cons (pv 2) (pa_cons (pv 3) pa_nil)))))
      (pss_cons (ps_if (pt_cmpR op_isN (pv 4) pe_non (nomark _)) (pss_one (ps_ret (pe_lst (pa_cons (C8.pe_gc rfl gl.NO_SUCH) pa_nil)))) pss_nil)
      (pss_one (ps_ret (pe_op op_cat (pe_lst (pa_cons pe_int pa_nil)) (pv 4))))))), ?_⟩
    refine ⟨_, rfl, nb, _, rfl, hn, rfl, _, _, rfl, _, _, rfl, rfl, ?_⟩
    refine ⟨_, rfl, I, dx, _, rfl, hI, rF_no _ (by decide +kernel), _, rfl, _, rfl, I, h, t, a, rs, n, s', rfl, pl, _, rfl, ?_⟩
    have st : Kxd7.step (some ⟨h, t⟩) (.unbiased n s') = (some ⟨h, t⟩, if Kxd7.isPoint (planT h t) n s' = false then .value (-2) else if Kxd7.decision (planT h t) n s' = 0 ∨ Kxd7.paths (planT h t) n s' = 0 ∨ n = 0 then .value (-33) else Kxd7.fractionResult (Kxd7.unbiased (planT h t) n s')) := rfl
    rw [st, isPoint_eq] at k
    by_cases hc : s' ≤ n ∧ n ≤ h
    · rw [decide_eq_true hc] at k ⊢
      rw [if_neg (by decide)] at k
      refine iteF ⟨_, rfl, I, C, dx, _, _, rfl, hI, Ti.cl, Ti.rows, rF_get _, _, rfl, _, rfl, a, rs, t, h, n, s', rfl, pl.rows, pl.good, hc.1, hc.2, fun ne H1 s1 => ?_, fun ne H1 q s1 hq0 hq => ?_⟩
      · rw [if_pos (show Kxd7.decision (planT h t) n s' = 0 ∨ Kxd7.paths (planT h t) n s' = 0 ∨ n = 0 from ne)] at k
        refine ⟨_, rfl, rfl, _, rfl, iteT ⟨(by show 1 ≤ sizeLine; decide), fun p hp => ?_⟩⟩
        exact k _ p ((Aft.same S s1).more (same_upd hp)) (s1.free hp) upd_same
      · rw [if_neg (show ¬ (Kxd7.decision (planT h t) n s' = 0 ∨ Kxd7.paths (planT h t) n s' = 0 ∨ n = 0) from ne)] at k
        have hp0 : Kxd7.paths (planT h t) n s' ≠ 0 := fun z => ne (.inr (.inl z))
        have hn0 : n ≠ 0 := fun z => ne (.inr (.inr z))
        have hne : decide (V.ref q = V.non) = false := decide_eq_false (fun z => by cases z)
        refine ⟨_, rfl, rfl, _, rfl, ?_⟩
        rw [hne]
        refine iteF ⟨(by show 1 ≤ sizeLine; decide), fun l hl0 => ?_⟩
        have s2 : Same H1 (upd H1 l (.lst [V.int 0])) := same_upd hl0
        refine ⟨_, rfl, l, q, _, _, rfl, rfl, upd_same, s2 _ _ hq, (by show 1 + 2 ≤ sizeLine; decide), fun p hp => ?_⟩
        refine k _ p ((Aft.same S (s1.trans s2)).more (same_upd hp)) ((s1.trans s2).free hp) ?_
        rw [upd_same, KxL.unbiased_eq (by omega) hp0, frac_fields _ _ (by omega)]
    · rw [decide_eq_false hc] at k ⊢
      exact iteT ⟨(by show 1 ≤ sizeLine; decide), fun p hp => k _ p (aft_lit S hp) hp upd_same⟩
end
end St
/-! KxM: two-stage plans in whole numbers. -/
namespace KxM
open Kxd7 St KxG KxI KxF KxK
theorem sumN_left (f : Nat → Nat) : ∀ n, sumN (n + 1) f = f 0 + sumN n (fun s => f (s + 1))
  | 0 => by show 0 + f 0 = f 0 + 0; omega
  | n + 1 => by
    show sumN (n + 1) f + f (n + 1) = f 0 + (sumN n (fun s => f (s + 1)) + f (n + 1))
    rw [sumN_left f n]
    omega
theorem sumN_mul (c : Nat) (f : Nat → Nat) : ∀ n, sumN n (fun s => c * f s) = c * sumN n f
  | 0 => rfl
  | n + 1 => by
    show sumN n (fun s => c * f s) + c * f n = c * (sumN n f + f n)
    rw [sumN_mul c f n, Nat.mul_add]
theorem sumN_zero {f : Nat → Nat} : ∀ {n : Nat}, (∀ s, s < n → f s = 0) → sumN n f = 0
  | 0, _ => rfl
  | n + 1, h => by
    show sumN n f + f n = 0
    rw [sumN_zero fun s hs => h s (by omega), h n (by omega)]
/-- the weights of s successes in m observations -/
def bw (x q : Nat) : Nat → Nat → Nat
  | 0, 0 => 1
  | 0, _ + 1 => 0
  | m + 1, 0 => bw x q m 0 * q
  | m + 1, s + 1 => bw x q m s * x + bw x q m (s + 1) * q
theorem bw_out (x q : Nat) : ∀ {m s : Nat}, m < s → bw x q m s = 0
  | 0, s + 1, _ => rfl
  | m + 1, s + 1, h => by
    show bw x q m s * x + bw x q m (s + 1) * q = 0
    rw [bw_out x q (show m < s by omega), bw_out x q (show m < s + 1 by omega), Nat.zero_mul, Nat.zero_mul]
/-- those of k successes and more -/
def tl (x q m k : Nat) : Nat := sumN (m + 1) fun s => if k ≤ s then bw x q m s else 0
theorem tl_zero (x q : Nat) : ∀ m, tl x q m 0 = (x + q) ^ m
  | 0 => rfl
  | m + 1 => by
    have e : tl x q (m + 1) 0 = sumN (m + 2) (bw x q (m + 1)) := sumN_congr fun s _ => if_pos (Nat.zero_le _)
    have e0 : tl x q m 0 = sumN (m + 1) (bw x q m) := sumN_congr fun s _ => if_pos (Nat.zero_le _)
    have ih := tl_zero x q m
    rw [e, sumN_left]
    have e1 : sumN (m + 1) (fun s => bw x q (m + 1) (s + 1)) = x * sumN (m + 1) (bw x q m) + q * sumN (m + 1) (fun s => bw x q m (s + 1)) := by
      rw [← sumN_mul, ← sumN_mul, ← sumN_add]
      exact sumN_congr fun s _ => by rw [Nat.mul_comm x, Nat.mul_comm q]; rfl
    have e2 : sumN (m + 1) (bw x q m) = bw x q m 0 + sumN (m + 1) (fun s => bw x q m (s + 1)) := by
      rw [← sumN_left]
      show _ = sumN (m + 1) (bw x q m) + bw x q m (m + 1)
      simp [bw_out x q (show m < m + 1 by omega)]
    rw [e1, Nat.pow_succ, ← ih, e0, Nat.mul_add, Nat.mul_comm _ x, Nat.mul_comm _ q]
    show bw x q m 0 * q + _ = _
    have e3 : q * sumN (m + 1) (bw x q m) = bw x q m 0 * q + q * sumN (m + 1) (fun s => bw x q m (s + 1)) := by
      rw [Nat.mul_comm _ q, ← Nat.mul_add, ← e2]
    omega
theorem tl_succ (x q m k : Nat) : tl x q (m + 1) (k + 1) = q * tl x q m (k + 1) + x * tl x q m k := by
  unfold tl
  rw [sumN_left, if_neg (by omega), Nat.zero_add]
  have e1 : sumN (m + 1) (fun s => if k + 1 ≤ s + 1 then bw x q (m + 1) (s + 1) else 0) = sumN (m + 1) (fun s => x * (if k ≤ s then bw x q m s else 0) + q * (if k + 1 ≤ s + 1 then bw x q m (s + 1) else 0)) := sumN_congr fun s _ => by
    by_cases h : k ≤ s
    · rw [if_pos (by omega), if_pos h, if_pos (by omega), Nat.mul_comm x, Nat.mul_comm q]
      rfl
    · rw [if_neg (by omega), if_neg h, if_neg (by omega), Nat.mul_zero, Nat.mul_zero]
  rw [e1, sumN_add, sumN_mul, sumN_mul, Nat.add_comm]
  congr 2
  have e2 := sumN_left (fun s => if k + 1 ≤ s then bw x q m s else 0) (m + 1)
  rw [if_neg (by omega), Nat.zero_add] at e2
  rw [← e2]
  show sumN (m + 1) _ + (if k + 1 ≤ m + 1 then bw x q m (m + 1) else 0) = _
  simp [bw_out x q (show m < m + 1 by omega)]
/-- the weight of rejecting from s successes with m observations to come -/
def gw (x q r m s : Nat) : Nat := tl x q m (r + 1 - s)
theorem gw_zero (x q r s : Nat) : gw x q r 0 s = if r < s then 1 else 0 := by
  show 0 + (if r + 1 - s ≤ 0 then 1 else 0) = _
  by_cases h : r < s
  · rw [if_pos (by omega), if_pos h]
  · rw [if_neg (by omega), if_neg h]
theorem gw_succ (x q r m s : Nat) : gw x q r (m + 1) s = q * gw x q r m s + x * gw x q r m (s + 1) := by
  unfold gw
  by_cases h : s ≤ r
  · rw [show r + 1 - s = (r - s) + 1 by omega, show r + 1 - (s + 1) = r - s by omega]
    exact tl_succ x q m (r - s)
  · rw [show r + 1 - s = 0 by omega, show r + 1 - (s + 1) = 0 by omega, tl_zero, tl_zero, Nat.pow_succ, Nat.mul_add, Nat.mul_comm _ x, Nat.mul_comm _ q, Nat.add_comm]
section
variable {h : Nat} {t : List (List Nat)}
/-- weights of a row's points, and of those that go on -/
def cw (h : Nat) (t : List (List Nat)) (x q n s : Nat) : Nat := cnt h t n s * (x ^ s * q ^ (n - s))
def ow (h : Nat) (t : List (List Nat)) (x q n s : Nat) : Nat := opn h t n s * (x ^ s * q ^ (n - s))
theorem cw_next (x q n : Nat) (G : Nat → Nat) : sumN (n + 2) (fun s => cw h t x q (n + 1) s * G s) = sumN (n + 1) (fun s => ow h t x q n s * (q * G s + x * G (s + 1))) := by
  have e1 : sumN (n + 2) (fun s => cw h t x q (n + 1) s * G s) = sumN (n + 2) (fun s => (match s with | 0 => opn h t n 0 | k + 1 => opn h t n (k + 1) + opn h t n k) * (x ^ s * q ^ (n + 1 - s) * G s)) := sumN_congr fun s hs => by
    unfold cw
    rw [cnt_succ (by omega), Nat.mul_assoc]
    cases s <;> rfl
  refine (e1.trans (sumN_shift (opn h t n) (fun s => x ^ s * q ^ (n + 1 - s) * G s) (n + 1))).trans ?_
  rw [opn_out, Nat.zero_mul, Nat.add_zero]
  refine sumN_congr fun s hs => ?_
  unfold ow
  rw [Nat.mul_assoc (opn h t n s)]
  refine congrArg (opn h t n s * ·) ?_
  rw [show n + 1 - s = (n - s) + 1 by omega, show n + 1 - (s + 1) = n - s by omega, Nat.pow_succ q, Nat.pow_succ x, Nat.mul_add]
  have a : x ^ s * (q ^ (n - s) * q) * G s = x ^ s * q ^ (n - s) * (q * G s) := by
    rw [← Nat.mul_assoc (x ^ s), Nat.mul_assoc _ q]
  have b : x ^ s * x * q ^ (n - s) * G (s + 1) = x ^ s * q ^ (n - s) * (x * G (s + 1)) := by
    rw [Nat.mul_right_comm (x ^ s) x, Nat.mul_assoc _ x]
  rw [a, b]
theorem cw_zero (x q : Nat) : cw h t x q 0 0 = 1 := by
  show 1 * (x ^ 0 * q ^ (0 - 0)) = 1
  simp
/-- as long as all goes on the weights are those of all sequences -/
theorem cw_bw (x q : Nat) {m : Nat} (hd : ∀ n s, n < m → s ≤ n → decision (planT h t) n s = 0) : ∀ n, n ≤ m → ∀ s, s ≤ n → cw h t x q n s = bw x q n s
  | 0, _, s, hs => by
    have e : s = 0 := by omega
    rw [e]
    exact cw_zero x q
  | n + 1, hn, s, hs => by
    have ih := cw_bw x q hd n (by omega)
    have op : ∀ k, k ≤ n → opn h t n k = cnt h t n k := fun k hk => by rw [opn_in hk, if_pos (hd n k (by omega) hk)]
    unfold cw
    rw [cnt_succ hs]
    cases s with
    | zero =>
      show opn h t n 0 * (x ^ 0 * q ^ (n + 1 - 0)) = bw x q n 0 * q
      rw [← ih 0 (Nat.zero_le _), op 0 (Nat.zero_le _)]
      unfold cw
      rw [show n + 1 - 0 = (n - 0) + 1 by omega, Nat.pow_succ, Nat.mul_assoc, Nat.mul_assoc]
    | succ k =>
      show (opn h t n (k + 1) + opn h t n k) * (x ^ (k + 1) * q ^ (n + 1 - (k + 1))) = bw x q n k * x + bw x q n (k + 1) * q
      have e1 : opn h t n k * (x ^ (k + 1) * q ^ (n + 1 - (k + 1))) = bw x q n k * x := by
        rw [← ih k (by omega), op k (by omega)]
        unfold cw
        rw [show n + 1 - (k + 1) = n - k by omega, Nat.pow_succ, Nat.mul_right_comm (x ^ k) x, Nat.mul_assoc, Nat.mul_assoc, Nat.mul_assoc]
      have e2 : opn h t n (k + 1) * (x ^ (k + 1) * q ^ (n + 1 - (k + 1))) = bw x q n (k + 1) * q := by
        by_cases hk : k + 1 ≤ n
        · rw [← ih (k + 1) hk, op (k + 1) hk]
          unfold cw
          rw [show n + 1 - (k + 1) = (n - (k + 1)) + 1 by omega, Nat.pow_succ q (n - (k + 1)), Nat.mul_assoc, Nat.mul_assoc]
        · have e : k = n := by omega
          rw [e, opn_out, bw_out x q (Nat.lt_succ_self n), Nat.zero_mul, Nat.zero_mul]
      rw [Nat.add_mul, e1, e2]
      omega
end
/-! ### sums over the stops of a row -/
section
variable {h : Nat} {t : List (List Nat)}
theorem row_sumG (x d n : Nat) (g : Nat × Nat → Nat) (hg : ∀ s, cnt h t n s = 0 → g (n, s) = 0) : ∀ j, wsum h x d g (rowStops (planT h t) n j) = sumN j (fun s => if decision (planT h t) n s = 0 then 0 else g (n, s) * wt h x d n s)
  | 0 => rfl
  | j + 1 => by
    rw [rowStops_succ, wsum_app, row_sumG x d n g hg j]
    show _ = sumN j _ + (if decision (planT h t) n j = 0 then 0 else g (n, j) * wt h x d n j)
    congr 1
    by_cases c : (decision (planT h t) n j != 0 && (pathRow (planT h t) n).getD j 0 != 0) = true
    · rw [if_pos c, wsum_one]
      rw [Bool.and_eq_true, bne_iff_ne, bne_iff_ne] at c
      unfold wt
      rw [if_neg c.1, Nat.mul_assoc, Nat.mul_assoc, Nat.mul_assoc]
    · rw [if_neg c]
      show 0 = _
      by_cases e : decision (planT h t) n j = 0
      · rw [if_pos e]
      · rw [if_neg e]
        have z : cnt h t n j = 0 := by
          refine Classical.byContradiction fun y => c ?_
          rw [Bool.and_eq_true, bne_iff_ne, bne_iff_ne]
          exact ⟨e, y⟩
        rw [hg j z, Nat.zero_mul]
theorem all_sumG (x d : Nat) (g : Nat × Nat → Nat) (hg : ∀ n s, cnt h t n s = 0 → g (n, s) = 0) : ∀ m, wsum h x d g (stopsN (planT h t) m) = sumN m (fun n => sumN (n + 1) (fun s => if decision (planT h t) n s = 0 then 0 else g (n, s) * wt h x d n s))
  | 0 => rfl
  | m + 1 => by
    rw [stopsN_succ, wsum_app, all_sumG x d g hg m, row_sumG x d m g (hg m)]
    rfl
end
/-! ### the two-stage plan -/
/-- its rows -/
abbrev tsT (n1 r1 n r : Nat) : List (List Nat) := (fromRule n (twoStageRule n1 r1 n r)).table
section
variable {n1 r1 n r : Nat}
theorem planOf_eq (n1 r1 n r : Nat) : planOf (n1, r1, n, r) = planT n (tsT n1 r1 n r) := rfl
theorem ts_good (hn : 1 ≤ n) (h20 : n ≤ 20) : GoodT n (tsT n1 r1 n r) := by
  show GoodT n (fromRule n (twoStageRule n1 r1 n r)).table
  rw [← twoStage_table]
  exact table_good hn h20 (twoStage_le n1 r1 n r) (twoStage_fin n1 r1 n r)
theorem ts_dec {m s : Nat} (hm : m ≤ n) (hs : s ≤ m) : decision (planT n (tsT n1 r1 n r)) m s = twoStageRule n1 r1 n r m s := by
  have e : tsT n1 r1 n r = table n (twoStageRule n1 r1 n r) := (twoStage_table n n1 r1 r).symm
  show ((tsT n1 r1 n r).getD m []).getD s 1 = _
  rw [e, List.getD_eq_getElem?_getD (l := table n _), table_get hm]
  show ((List.range (m + 1)).map _).getD s 1 = _
  rw [List.getD_eq_getElem?_getD, List.getElem?_map, List.getElem?_range (by omega)]
  rfl
/-- what the program adds up -/
def rejN (x q n1 r1 n r : Nat) : Nat := sumN (n1 + 1) (fun s => if r1 < s then bw x q n1 s * gw x q r (n - n1) s else 0)
def stpN (x q n1 r1 : Nat) : Nat := sumN (n1 + 1) (fun s => if s ≤ r1 then bw x q n1 s else 0)
variable (h1 : n1 < n) (hr1 : r1 < n1) (hr : r1 ≤ r)
include h1 in
theorem ts_first {x q : Nat} : ∀ m, m ≤ n1 → ∀ s, s ≤ m → cw n (tsT n1 r1 n r) x q m s = bw x q m s :=
  cw_bw x q fun m s hm hs => by
    rw [ts_dec (by omega) hs]
    unfold twoStageRule
    rw [if_neg (by omega), if_pos (by omega)]
include h1 in
theorem ts_later {x q : Nat} : ∀ k, n1 + (k + 1) ≤ n → sumN (n1 + (k + 1) + 1) (fun s => cw n (tsT n1 r1 n r) x q (n1 + (k + 1)) s * gw x q r (n - (n1 + (k + 1))) s) = rejN x q n1 r1 n r
  | 0, hk => by
    have e := cw_next (h := n) (t := tsT n1 r1 n r) x q n1 (gw x q r (n - (n1 + 1)))
    show sumN (n1 + 2) _ = _
    rw [e]
    unfold rejN
    refine sumN_congr fun s hs => ?_
    rw [← gw_succ, show n - (n1 + 1) + 1 = n - n1 by omega]
    have hd : decision (planT n (tsT n1 r1 n r)) n1 s = if s ≤ r1 then 1 else 0 := by
      rw [ts_dec (by omega) (by omega)]
      unfold twoStageRule
      by_cases c : s ≤ r1
      · rw [if_pos ⟨rfl, c⟩, if_pos c]
      · rw [if_neg (fun z => c z.2), if_pos h1, if_neg c]
    unfold ow
    rw [opn_in (by omega), hd]
    by_cases c : s ≤ r1
    · rw [if_pos c, if_neg (by omega), if_neg (by omega), Nat.zero_mul, Nat.zero_mul]
    · rw [if_neg c, if_pos rfl, if_pos (by omega), ← ts_first (r1 := r1) (r := r) h1 n1 (Nat.le_refl _) s (by omega)]
      rfl
  | k + 1, hk => by
    have ih := ts_later (x := x) (q := q) k (by omega)
    rw [← ih]
    have e := cw_next (h := n) (t := tsT n1 r1 n r) x q (n1 + (k + 1)) (gw x q r (n - (n1 + (k + 1 + 1))))
    have e2 : n1 + (k + 1 + 1) = n1 + (k + 1) + 1 := rfl
    rw [e2] at e ⊢
    rw [e]
    refine sumN_congr fun s hs => ?_
    rw [← gw_succ, show n - (n1 + (k + 1) + 1) + 1 = n - (n1 + (k + 1)) by omega]
    unfold ow
    rw [opn_in (by omega), if_pos]
    · rfl
    · rw [ts_dec (by omega) (by omega)]
      unfold twoStageRule
      rw [if_neg (by omega), if_pos (by omega)]
include h1 in
/-- the weight of the stops that reject -/
theorem rej_ts {x d : Nat} : decN (planT n (tsT n1 r1 n r)) x d 2 = rejN x (d - x) n1 r1 n r := by
  unfold decN
  rw [← wsum_pick, stops_eq]
  show wsum n x d _ (stopsN (planT n (tsT n1 r1 n r)) (n + 1)) = _
  have hg : ∀ m s, cnt n (tsT n1 r1 n r) m s = 0 → (if (decision (planT n (tsT n1 r1 n r)) m s == 2) = true then 1 else 0) * paths (planT n (tsT n1 r1 n r)) m s = 0 := fun m s z => by
    have e : paths (planT n (tsT n1 r1 n r)) m s = 0 := z
    rw [e, Nat.mul_zero]
  rw [all_sumG x d (fun z => (if (decision (planT n (tsT n1 r1 n r)) z.1 z.2 == 2) = true then 1 else 0) * paths (planT n (tsT n1 r1 n r)) z.1 z.2) hg]
  show sumN n _ + _ = _
  have z0 : sumN n (fun m => sumN (m + 1) (fun s => if decision (planT n (tsT n1 r1 n r)) m s = 0 then 0 else (if (decision (planT n (tsT n1 r1 n r)) m s == 2) = true then 1 else 0) * paths (planT n (tsT n1 r1 n r)) m s * wt n x d m s)) = 0 := sumN_zero fun m hm => sumN_zero fun s hs => by
    have hd : decision (planT n (tsT n1 r1 n r)) m s ≠ 2 := by
      rw [ts_dec (by omega) (by omega)]
      unfold twoStageRule
      rw [if_pos hm]
      split <;> decide
    rw [if_neg (c := (decision (planT n (tsT n1 r1 n r)) m s == 2) = true) (by simpa using hd), Nat.zero_mul, Nat.zero_mul, ite_self]
  rw [z0, Nat.zero_add]
  obtain ⟨k, hk⟩ : ∃ k, n = n1 + (k + 1) := ⟨n - n1 - 1, by omega⟩
  have e := ts_later (r1 := r1) (r := r) h1 (x := x) (q := d - x) k (by omega)
  rw [← hk, Nat.sub_self] at e
  rw [← e]
  refine sumN_congr fun s hs => ?_
  have hd : decision (planT n (tsT n1 r1 n r)) n s = if r < s then 2 else 1 := by
    rw [ts_dec (by omega) (by omega)]
    unfold twoStageRule
    rw [if_neg (by omega), if_neg (Nat.lt_irrefl _)]
  rw [hd, gw_zero]
  by_cases c : r < s
  · simp only [if_pos c]
    rw [if_neg (by decide), if_pos (by decide), Nat.one_mul, Nat.mul_one]
    unfold cw wt
    rw [Nat.sub_self, Nat.pow_zero, Nat.mul_one]
    rfl
  · simp only [if_neg c]
    rw [if_neg (by decide), if_neg (by decide), Nat.zero_mul, Nat.zero_mul, Nat.mul_zero]
include h1 in
/-- the expected size -/
theorem size_ts {x d : Nat} (hx : x ≤ d) (h20 : n ≤ 20) : sizeN (planT n (tsT n1 r1 n r)) x d = n1 * (stpN x (d - x) n1 r1 * d ^ (n - n1)) + n * (d ^ n - stpN x (d - x) n1 r1 * d ^ (n - n1)) ∧ stpN x (d - x) n1 r1 * d ^ (n - n1) ≤ d ^ n := by
  -- the stops of each row
  have rowE : ∀ m, m ≤ n → sumN (m + 1) (fun s => if decision (planT n (tsT n1 r1 n r)) m s = 0 then 0 else paths (planT n (tsT n1 r1 n r)) m s * wt n x d m s) = if m = n1 then stpN x (d - x) n1 r1 * d ^ (n - n1) else if m = n then sumN (n + 1) (fun s => if decision (planT n (tsT n1 r1 n r)) n s = 0 then 0 else paths (planT n (tsT n1 r1 n r)) n s * wt n x d n s) else 0 := fun m hm => by
    by_cases c1 : m = n1
    · rw [if_pos c1, c1]
      unfold stpN
      rw [Nat.mul_comm, ← sumN_mul]
      refine sumN_congr fun s hs => ?_
      have hd : decision (planT n (tsT n1 r1 n r)) n1 s = if s ≤ r1 then 1 else 0 := by
        rw [ts_dec (by omega) (by omega)]
        unfold twoStageRule
        by_cases c : s ≤ r1
        · rw [if_pos ⟨rfl, c⟩, if_pos c]
        · rw [if_neg (fun z => c z.2), if_pos h1, if_neg c]
      rw [hd]
      by_cases c : s ≤ r1
      · simp only [if_pos c]
        rw [if_neg (by decide), ← ts_first (r1 := r1) (r := r) h1 n1 (Nat.le_refl _) s (by omega), Nat.mul_comm (d ^ (n - n1))]
        unfold cw wt
        rw [Nat.mul_assoc, Nat.mul_assoc, Nat.mul_assoc]
        rfl
      · simp only [if_neg c]
        rw [if_pos trivial, Nat.mul_zero]
    · rw [if_neg c1]
      by_cases c2 : m = n
      · rw [if_pos c2, c2]
      · rw [if_neg c2]
        refine sumN_zero fun s hs => if_pos ?_
        rw [ts_dec (by omega) (by omega)]
        unfold twoStageRule
        rw [if_neg (fun z => c1 z.1), if_pos (by omega)]
  have pick : ∀ (f : Nat → Nat) (A B : Nat), (∀ m, m ≤ n → f m = if m = n1 then A else if m = n then B else 0) → sumN (n + 1) f = A + B := fun f A B hf => by
    have a : ∀ j, j ≤ n → sumN j f = if n1 < j then A else 0 := fun j => by
      induction j with
      | zero => intro _; rfl
      | succ j ih =>
        intro hj
        show sumN j f + f j = _
        rw [ih (by omega), hf j (by omega)]
        rw [if_neg (show ¬ j = n by omega)]
        repeat' split
        all_goals omega
    show sumN n f + f n = _
    rw [a n (Nat.le_refl _), hf n (Nat.le_refl _), if_pos h1, if_neg (by omega), if_pos rfl]
  generalize hB : sumN (n + 1) (fun s => if decision (planT n (tsT n1 r1 n r)) n s = 0 then 0 else paths (planT n (tsT n1 r1 n r)) n s * wt n x d n s) = B at rowE
  have all := stops_all (t := tsT n1 r1 n r) (ts_good (n1 := n1) (r1 := r1) (r := r) (by omega) h20) hx
  rw [stops_eq] at all
  have all : wsum n x d (fun z => paths (planT n (tsT n1 r1 n r)) z.1 z.2) (stopsN (planT n (tsT n1 r1 n r)) (n + 1)) = d ^ n := all
  rw [all_sumG x d (fun z => paths (planT n (tsT n1 r1 n r)) z.1 z.2) (fun m s z => z), pick _ _ _ rowE] at all
  refine ⟨?_, by omega⟩
  unfold sizeN
  rw [stops_eq]
  show wsum n x d _ (stopsN (planT n (tsT n1 r1 n r)) (n + 1)) = _
  rw [all_sumG x d (fun z => z.1 * paths (planT n (tsT n1 r1 n r)) z.1 z.2) (fun m s z => by
    have e : paths (planT n (tsT n1 r1 n r)) m s = 0 := z
    show m * _ = 0
    rw [e, Nat.mul_zero])]
  rw [pick _ (n1 * (stpN x (d - x) n1 r1 * d ^ (n - n1))) (n * B) fun m hm => ?_]
  · rw [show d ^ n - stpN x (d - x) n1 r1 * d ^ (n - n1) = B by omega]
  · have e := rowE m hm
    have e2 : sumN (m + 1) (fun s => if decision (planT n (tsT n1 r1 n r)) m s = 0 then 0 else m * paths (planT n (tsT n1 r1 n r)) m s * wt n x d m s) = m * sumN (m + 1) (fun s => if decision (planT n (tsT n1 r1 n r)) m s = 0 then 0 else paths (planT n (tsT n1 r1 n r)) m s * wt n x d m s) := by
      rw [← sumN_mul]
      refine sumN_congr fun s _ => ?_
      by_cases c : decision (planT n (tsT n1 r1 n r)) m s = 0
      · rw [if_pos c, if_pos c, Nat.mul_zero]
      · rw [if_neg c, if_neg c, Nat.mul_assoc]
    show sumN (m + 1) (fun s => if decision (planT n (tsT n1 r1 n r)) m s = 0 then 0 else m * paths (planT n (tsT n1 r1 n r)) m s * wt n x d m s) = _
    rw [e2, e]
    by_cases c1 : m = n1
    · rw [if_pos c1, if_pos c1, c1]
    · rw [if_neg c1, if_neg c1]
      by_cases c2 : m = n
      · rw [if_pos c2, if_pos c2, c2]
      · rw [if_neg c2, if_neg c2, Nat.mul_zero]
end
end KxM
/-! KxN: the best two-stage plan, found stage by stage. -/
namespace KxN
open Kxd7 St KxA KxC KxD KxG KxI KxF KxK KxM
/-- the numbers of the question -/
structure BT where
  x0 : Nat
  x1 : Nat
  d : Nat
  a : Nat
  ad : Nat
  b : Nat
  bd : Nat
  most : Nat
structure BTOk (z : BT) : Prop where
  p0 : 1 ≤ z.x0
  p01 : z.x0 < z.x1
  p1 : z.x1 < z.d
  d : z.d ≤ 1000
  a : z.a ≤ z.ad
  a1 : 1 ≤ z.ad
  a2 : z.ad ≤ 1000
  b : z.b ≤ z.bd
  b1 : 1 ≤ z.bd
  b2 : z.bd ≤ 1000
  m1 : 2 ≤ z.most
  m2 : z.most ≤ 8
def keepsB (z : BT) (n1 r1 n r : Nat) : Bool := decide (rejN z.x0 (z.d - z.x0) n1 r1 n r * z.ad ≤ z.a * z.d ^ n) && decide ((z.d ^ n - rejN z.x1 (z.d - z.x1) n1 r1 n r) * z.bd ≤ z.b * z.d ^ n)
def sizeB (z : BT) (n1 r1 n : Nat) : Nat := (n1 * stpN z.x0 (z.d - z.x0) n1 r1 + n * (z.d ^ n1 - stpN z.x0 (z.d - z.x0) n1 r1)) * z.d ^ (z.most - n1)
/-- all stages with n below m -/
def stg (m : Nat) : List (Nat × Nat × Nat) := (List.range m).flatMap fun n => (List.range n).flatMap fun n1 => (List.range n1).map fun r1 => (n1, r1, n)
/-- the limits of a stage -/
def rs (r1 n : Nat) : List Nat := (List.range (n - r1)).map fun i => r1 + i
def firstK (z : BT) (n1 r1 n : Nat) : Option Nat := (rs r1 n).find? fun r => keepsB z n1 r1 n r
abbrev Best := Option ((Nat × Nat × Nat × Nat) × Nat)
/-- whether a size is better -/
def better (b : Best) (e : Nat) : Bool := match b with
  | none => true
  | some y => decide (e < y.2)
def stepP (z : BT) (b : Best) (s : Nat × Nat × Nat) : Best :=
  if better b (sizeB z s.1 s.2.1 s.2.2) = true then match firstK z s.1 s.2.1 s.2.2 with
    | none => b
    | some r => some ((s.1, s.2.1, s.2.2, r), sizeB z s.1 s.2.1 s.2.2)
  else b
def bestP (z : BT) : Best := (stg (z.most + 1)).foldl (stepP z) none
theorem rs_eq (r1 : Nat) : ∀ n, (List.range n).filter (fun r => decide (r1 ≤ r)) = rs r1 n
  | 0 => by
    unfold rs
    rw [show 0 - r1 = 0 by omega]
    rfl
  | n + 1 => by
    rw [List.range_succ, List.filter_append, rs_eq r1 n]
    by_cases h : r1 ≤ n
    · have e : [n].filter (fun r => decide (r1 ≤ r)) = [n] := by simp [h]
      rw [e]
      unfold rs
      rw [show n + 1 - r1 = (n - r1) + 1 by omega, List.range_succ, List.map_append]
      congr 1
      show [n] = [r1 + (n - r1)]
      rw [show r1 + (n - r1) = n by omega]
    · have e : [n].filter (fun r => decide (r1 ≤ r)) = [] := by simp [h]
      rw [e, List.append_nil]
      unfold rs
      rw [show n + 1 - r1 = 0 by omega, show n - r1 = 0 by omega]
theorem plans_eq (most : Nat) : twoStagePlans most = (stg (most + 1)).flatMap fun s => (rs s.2.1 s.2.2).map fun r => (s.1, s.2.1, s.2.2, r) := by
  unfold twoStagePlans stg
  rw [List.flatMap_assoc]
  congr 1
  funext n
  rw [List.flatMap_assoc]
  congr 1
  funext n1
  rw [List.flatMap_map]
  congr 1
  funext r1
  rw [rs_eq]
theorem stg_in {m : Nat} : ∀ s ∈ stg m, s.2.1 < s.1 ∧ s.1 < s.2.2 ∧ s.2.2 < m := fun s hs => by
  unfold stg at hs
  obtain ⟨n, hn, hs⟩ := List.mem_flatMap.mp hs
  obtain ⟨n1, hn1, hs⟩ := List.mem_flatMap.mp hs
  obtain ⟨r1, hr1, e⟩ := List.mem_map.mp hs
  rw [← e]
  exact ⟨List.mem_range.mp hr1, List.mem_range.mp hn1, List.mem_range.mp hn⟩
/-- one limit after another -/
def stepR (z : BT) (n1 r1 n : Nat) (b : Best) (r : Nat) : Best := if keepsB z n1 r1 n r = true then (if better b (sizeB z n1 r1 n) = true then some ((n1, r1, n, r), sizeB z n1 r1 n) else b) else b
theorem stepR_not (z : BT) (n1 r1 n : Nat) {b : Best} (h : better b (sizeB z n1 r1 n) = false) : ∀ L : List Nat, L.foldl (stepR z n1 r1 n) b = b
  | [] => rfl
  | r :: L => by
    have e : stepR z n1 r1 n b r = b := by
      unfold stepR
      rw [h, if_neg Bool.false_ne_true, ite_self]
    rw [List.foldl_cons, e, stepR_not z n1 r1 n h L]
theorem stepR_all (z : BT) (n1 r1 n : Nat) {b : Best} (h : better b (sizeB z n1 r1 n) = true) : ∀ L : List Nat, L.foldl (stepR z n1 r1 n) b = match L.find? (fun r => keepsB z n1 r1 n r) with
    | none => b
    | some r => some ((n1, r1, n, r), sizeB z n1 r1 n)
  | [] => rfl
  | r :: L => by
    rw [List.foldl_cons, List.find?_cons]
    cases hk : keepsB z n1 r1 n r with
    | true =>
      have e : stepR z n1 r1 n b r = some ((n1, r1, n, r), sizeB z n1 r1 n) := by
        unfold stepR
        rw [hk, if_pos rfl, h, if_pos rfl]
      rw [e]
      exact stepR_not z n1 r1 n (by unfold better; exact decide_eq_false (Nat.lt_irrefl _)) L
    | false =>
      have e : stepR z n1 r1 n b r = b := by
        unfold stepR
        rw [hk, if_neg Bool.false_ne_true]
      rw [e]
      exact stepR_all z n1 r1 n h L
theorem stepR_P (z : BT) (b : Best) (s : Nat × Nat × Nat) : (rs s.2.1 s.2.2).foldl (stepR z s.1 s.2.1 s.2.2) b = stepP z b s := by
  unfold stepP firstK
  cases h : better b (sizeB z s.1 s.2.1 s.2.2) with
  | true => rw [if_pos rfl]; exact stepR_all z _ _ _ h _
  | false => rw [if_neg Bool.false_ne_true]; exact stepR_not z _ _ _ h _
/-! ### the specification's side -/
/-- what the program found, as the specification has it -/
def up (z : BT) (b : Best) : Option ((Nat × Nat × Nat × Nat) × Fraction) := b.map fun y => (y.1, fr ((y.2 : Rat) / ((z.d ^ z.most : Nat) : Rat)))
def specStep (z : BT) (b : Option ((Nat × Nat × Nat × Nat) × Fraction)) (p : Nat × Nat × Nat × Nat) : Option ((Nat × Nat × Nat × Nat) × Fraction) :=
  let plan := planOf p
  if isAtMost (minus (ofInt 1) (acceptance plan (share z.x0 z.d))) (share z.a z.ad) && isAtMost (acceptance plan (share z.x1 z.d)) (share z.b z.bd) then
    let e := expectedSize plan (share z.x0 z.d)
    match b with
      | none => some (p, e)
      | some y => if isLess e y.2 then some (p, e) else b
  else b
theorem best_spec (z : BT) : bestTwoStage (share z.x0 z.d) (share z.x1 z.d) (share z.a z.ad) (share z.b z.bd) z.most = (twoStagePlans z.most).foldl (specStep z) none := rfl
theorem div_natlt {a c S : Nat} (hS : 0 < S) : ((a : Rat) / (S : Rat) < (c : Rat) / (S : Rat)) ↔ a < c := by
  rw [div_lt (natpos hS) (natpos hS), ← Rat.natCast_mul, ← Rat.natCast_mul, Rat.natCast_lt_natCast]
  constructor
  · exact fun h => Nat.lt_of_mul_lt_mul_right h
  · exact fun h => Nat.mul_lt_mul_of_pos_right h hS
theorem div_natle2 {a b c d : Nat} (hb : 0 < b) (hd : 0 < d) : ((a : Rat) / (b : Rat) ≤ (c : Rat) / (d : Rat)) ↔ a * d ≤ c * b := by
  rw [div_le (natpos hb) (natpos hd), ← Rat.natCast_mul, ← Rat.natCast_mul, Rat.natCast_le_natCast]
section
variable {z : BT} (ok : BTOk z) {n1 r1 n r : Nat} (h1 : n1 < n) (hn : n ≤ z.most)
include ok h1 hn
theorem keeps_eq : (isAtMost (minus (ofInt 1) (acceptance (planOf (n1, r1, n, r)) (share z.x0 z.d))) (share z.a z.ad) && isAtMost (acceptance (planOf (n1, r1, n, r)) (share z.x1 z.d)) (share z.b z.bd)) = keepsB z n1 r1 n r := by
  have o1 := ok.p01
  have o2 := ok.p1
  have o3 := ok.m2
  have hd : 0 < z.d := by omega
  have hx0 : z.x0 ≤ z.d := by omega
  have hx1 : z.x1 ≤ z.d := by omega
  have g := ts_good (n1 := n1) (r1 := r1) (n := n) (r := r) (by omega) (by omega)
  have hD : 0 < z.d ^ n := Nat.pow_pos hd
  rw [planOf_eq, KxJ.errors_eq hx0 hd, KxG.acc_eq (planT n (tsT n1 r1 n r)) hx1 hd]
  have e0 := rej_eq g hx0
  rw [rej_ts h1] at e0
  rw [← e0]
  have e1 := rej_eq g hx1
  rw [rej_ts h1] at e1
  have le1 := KxI.acc_le (h := n) (t := tsT n1 r1 n r) hx1
  have e2 : accN (planT n (tsT n1 r1 n r)) z.x1 z.d = z.d ^ n - rejN z.x1 (z.d - z.x1) n1 r1 n r := by omega
  rw [e2, share_eq, share_eq, isAtMost_eq, isAtMost_eq]
  unfold keepsB
  congr 1
  · exact decide_eq_decide.mpr (div_natle2 hD (by have := ok.a1; omega))
  · exact decide_eq_decide.mpr (div_natle2 hD (by have := ok.b1; omega))
theorem size_eqB : expectedSize (planOf (n1, r1, n, r)) (share z.x0 z.d) = fr ((sizeB z n1 r1 n : Rat) / ((z.d ^ z.most : Nat) : Rat)) := by
  have o1 := ok.p01
  have o2 := ok.p1
  have o3 := ok.m2
  have hd : 0 < z.d := by omega
  have hx0 : z.x0 ≤ z.d := by omega
  rw [planOf_eq, KxG.sizeE_eq (planT n (tsT n1 r1 n r)) hx0 hd]
  congr 1
  obtain ⟨s1, s2⟩ := size_ts (r1 := r1) (r := r) h1 hx0 (by omega : n ≤ 20)
  have hD : 0 < z.d ^ n := Nat.pow_pos hd
  have e1 : z.d ^ n = z.d ^ n1 * z.d ^ (n - n1) := by rw [← Nat.pow_add]; congr 1; omega
  have e2 : z.d ^ z.most = z.d ^ n * z.d ^ (z.most - n) := by rw [← Nat.pow_add]; congr 1; omega
  have e3 : z.d ^ (z.most - n1) = z.d ^ (n - n1) * z.d ^ (z.most - n) := by rw [← Nat.pow_add]; congr 1; omega
  have e4 : sizeB z n1 r1 n = sizeN (planT n (tsT n1 r1 n r)) z.x0 z.d * z.d ^ (z.most - n) := by
    unfold sizeB
    rw [s1, e3, e1, ← Nat.sub_mul]
    generalize stpN z.x0 (z.d - z.x0) n1 r1 = S
    generalize z.d ^ n1 - S = R
    generalize z.d ^ (n - n1) = A
    generalize z.d ^ (z.most - n) = B
    rw [← Nat.mul_assoc n1, ← Nat.mul_assoc n, ← Nat.add_mul, Nat.mul_assoc]
  show (sizeN (planT n (tsT n1 r1 n r)) z.x0 z.d : Rat) / ((z.d ^ n : Nat) : Rat) = _
  rw [e4, e2, Rat.natCast_mul, Rat.natCast_mul]
  have c1 := cast_ne hD
  have c2 := cast_ne (show 0 < z.d ^ (z.most - n) from Nat.pow_pos hd)
  generalize ((z.d ^ n : Nat) : Rat) = D at *
  generalize ((z.d ^ (z.most - n) : Nat) : Rat) = B at *
  grind
theorem specStep_eq (b : Best) : specStep z (up z b) (n1, r1, n, r) = up z (stepR z n1 r1 n b r) := by
  have o1 := ok.p01
  have o2 := ok.p1
  have hS : 0 < z.d ^ z.most := Nat.pow_pos (by omega)
  unfold specStep
  simp only []
  rw [keeps_eq ok h1 hn, size_eqB ok h1 hn]
  unfold stepR
  by_cases hk : keepsB z n1 r1 n r = true
  · rw [if_pos hk, if_pos hk]
    cases b with
    | none => rfl
    | some y =>
      show (if isLess _ (fr _) = true then _ else _) = _
      rw [isLess_eq]
      unfold better
      simp only []
      by_cases hl : sizeB z n1 r1 n < y.2
      · rw [if_pos (decide_eq_true ((div_natlt hS).mpr hl)), if_pos (decide_eq_true hl)]
        rfl
      · rw [if_neg (by rw [decide_eq_false (fun q => hl ((div_natlt hS).mp q))]; exact Bool.false_ne_true), if_neg (by rw [decide_eq_false hl]; exact Bool.false_ne_true)]
  · rw [if_neg hk, if_neg hk]
theorem specFold_eq : ∀ (L : List Nat) (b : Best), (L.map fun r => (n1, r1, n, r)).foldl (specStep z) (up z b) = up z (L.foldl (stepR z n1 r1 n) b)
  | [], _ => rfl
  | r :: L, b => by
    rw [List.map_cons, List.foldl_cons, List.foldl_cons, specStep_eq ok h1 hn]
    exact specFold_eq L _
end
theorem best_eq {z : BT} (ok : BTOk z) : bestTwoStage (share z.x0 z.d) (share z.x1 z.d) (share z.a z.ad) (share z.b z.bd) z.most = up z (bestP z) := by
  rw [best_spec, plans_eq, List.foldl_flatMap]
  unfold bestP
  have key : ∀ (L : List (Nat × Nat × Nat)) (b : Best), (∀ s ∈ L, s.1 < s.2.2 ∧ s.2.2 ≤ z.most) → L.foldl (fun acc s => ((rs s.2.1 s.2.2).map fun r => (s.1, s.2.1, s.2.2, r)).foldl (specStep z) acc) (up z b) = up z (L.foldl (stepP z) b) := by
    intro L
    induction L with
    | nil => intro b _; rfl
    | cons s L ih =>
      intro b hL
      obtain ⟨h1, h2⟩ := hL s (.head _)
      rw [List.foldl_cons, List.foldl_cons, specFold_eq ok h1 h2, stepR_P]
      exact ih _ fun y hy => hL y (.tail _ hy)
  exact key _ none fun s hs => by
    have := stg_in s hs
    omega
end KxN
set_option Elab.async false
set_option linter.all false
set_option maxRecDepth 100000
set_option maxHeartbeats 2000000
set_option exponentiation.threshold 100000
/-! W30: the weights of sequences, and what a two-stage plan rejects. -/
namespace St
open PySem PySem.Spec PyProof.Rows L2 NdefX LamX KxF KxM
theorem bw_le (x q : Nat) : ∀ m s, bw x q m s ≤ (x + q) ^ m
  | 0, 0 => Nat.le_refl _
  | 0, _ + 1 => Nat.zero_le _
  | m + 1, 0 => by
    show bw x q m 0 * q ≤ _
    rw [Nat.pow_succ]
    exact Nat.mul_le_mul (bw_le x q m 0) (Nat.le_add_left _ _)
  | m + 1, s + 1 => by
    show bw x q m s * x + bw x q m (s + 1) * q ≤ _
    rw [Nat.pow_succ, Nat.mul_add]
    exact Nat.add_le_add (Nat.mul_le_mul_right _ (bw_le x q m s)) (Nat.mul_le_mul_right _ (bw_le x q m (s + 1)))
/-- a row of weights -/
def bwRow (x q m : Nat) : List Nat := (List.range (m + 1)).map (bw x q m)
theorem bwRow_len (x q m : Nat) : (bwRow x q m).length = m + 1 := by
  unfold bwRow
  rw [List.length_map, List.length_range]
theorem bwRow_get {x q m s : Nat} (h : s ≤ m) : (bwRow x q m)[s]? = some (bw x q m s) := by
  unfold bwRow
  rw [List.getElem?_map, List.getElem?_range (by omega)]
  rfl
/-- the next row after j steps -/
def pwN (x q m j : Nat) : Nat → Nat
  | 0 => if 0 < j then bw x q m 0 * q else 0
  | i + 1 => (if i < j then bw x q m i * x else 0) + (if i + 1 < j then bw x q m (i + 1) * q else 0)
def pwRow (x q m j : Nat) : List Nat := (List.range (m + 2)).map (pwN x q m j)
theorem pwRow_len (x q m j : Nat) : (pwRow x q m j).length = m + 2 := by
  unfold pwRow
  rw [List.length_map, List.length_range]
theorem pwRow_get {x q m j i : Nat} (h : i < m + 2) : (pwRow x q m j)[i]? = some (pwN x q m j i) := by
  unfold pwRow
  rw [List.getElem?_map, List.getElem?_range h]
  rfl
theorem pwRow_zero (x q m : Nat) : pwRow x q m 0 = List.replicate (m + 2) 0 := by
  refine List.ext_getElem? fun i => ?_
  by_cases h : i < m + 2
  · rw [pwRow_get h, List.getElem?_replicate, if_pos h]
    cases i <;> rfl
  · rw [List.getElem?_eq_none (by rw [pwRow_len]; omega), List.getElem?_eq_none (by rw [List.length_replicate]; omega)]
theorem pwRow_all (x q m : Nat) : pwRow x q m (m + 1) = bwRow x q (m + 1) := by
  refine List.ext_getElem? fun i => ?_
  by_cases h : i < m + 2
  · rw [pwRow_get h, bwRow_get (by omega)]
    cases i with
    | zero =>
      show some (if 0 < m + 1 then bw x q m 0 * q else 0) = some (bw x q m 0 * q)
      rw [if_pos (by omega)]
    | succ i =>
      show some ((if i < m + 1 then bw x q m i * x else 0) + (if i + 1 < m + 1 then bw x q m (i + 1) * q else 0)) = some (bw x q m i * x + bw x q m (i + 1) * q)
      rw [if_pos (by omega)]
      by_cases c : i + 1 < m + 1
      · rw [if_pos c]
      · rw [if_neg c, bw_out x q (show m < i + 1 by omega), Nat.zero_mul]
  · rw [List.getElem?_eq_none (by rw [pwRow_len]; omega), List.getElem?_eq_none (by rw [bwRow_len]; omega)]
theorem pwRow_step (x q m j : Nat) (hj : j ≤ m) : ((pwRow x q m j).set j (pwN x q m j j + bw x q m j * q)).set (j + 1) (pwN x q m j (j + 1) + bw x q m j * x) = pwRow x q m (j + 1) := by
  refine List.ext_getElem? fun i => ?_
  by_cases h : i < m + 2
  · rw [pwRow_get h]
    by_cases e1 : j + 1 = i
    · subst e1
      rw [List.getElem?_set_self (by rw [List.length_set, pwRow_len]; exact h)]
      show some ((if j < j then bw x q m j * x else 0) + (if j + 1 < j then bw x q m (j + 1) * q else 0) + bw x q m j * x) = some ((if j < j + 1 then bw x q m j * x else 0) + (if j + 1 < j + 1 then bw x q m (j + 1) * q else 0))
      rw [if_neg (Nat.lt_irrefl _), if_neg (by omega), if_pos (by omega), if_neg (by omega)]
      congr 1
      omega
    · rw [List.getElem?_set_ne e1]
      by_cases e2 : j = i
      · subst e2
        rw [List.getElem?_set_self (by rw [pwRow_len]; exact h)]
        cases j with
        | zero =>
          show some ((if 0 < 0 then bw x q m 0 * q else 0) + bw x q m 0 * q) = some (if 0 < 1 then bw x q m 0 * q else 0)
          rw [if_neg (by omega), if_pos (by omega), Nat.zero_add]
        | succ j =>
          show some ((if j < j + 1 then bw x q m j * x else 0) + (if j + 1 < j + 1 then bw x q m (j + 1) * q else 0) + bw x q m (j + 1) * q) = some ((if j < j + 1 + 1 then bw x q m j * x else 0) + (if j + 1 < j + 1 + 1 then bw x q m (j + 1) * q else 0))
          rw [if_pos (by omega), if_neg (by omega), if_pos (by omega), if_pos (by omega), Nat.add_zero]
      · rw [List.getElem?_set_ne e2, pwRow_get h]
        congr 1
        cases i with
        | zero =>
          show (if 0 < j then bw x q m 0 * q else 0) = (if 0 < j + 1 then bw x q m 0 * q else 0)
          rw [if_pos (by omega), if_pos (by omega)]
        | succ i =>
          show (if i < j then bw x q m i * x else 0) + (if i + 1 < j then bw x q m (i + 1) * q else 0) = (if i < j + 1 then bw x q m i * x else 0) + (if i + 1 < j + 1 then bw x q m (i + 1) * q else 0)
          repeat' split
          all_goals first | rfl | omega
  · rw [List.getElem?_eq_none (by rw [List.length_set, List.length_set, pwRow_len]; omega), List.getElem?_eq_none (by rw [pwRow_len]; omega)]
/-- sums of the end and of the beginning of a row -/
theorem sum_drop (f : Nat → Nat) (k : Nat) : ∀ n, (((List.range n).map f).drop k).sum = KxI.sumN n (fun s => if k ≤ s then f s else 0)
  | 0 => by simp [KxI.sumN]
  | n + 1 => by
    have ih := sum_drop f k n
    have hl : ((List.range n).map f).length = n := by rw [List.length_map, List.length_range]
    rw [List.range_succ, List.map_append]
    show ((_ ++ [f n]).drop k).sum = KxI.sumN n _ + (if k ≤ n then f n else 0)
    rw [← ih]
    by_cases h : k ≤ n
    · rw [List.drop_append_of_le_length (by omega), if_pos h]
      simp
    · rw [List.drop_of_length_le (by rw [List.length_append, hl]; show n + 1 ≤ k; omega), if_neg h, List.drop_of_length_le (by omega)]
      rfl
theorem sum_take (f : Nat → Nat) (k : Nat) : ∀ n, (((List.range n).map f).take k).sum = KxI.sumN n (fun s => if s < k then f s else 0)
  | 0 => by simp [KxI.sumN]
  | n + 1 => by
    have ih := sum_take f k n
    have hl : ((List.range n).map f).length = n := by rw [List.length_map, List.length_range]
    rw [List.range_succ, List.map_append]
    show ((_ ++ [f n]).take k).sum = KxI.sumN n _ + (if n < k then f n else 0)
    rw [← ih]
    by_cases h : n < k
    · rw [if_pos h, List.take_of_length_le (by rw [List.length_append, hl]; show n + 1 ≤ k; omega), List.take_of_length_le (by omega)]
      simp
    · rw [if_neg h, List.take_append_of_le_length (by omega), Nat.add_zero]
theorem tl_sum (x q m k : Nat) : ((bwRow x q m).drop k).sum = tl x q m k := sum_drop _ _ _
theorem stp_sum (x q m k : Nat) : ((bwRow x q m).take (k + 1)).sum = stpN x q m k := by
  unfold bwRow stpN
  rw [sum_take]
  exact KxI.sumN_congr fun s _ => by
    by_cases h : s ≤ k
    · rw [if_pos (by omega), if_pos h]
    · rw [if_neg (by omega), if_neg h]
theorem ints_sum : ∀ l : List Nat, (l.map fun x : Nat => (x : Int)).sum = ((l.sum : Nat) : Int)
  | [] => rfl
  | x :: l => by
    rw [List.map_cons, List.sum_cons, List.sum_cons, ints_sum l, Int.natCast_add]
theorem nats_asInts (l : List Nat) : nats l = (l.map fun x : Nat => (x : Int)).map V.int := by
  unfold nats
  rw [List.map_map]
  rfl
theorem nats_drop (l : List Nat) (k : Nat) : (nats l).drop k = nats (l.drop k) := by
  unfold nats
  rw [List.map_drop]
theorem nats_take (l : List Nat) (k : Nat) : (nats l).take k = nats (l.take k) := by
  unfold nats
  rw [List.map_take]
theorem cut_from (xs : List V) (k : Nat) : cutV xs (some (k : Int)) none = xs.drop k := by
  unfold cutV
  rw [HT.sIx_nat, HT.sIx_none, List.take_of_length_le (by rw [List.length_drop]; exact Nat.le_refl _)]
  by_cases h : k ≤ xs.length
  · rw [Nat.min_eq_left h]
  · rw [Nat.min_eq_right (by omega), List.drop_of_length_le (Nat.le_refl _), List.drop_of_length_le (by omega)]
theorem cut_to (xs : List V) {k : Nat} (h : k ≤ xs.length) : cutV xs none (some (k : Int)) = xs.take k := by
  unfold cutV
  rw [HT.sIx_nat, HT.sIx_none, Nat.min_eq_left h, List.drop_zero, Nat.sub_zero]
section
variable {P : Program} {w : World} {K : PySem.W.Frag} {mg : Str → Option Value} {base : Heap}
def sp_next_weights (K : PySem.W.Frag) : Sp := fun vs H Q _ => ∃ (a : Addr) (x q m : Nat), vs = [.ref a, .int x, .int q] ∧ SqL K H a (nats (bwRow x q m)) ∧ x + q ≤ 1000 ∧ m ≤ 18 ∧ ∀ H' p, New H H' p (.lst (nats (bwRow x q (m + 1)))) → Q (.ref p) H'
theorem c_next_weights (gl : Glb mg) (F : DefB K mg "next_weights" s_next_weights ["weights", "success", "failure"]) : Cal0 P w K mg base 1 "next_weights" (sp_next_weights K) := by
  obtain ⟨fa, fd, F, b⟩ := F.ex
  refine C8.cal0 F b .nil (C8.fnScope_by (N := ["weights", "success", "failure", "following", "s", "weight"]) (by decide +kernel)) (fun vs H Q E h => ?_) (fun cdv A outer s H vs Q E hr h => ?_)
  · obtain ⟨_, _, _, _, rfl, _⟩ := h
    rfl
  · obtain ⟨a, x, q, m, rfl, ha, hxq, hm, k⟩ := h
    have nd : (["weights", "success", "failure", "following", "s", "weight"] : List Str).Nodup := by decide +kernel
    have hz := sizeLine_eq
    refine ⟨_, pss_cons (ps_set (i := 3) nd rfl (.inl rfl) (pe_op op_rep (pe_lst (pa_cons pe_int pa_nil)) (pe_op op_add (pe_callB call_len_seq (by rfl) gl.len PySem.boot_len (pa_cons (pv 0) pa_nil)) pe_int)))
      (pss_cons (ps_for PassesOwn.never rfl (pi_enum rfl gl.enumerate (pa_cons (pv 0) pa_nil)) (pg_tup rfl (pgs_cons (pg_name (i := 4) nd rfl (.inl rfl)) (pgs_cons (pg_name (i := 5) nd rfl (.inl rfl)) pgs_nil)))
        (pss_cons (ps_augS (pv 3) (pv 4) pget_list (pe_op op_mulW (pv 5) (pv 2)) ip_add set_list)
        (pss_one (ps_augS (pv 3) (pe_op op_add (pv 4) pe_int) pget_list (pe_op op_mulW (pv 5) (pv 1)) ip_add set_list))))
      (pss_one (ps_ret (pv 3)))), ?_⟩
    have lenC : (nats (bwRow x q m)).length = m + 1 := by rw [nats_len, bwRow_len]
    refine ⟨(by show 1 ≤ sizeLine; decide), fun z0 hz0 => ?_⟩
    have sz := same_upd (o := .lst [V.int 0]) hz0
    refine ⟨_, rfl, a, _, rfl, .inl (sz.seq ha), _, _, rfl, rfl, z0, _, _, rfl, rfl, upd_same, by omega, by omega, by show 1 * _ ≤ sizeLine; omega, fun l hl => ?_⟩
    have erep : (List.replicate (((nats (bwRow x q m)).length : Int) + 1).toNat [V.int 0]).flatten = nats (pwRow x q m 0) := by
      rw [lenC, pwRow_zero, show (((m + 1 : Nat) : Int) + 1).toNat = m + 2 by omega]
      unfold nats
      rw [List.map_replicate]
      generalize m + 2 = m
      induction m with
      | zero => rfl
      | succ m ih =>
        rw [List.replicate_succ, List.flatten_cons, ih, List.replicate_succ]
        rfl
    rw [erep]
    have s1 : Same H (upd (upd H z0 (.lst [V.int 0])) l (.lst (nats (pwRow x q m 0)))) := sz.trans (same_upd hl)
    have hlH : H l = Option.none := sz.free hl
    refine ⟨_, rfl, a, _, rfl, s1.seq ha, for_enum (K := K) (a := a) (xs := nats (bwRow x q m)) (fun j σ H' => ∃ v4 v5 : Option V, σ = [some (.ref a), some (.int x), some (.int q), some (.ref l), v4, v5] ∧ Same H H' ∧ H' l = some (.lst (nats (pwRow x q m j))))
      ⟨none, none, rfl, s1, upd_same⟩ (fun j σ H2 _ ⟨_, _, _, s2, _⟩ => s2.seq ha) ?_ ?_⟩
    · rintro j y σ H2 T hy ⟨v4, v5, rfl, s2, hl2⟩ hT
      have hj : j ≤ m := by
        have := (List.getElem?_eq_some_iff.mp hy).1
        rw [lenC] at this
        omega
      have ex : y = V.int (bw x q m j : Nat) := by
        have := nats_get (bwRow_get (x := x) (q := q) hj)
        rw [this] at hy
        exact (Option.some.inj hy).symm
      subst ex
      have sT : Same H2 (upd H2 T (.tup [.int (j : Nat), .int (bw x q m j : Nat)])) := same_upd hT
      have hl3 := sT _ _ hl2
      have hs3 : Same H (upd H2 T (.tup [.int (j : Nat), .int (bw x q m j : Nat)])) := s2.trans sT
      have keep : ∀ (H4 : Hp) (o : HO), Same H H4 → Same H (upd H4 l o) := fun H4 o s4 b o e => by
        rw [upd_ne (ne_of_none e hlH)]
        exact s4 _ _ e
      have b1 : bw x q m j < 2 ^ 201 := Nat.lt_of_le_of_lt (bw_le x q m j) (npow_small (by omega) (by omega))
      refine ⟨T, _, rfl, SqT.of upd_same, rfl, _, _, rfl, _, _, rfl, rfl, ?_⟩
      have g1 : (nats (pwRow x q m j))[((j : Nat) : Int).toNat]? = some (V.int (pwN x q m j j : Nat)) := nats_get (pwRow_get (by omega))
      refine ⟨_, rfl, _, rfl, l, _, _, _, rfl, rfl, SqL.of hl3, by omega, g1, _, rfl, _, rfl, _, _, rfl, rfl, cmulN b1 (show q < 2 ^ 11 by omega) (by decide) (by decide) (by decide), _, _, rfl, rfl, l, _, _, j, rfl, rfl, hl3, ixN_nat (by rw [nats_len, pwRow_len]; omega), ?_⟩
      have e1 : V.int ((pwN x q m j j : Nat) + ((bw x q m j : Nat) * (q : Nat) : Int) : Int) = V.int (((pwN x q m j j + bw x q m j * q : Nat)) : Int) := by rw [Int.natCast_add, Int.natCast_mul]
      rw [e1, nats_set]
      have g2 : (nats ((pwRow x q m j).set j (pwN x q m j j + bw x q m j * q)))[(((j : Nat) : Int) + 1).toNat]? = some (V.int (pwN x q m j (j + 1) : Nat)) := by
        refine nats_get ?_
        rw [show (((j : Nat) : Int) + 1).toNat = j + 1 by omega, List.getElem?_set_ne (by omega)]
        exact pwRow_get (by omega)
      refine ⟨_, rfl, _, rfl, _, _, rfl, rfl, l, _, _, _, rfl, rfl, SqL.of upd_same, by omega, g2, _, rfl, _, rfl, _, _, rfl, rfl, cmulN b1 (show x < 2 ^ 11 by omega) (by decide) (by decide) (by decide), _, _, rfl, rfl, l, _, _, j + 1, rfl, rfl, upd_same, ?_, ?_⟩
      · have e2 : ((j : Nat) : Int) + 1 = ((j + 1 : Nat) : Int) := by omega
        show ixN _ (((j : Nat) : Int) + 1) = _
        rw [e2]
        exact ixN_nat (by rw [nats_len, List.length_set, pwRow_len]; omega)
      · refine ⟨_, _, rfl, keep _ _ (keep _ _ hs3), ?_⟩
        rw [upd_same]
        have e3 : V.int ((pwN x q m j (j + 1) : Nat) + ((bw x q m j : Nat) * (x : Nat) : Int) : Int) = V.int (((pwN x q m j (j + 1) + bw x q m j * x : Nat)) : Int) := by rw [Int.natCast_add, Int.natCast_mul]
        show some (HO.lst ((nats _).set (j + 1) (V.int ((pwN x q m j (j + 1) : Nat) + ((bw x q m j : Nat) * (x : Nat) : Int) : Int)))) = _
        rw [e3, nats_set, pwRow_step x q m j hj]
    · rintro σ H2 ⟨v4, v5, rfl, s2, hl2⟩
      rw [lenC, pwRow_all] at hl2
      exact ⟨_, rfl, k H2 l ⟨s2, hlH, hl2⟩⟩
/-- the first n rows of weights -/
def bwRows (x q n : Nat) : List (List Nat) := (List.range n).map (bwRow x q)
theorem bwRows_len (x q n : Nat) : (bwRows x q n).length = n := by
  unfold bwRows
  rw [List.length_map, List.length_range]
theorem bwRows_get {x q n i : Nat} (h : i < n) : (bwRows x q n)[i]? = some (bwRow x q i) := by
  unfold bwRows
  rw [List.getElem?_map, List.getElem?_range h]
  rfl
def sp_success_weights : Sp := fun vs H Q _ => ∃ x d m : Nat, vs = [.int x, .int d, .int m] ∧ x ≤ d ∧ d ≤ 1000 ∧ m ≤ 8 ∧ ∀ H' a rs, Same H H' → NewRows H H' a rs (bwRows x (d - x) (m + 1)) → Q (.ref a) H'
theorem c_success_weights (gl : Glb mg) (F : DefB K mg "success_weights" s_success_weights ["p", "divisor", "most"]) (c1 : Cal0 P w K mg base 1 "next_weights" (sp_next_weights K)) : Cal0 P w K mg base 2 "success_weights" sp_success_weights := by
  obtain ⟨f, fd, F, b⟩ := F.ex
  refine C8.cal0 F b .nil (C8.fnScope_by (N := ["p", "divisor", "most", "rows"]) (by decide +kernel)) (fun vs H Q E h => ?_) (fun cdv A outer s H vs Q E hr h => ?_)
  · obtain ⟨_, _, _, rfl, _⟩ := h
    rfl
  · obtain ⟨x, d, m, rfl, hx, hd, hm, k⟩ := h
    have nd : (["p", "divisor", "most", "rows"] : List Str).Nodup := by decide +kernel
    have hz := sizeLine_eq
    refine ⟨_, pss_cons (ps_set (i := 3) nd rfl (.inl rfl) (pe_lst (pa_cons (pe_lst (pa_cons pe_int pa_nil)) pa_nil)))
      (pss_cons (ps_while PassesOwn.never (pt_cmpR op_le (pe_callB call_len_seq (by rfl) gl.len PySem.boot_len (pa_cons (pv 3) pa_nil)) (pv 2) (nomark _))
        (pss_one (ps_expr (pe_bm PySem.F.plainAttrs_list PySem.F.slot_list_append PySem.F.type_list_append mt_append (pv 3) (pa_cons (C8.pe_c c1 hr (by decide) rfl (pa_cons (pe_ix ix_list (pv 3) (pe_un un_neg pe_int) (fun _ _ => rfl)) (pa_cons (pv 0) (pa_cons (pe_op op_sub (pv 1) (pv 0)) pa_nil)))) pa_nil)))))
      (pss_one (ps_ret (pv 3)))), ?_⟩
    refine ⟨(by show 1 ≤ sizeLine; decide), fun l0 hl0 => ⟨(by show 1 ≤ sizeLine; decide), fun q hq => ?_⟩⟩
    have l0q : l0 ≠ q := ne_of_none upd_same hq
    have s0 : Same H (upd (upd H l0 (.lst [V.int 1])) q (.lst [.ref l0])) := (same_upd hl0).trans (same_upd hq)
    have hqH : H q = Option.none := (same_upd hl0).free hq
    have e2 : (d : Int) - (x : Int) = ((d - x : Nat) : Int) := by omega
    refine while_by (fun σ H' => ∃ (i : Nat) (rs : List Addr), i ≤ m ∧ σ = [some (.int x), some (.int d), some (.int m), some (.ref q)] ∧ Same H H' ∧ RowsAt H' q rs (bwRows x (d - x) (i + 1)) ∧ ∀ r, r ∈ rs → H r = Option.none) (fun σ H' => match H' q with
      | some (.lst xs) => m + 1 - xs.length
      | _ => 0) ⟨0, [l0], Nat.zero_le _, rfl, s0, ⟨upd_same, rfl, fun i r e => ?_, List.nodup_cons.mpr ⟨by simp, List.nodup_nil⟩, by simpa using l0q.symm⟩, fun r hr => ?_⟩ ?_ ?_
    · cases i with
      | zero =>
        have e3 : l0 = r := Option.some.inj e
        subst e3
        exact ⟨[1], rfl, by rw [upd_ne l0q, upd_same]; rfl⟩
      | succ i => simp at e
    · have : r = l0 := by simpa using hr
      subst this
      exact hl0
    · rintro σ H' ⟨i, rs, hi, rfl, s1, R, fr⟩
      have lenR : (rs.map V.ref).length = i + 1 := by rw [List.length_map, R.len, bwRows_len]
      refine ⟨_, rfl, q, _, rfl, .inl (SqL.of R.at_), _, rfl, _, _, rfl, rfl, _, rfl, ?_⟩
      rw [lenR]
      by_cases hc : i < m
      · rw [decide_eq_true (show ((i + 1 : Nat) : Int) ≤ (m : Int) by omega)]
        obtain ⟨r2, hq1, hq2, hq3⟩ := R.get (bwRows_get (x := x) (q := d - x) (Nat.lt_succ_self i))
        refine iteT ⟨_, rfl, .inl ⟨rfl, _, SqL.of R.at_⟩, _, rfl, _, rfl, q, _, _, _, rfl, rfl, SqL.of R.at_, atI_end (by rw [lenR, Nat.add_sub_cancel]; exact hq2), _, rfl, _, rfl, _, rfl, _, _, rfl, rfl, r2, x, d - x, i, ?_, SqL.of hq3, by omega, by omega, fun H2 D N => ?_⟩
        · rw [← e2]
          rfl
        refine ⟨q, _, _, rfl, rfl, N.same _ _ R.at_, by rw [lenR]; omega, ?_⟩
        obtain ⟨nDr, nDq⟩ := R.notin N.fresh
        have R2 := (R.same N.same).push N.at_ nDr nDq
        have e4 : bwRows x (d - x) (i + 1 + 1) = bwRows x (d - x) (i + 1) ++ [bwRow x (d - x) (i + 1)] := by
          unfold bwRows
          rw [List.range_succ (n := i + 1), List.map_append]
          rfl
        refine ⟨⟨i + 1, rs ++ [D], hc, rfl, fun b o e => ?_, ?_, fun r hr => ?_⟩, ?_⟩
        · rw [upd_ne (ne_of_none e hqH)]
          exact N.same _ _ (s1 _ _ e)
        · rw [e4]
          exact R2
        · rcases List.mem_append.mp hr with z | z
          · exact fr r z
          · have : r = D := by simpa using z
            subst this
            exact s1.free N.fresh
        · rw [upd_same, R.at_]
          show m + 1 - (rs.map V.ref ++ [V.ref D]).length < m + 1 - (rs.map V.ref).length
          rw [List.length_append, lenR]
          show m + 1 - (i + 1 + 1) < m + 1 - (i + 1)
          omega
      · have ei : i = m := by omega
        subst ei
        rw [decide_eq_false (show ¬ ((i + 1 : Nat) : Int) ≤ (i : Int) by omega)]
        refine iteF ?_
        refine ⟨_, rfl, ?_⟩
        exact k H' q rs s1 ⟨R, hqH, fr⟩
    · rintro σ H' Q1 Q2 hq ⟨v, e1, p, xs, e2, e3, v2, e4, i, j, e5, e6, kk, e7, e8⟩
      exact ⟨v, e1, p, xs, e2, e3, v2, e4, i, j, e5, e6, kk, e7, hq _ _ e8⟩
/-! ### what a plan rejects -/
def rejP (x q n1 r1 n r m : Nat) : Nat := KxI.sumN m (fun s => if r1 < s then bw x q n1 s * gw x q r (n - n1) s else 0)
def sp_rejecting (K : PySem.W.Frag) : Sp := fun vs H Q _ => ∃ (a pa : Addr) (rs : List Addr) (x d m n1 r1 n r : Nat), vs = [.ref a, .ref pa] ∧ RowsAt H a rs (bwRows x (d - x) (m + 1)) ∧ SqT K H pa [.int n1, .int r1, .int n, .int r] ∧ x ≤ d ∧ d ≤ 1000 ∧ m ≤ 8 ∧ n ≤ m ∧ n1 < n ∧ r1 < n1 ∧ r < n ∧
  ∀ H', Same H H' → Q (.int (rejN x (d - x) n1 r1 n r : Nat)) H'
theorem gw_small {x d r m s : Nat} (hx : x ≤ d) (hd : d ≤ 1000) (hm : m ≤ 20) : gw x (d - x) r m s < 2 ^ 201 := by
  have h1 : gw x (d - x) r m s ≤ tl x (d - x) m 0 := by
    unfold gw tl
    have key : ∀ n, KxI.sumN n (fun s' => if r + 1 - s ≤ s' then bw x (d - x) m s' else 0) ≤ KxI.sumN n (fun s' => if 0 ≤ s' then bw x (d - x) m s' else 0) := fun n => by
      induction n with
      | zero => exact Nat.le_refl _
      | succ n ih =>
        refine Nat.add_le_add ih ?_
        show (if r + 1 - s ≤ n then bw x (d - x) m n else 0) ≤ (if 0 ≤ n then bw x (d - x) m n else 0)
        rw [if_pos (Nat.zero_le n)]
        split
        · exact Nat.le_refl _
        · exact Nat.zero_le _
    exact key _
  rw [tl_zero, show x + (d - x) = d by omega] at h1
  exact Nat.lt_of_le_of_lt h1 (npow_small (by omega) hm)
theorem bw_small {x d m s : Nat} (hx : x ≤ d) (hd : d ≤ 1000) (hm : m ≤ 20) : bw x (d - x) m s < 2 ^ 201 := by
  have h1 := bw_le x (d - x) m s
  rw [show x + (d - x) = d by omega] at h1
  exact Nat.lt_of_le_of_lt h1 (npow_small (by omega) hm)
theorem c_rejecting (gl : Glb mg) (F : DefB K mg "rejecting" s_rejecting ["weights", "plan"]) : Cal0 P w K mg base 1 "rejecting" (sp_rejecting K) := by
  obtain ⟨fa, fd, F, b⟩ := F.ex
  refine C8.cal0 F b .nil (C8.fnScope_by (N := ["weights", "plan", "n1", "r1", "n", "r", "total", "s", "still_needed"]) (by decide +kernel)) (fun vs H Q E h => ?_) (fun cdv A outer s H vs Q E hr h => ?_)
  · obtain ⟨_, _, _, _, _, _, _, _, _, _, rfl, _⟩ := h
    rfl
  · obtain ⟨a, pa, rs, x, d, m, n1, r1, n, r, rfl, R, hp, hx, hd, hm, hn, h1, h2, h3, k⟩ := h
    have nd : (["weights", "plan", "n1", "r1", "n", "r", "total", "s", "still_needed"] : List Str).Nodup := by decide +kernel
    have hz := sizeLine_eq
    refine ⟨_, pss_cons (ps_asg (pv 1) (pg_tup rfl (pgs_cons (pg_name (i := 2) nd rfl (.inl rfl)) (pgs_cons (pg_name (i := 3) nd rfl (.inl rfl)) (pgs_cons (pg_name (i := 4) nd rfl (.inl rfl)) (pgs_cons (pg_name (i := 5) nd rfl (.inl rfl)) pgs_nil))))))
      (pss_cons (ps_set (i := 6) nd rfl (.inl rfl) pe_int)
      (pss_cons (ps_for PassesOwn.never rfl (pi_range2 rfl gl.range (pa_cons (pe_op op_add (pv 3) pe_int) (pa_cons (pe_op op_add (pv 2) pe_int) pa_nil))) (pg_name (i := 7) nd rfl (.inl rfl))
        (C8.pss_cut (ps_set (i := 8) nd rfl (.inl rfl) (pe_callB (call_max2 rfl) (by rfl) gl.max (by decide +kernel) (pa_cons (pe_op op_sub (pe_op op_add (pv 5) pe_int) (pv 7)) (pa_cons pe_int pa_nil))))
        (pss_one (ps_aug (i := 6) nd rfl (.inl rfl) (pe_op op_mulW (pe_ix ix_list (pe_ix ix_list (pv 0) (pv 2) (fun _ _ => rfl)) (pv 7) (fun _ _ => rfl))
          (pe_callB (cr_sum rfl) (by rfl) gl.sum (by decide +kernel) (pa_cons (pe_slice sl_list (pe_ix ix_list (pv 0) (pe_op op_sub (pv 4) (pv 2)) (fun _ _ => rfl)) (po_some (pv 8)) po_none) pa_nil))) ip_add))))
      (pss_one (ps_ret (pv 6))))), ?_⟩
    refine ⟨_, rfl, pa, _, rfl, hp, rfl, _, _, rfl, _, _, rfl, _, _, rfl, _, _, rfl, rfl, ?_⟩
    refine ⟨_, rfl, _, _, rfl, rfl, _, rfl, _, _, rfl, rfl, _, _, rfl, by omega, ?_⟩
    have en : (((n1 : Int) + 1) - ((r1 : Int) + 1)).toNat = n1 - r1 := by omega
    rw [en]
    refine for_range (lo := (r1 : Int) + 1) (n := n1 - r1) (fun i σ H' => ∃ v7 v8 : Option V, σ = [some (.ref a), some (.ref pa), some (.int n1), some (.int r1), some (.int n), some (.int r), some (.int (rejP x (d - x) n1 r1 n r (r1 + 1 + i) : Nat)), v7, v8] ∧ Same H H')
      ⟨none, none, ?_, fun _ _ e => e⟩ ?_ ?_
    · have e0 : rejP x (d - x) n1 r1 n r (r1 + 1 + 0) = 0 := sumN_zero fun s hs => if_neg (by omega)
      rw [e0]
      rfl
    · rintro i σ H1 hi ⟨v7, v8, rfl, s1⟩
      have ei : (r1 : Int) + 1 + (i : Nat) = ((r1 + 1 + i : Nat) : Int) := by omega
      rw [ei]
      generalize hs' : r1 + 1 + i = s' at *
      refine ⟨fun σ' H' => σ' = [some (.ref a), some (.ref pa), some (.int n1), some (.int r1), some (.int n), some (.int r), some (.int (rejP x (d - x) n1 r1 n r s' : Nat)), some (.int (s' : Nat)), some (.int ((r + 1 - s' : Nat) : Int))] ∧ H' = H1, ⟨_, rfl, _, _, rfl, rfl, _, rfl, _, _, rfl, rfl, _, _, rfl, ?_⟩, ?_⟩
      · refine ⟨?_, rfl⟩
        have e : (if (0 : Int) > (r : Int) + 1 - (s' : Int) then (0 : Int) else (r : Int) + 1 - (s' : Int)) = ((r + 1 - s' : Nat) : Int) := by
          split <;> omega
        show _ = [some (V.ref a), _, _, _, _, _, _, _, some (V.int _)]
        rw [← e]
        rfl
      rintro σ' H' ⟨rfl, rfl⟩
      obtain ⟨w1, f1, f2, f3⟩ := R.get (bwRows_get (x := x) (q := d - x) (show n1 < m + 1 by omega))
      obtain ⟨w2, g1, g2, g3⟩ := R.get (bwRows_get (x := x) (q := d - x) (show n - n1 < m + 1 by omega))
      have gs : (nats (bwRow x (d - x) n1))[s']? = some (V.int (bw x (d - x) n1 s' : Nat)) := nats_get (bwRow_get (by omega))
      have en2 : (n : Int) - (n1 : Int) = ((n - n1 : Nat) : Int) := by omega
      refine ⟨_, rfl, _, rfl, _, rfl, a, _, _, _, rfl, rfl, SqL.of (s1 _ _ R.at_), at_of rfl f2, _, rfl, w1, _, _, _, rfl, rfl, SqL.of (s1 _ _ f3), at_of rfl gs, ?_⟩
      refine ⟨_, rfl, _, rfl, _, rfl, _, _, rfl, rfl, a, _, _, _, rfl, rfl, SqL.of (s1 _ _ R.at_), at_of (j := n - n1) (by omega) g2, _, rfl, _, rfl, w2, _, rfl, SqL.of (s1 _ _ g3), fun c hc => ?_⟩
      rw [cut_from, nats_drop]
      refine ⟨c, _, rfl, by rw [← nats_asInts]; exact SqL.of upd_same, ?_⟩
      rw [ints_sum, tl_sum]
      refine ⟨_, _, rfl, rfl, cmulN (bw_small hx hd (by omega)) (gw_small (r := r) (s := s') hx hd (show n - n1 ≤ 20 by omega)) (by decide) (by decide) (by decide), _, _, rfl, rfl, some (.int (s' : Nat)), some (.int ((r + 1 - s' : Nat) : Int)), ?_, s1.trans (same_upd hc)⟩
      have e5 : rejP x (d - x) n1 r1 n r (r1 + 1 + (i + 1)) = rejP x (d - x) n1 r1 n r s' + bw x (d - x) n1 s' * tl x (d - x) (n - n1) (r + 1 - s') := by
        rw [show r1 + 1 + (i + 1) = s' + 1 by omega]
        show rejP x (d - x) n1 r1 n r s' + (if r1 < s' then _ else 0) = _
        rw [if_pos (by omega)]
        rfl
      rw [e5, Int.natCast_add, Int.natCast_mul]
      rfl
    · rintro σ H1 ⟨v7, v8, rfl, s1⟩
      have e6 : rejP x (d - x) n1 r1 n r (r1 + 1 + (n1 - r1)) = rejN x (d - x) n1 r1 n r := by
        rw [show r1 + 1 + (n1 - r1) = n1 + 1 by omega]
        rfl
      rw [e6]
      exact ⟨_, rfl, k H1 s1⟩
end
end St
set_option Elab.async false
set_option linter.all false
set_option maxRecDepth 100000
set_option maxHeartbeats 2000000
set_option exponentiation.threshold 100000
/-! W31: the search for the best two-stage plan. -/
namespace St
open PySem PySem.Spec PyProof.Rows L2 NdefX LamX KxF KxM KxN
/-- at a a list of tuples, as f tells them -/
structure TupsAt {α : Type} (f : α → List V) (H : Hp) (a : Addr) (ts : List Addr) (l : List α) : Prop where
  at_ : H a = some (.lst (ts.map V.ref))
  len : ts.length = l.length
  tup : ∀ (i : Nat) (t : Addr), ts[i]? = some t → ∃ z, l[i]? = some z ∧ H t = some (.tup (f z))
theorem TupsAt.same {α : Type} {f : α → List V} {H H' : Hp} {a : Addr} {ts : List Addr} {l : List α} (S : TupsAt f H a ts l) (s : Same H H') : TupsAt f H' a ts l :=
  ⟨s _ _ S.at_, S.len, fun i t e => let ⟨z, h1, h2⟩ := S.tup i t e; ⟨z, h1, s _ _ h2⟩⟩
/-- two lists of tuples, one put behind the other -/
theorem TupsAt.extend {α : Type} {f : α → List V} {H : Hp} {a b : Addr} {ts us : List Addr} {l m : List α} (S : TupsAt f H a ts l) (U : TupsAt f H b us m) : TupsAt f (upd H a (.lst (ts.map V.ref ++ us.map V.ref))) a (ts ++ us) (l ++ m) := by
  have ne : ∀ t xs, H t = some (.tup xs) → t ≠ a := fun t xs e q => by
    rw [q, S.at_] at e
    cases e
  refine ⟨?_, ?_, fun q r e => ?_⟩
  · rw [upd_same, List.map_append]
  · rw [List.length_append, List.length_append, S.len, U.len]
  · by_cases hq : q < ts.length
    · rw [List.getElem?_append_left hq] at e
      obtain ⟨d, h1, h2⟩ := S.tup q r e
      refine ⟨d, ?_, ?_⟩
      · rw [List.getElem?_append_left (by rw [← S.len]; exact hq)]
        exact h1
      · rw [upd_ne (ne _ _ h2)]
        exact h2
    · rw [List.getElem?_append_right (by omega)] at e
      obtain ⟨d, h1, h2⟩ := U.tup _ r e
      refine ⟨d, ?_, ?_⟩
      · rw [List.getElem?_append_right (by rw [← S.len]; omega), ← S.len]
        exact h1
      · rw [upd_ne (ne _ _ h2)]
        exact h2
/-- one tuple more -/
theorem TupsAt.push {α : Type} {f : α → List V} {H : Hp} {a T : Addr} {ts : List Addr} {l : List α} {z : α} (S : TupsAt f H a ts l) (hT : H T = some (.tup (f z))) : TupsAt f (upd H a (.lst (ts.map V.ref ++ [V.ref T]))) a (ts ++ [T]) (l ++ [z]) := by
  have ne : ∀ t xs, H t = some (.tup xs) → t ≠ a := fun t xs e q => by
    rw [q, S.at_] at e
    cases e
  refine ⟨?_, ?_, fun q r e => ?_⟩
  · rw [upd_same, List.map_append]
    rfl
  · rw [List.length_append, List.length_append, S.len]
    rfl
  · by_cases hq : q < ts.length
    · rw [List.getElem?_append_left hq] at e
      obtain ⟨d, h1, h2⟩ := S.tup q r e
      refine ⟨d, ?_, ?_⟩
      · rw [List.getElem?_append_left (by rw [← S.len]; exact hq)]
        exact h1
      · rw [upd_ne (ne _ _ h2)]
        exact h2
    · rw [List.getElem?_append_right (by omega)] at e
      have e2 : q = ts.length := by
        have := (List.getElem?_eq_some_iff.mp e).1
        have h1 : ([T] : List Addr).length = 1 := rfl
        omega
      subst e2
      rw [Nat.sub_self] at e
      have e3 : T = r := Option.some.inj e
      subst e3
      refine ⟨z, ?_, ?_⟩
      · rw [S.len, List.getElem?_append_right (Nat.le_refl _), Nat.sub_self]
        rfl
      · rw [upd_ne (ne _ _ hT)]
        exact hT
/-- the class Search as the top has written it -/
structure SCls (K : PySem.W.Frag) (C : Addr) : Prop where
  cl : Cls K C
  b : NoAttr K C "bounds"
  m : NoAttr K C "most"
  s : NoAttr K C "scale"
  w0 : NoAttr K C "weights0"
  w1 : NoAttr K C "weights1"
def sF (ba : Addr) (m : Nat) (sc a0 a1 : Addr) : List (Str × V) := [("bounds", .ref ba), ("most", .int m), ("scale", .ref sc), ("weights0", .ref a0), ("weights1", .ref a1)]
theorem sF_b {ba : Addr} {m : Nat} {sc a0 a1 : Addr} : (sF ba m sc a0 a1).lookup ("bounds" : Str) = some (.ref ba) := lk_here
theorem sF_m {ba : Addr} {m : Nat} {sc a0 a1 : Addr} : (sF ba m sc a0 a1).lookup ("most" : Str) = some (.int m) := (lk_past (by decide +kernel)).trans lk_here
theorem sF_s {ba : Addr} {m : Nat} {sc a0 a1 : Addr} : (sF ba m sc a0 a1).lookup ("scale" : Str) = some (.ref sc) := (lk_past (by decide +kernel)).trans ((lk_past (by decide +kernel)).trans lk_here)
theorem sF_0 {ba : Addr} {m : Nat} {sc a0 a1 : Addr} : (sF ba m sc a0 a1).lookup ("weights0" : Str) = some (.ref a0) := (lk_past (by decide +kernel)).trans ((lk_past (by decide +kernel)).trans ((lk_past (by decide +kernel)).trans lk_here))
theorem sF_1 {ba : Addr} {m : Nat} {sc a0 a1 : Addr} : (sF ba m sc a0 a1).lookup ("weights1" : Str) = some (.ref a1) := (lk_past (by decide +kernel)).trans ((lk_past (by decide +kernel)).trans ((lk_past (by decide +kernel)).trans ((lk_past (by decide +kernel)).trans lk_here)))
theorem sF_no {ba : Addr} {m : Nat} {sc a0 a1 : Addr} {k : Str} (h : (["bounds", "most", "scale", "weights0", "weights1"] : List Str).all (fun g => !(k == g)) = true) : (sF ba m sc a0 a1).lookup k = Option.none := by
  have h' := List.all_eq_true.mp h
  have f : ∀ g ∈ (["bounds", "most", "scale", "weights0", "weights1"] : List Str), (k == g) = false := fun g hg => by
    have := h' g hg
    simpa using this
  exact (lk_past (f _ (.head _))).trans ((lk_past (f _ (.tail _ (.head _)))).trans ((lk_past (f _ (.tail _ (.tail _ (.head _))))).trans ((lk_past (f _ (.tail _ (.tail _ (.tail _ (.head _)))))).trans (lk_past (f _ (.tail _ (.tail _ (.tail _ (.tail _ (.head _))))))))))
/-- at S a search with the question's numbers z -/
structure SearchAt (K : PySem.W.Frag) (C : Addr) (H : Hp) (S : Addr) (z : BT) : Prop where
  ok : BTOk z
  ex : ∃ (dx ba sc a0 a1 : Addr) (rs0 rs1 : List Addr), H S = some (.ins C dx (sF ba z.most sc a0 a1)) ∧ SqT K H ba [.int z.a, .int z.ad, .int z.b, .int z.bd] ∧ H sc = some (.lst (pows (z.d : Int) (z.most + 1))) ∧ RowsAt H a0 rs0 (bwRows z.x0 (z.d - z.x0) (z.most + 1)) ∧ RowsAt H a1 rs1 (bwRows z.x1 (z.d - z.x1) (z.most + 1))
theorem SearchAt.same {K : PySem.W.Frag} {C S : Addr} {H H' : Hp} {z : BT} (A : SearchAt K C H S z) (s : Same H H') : SearchAt K C H' S z :=
  ⟨A.ok, let ⟨dx, ba, sc, a0, a1, rs0, rs1, h1, h2, h3, h4, h5⟩ := A.ex; ⟨dx, ba, sc, a0, a1, rs0, rs1, s _ _ h1, same_sqT s h2, s _ _ h3, h4.same s, h5.same s⟩⟩
section
variable {P : Program} {w : World} {K : PySem.W.Frag} {mg : Str → Option Value} {base : Heap}
def sp_Search (K : PySem.W.Frag) (C : Addr) : Sp := fun vs H Q _ => ∃ (x ca ba dx : Addr) (z : BT), vs = [.ref x, .ref ca, .ref ba, .int z.most] ∧ H x = some (.ins C dx []) ∧ H ca = some (.tup [.int z.x0, .int z.x1, .int z.d]) ∧ H ba = some (.tup [.int z.a, .int z.ad, .int z.b, .int z.bd]) ∧ BTOk z ∧
  ∀ H', SearchAt K C H' x z → (∀ b o, H b = some o → b ≠ x → H' b = some o) → Q .non H'
theorem k_Search {C : Addr} (T : SCls K C) (F : IniB K mg C "Search" "Search.__init__" s_Search___init__ ["self", "chances", "bounds", "most"]) (c1 : Cal0 P w K mg base 1 "powers" sp_powers) (c2 : Cal0 P w K mg base 2 "success_weights" sp_success_weights) : C8.Mak P w K mg base 3 "Search" C (sp_Search K C) [] := by
  obtain ⟨f, fd, M, hm, F, b⟩ := F.ex
  refine C8.mak0 M hm F b .nil (C8.fnScope_by (N := ["self", "chances", "bounds", "most", "p0", "p1", "divisor"]) (by decide +kernel)) (fun vs H Q E h => ?_) (fun cdv A outer s H vs Q E hr h => ?_)
  · obtain ⟨_, _, _, _, _, rfl, _⟩ := h
    rfl
  · obtain ⟨x, ca, ba, dx, z, rfl, hx, hc, hb, ok, k⟩ := h
    have nd : (["self", "chances", "bounds", "most", "p0", "p1", "divisor"] : List Str).Nodup := by decide +kernel
    refine ⟨_, pss_cons (ps_asg (pv 1) (pg_tup rfl (pgs_cons (pg_name (i := 4) nd rfl (.inl rfl)) (pgs_cons (pg_name (i := 5) nd rfl (.inl rfl)) (pgs_cons (pg_name (i := 6) nd rfl (.inl rfl)) pgs_nil)))))
      (pss_cons (ps_fld (pv 0) (pv 2) rfl) (pss_cons (ps_fld (pv 0) (pv 3) rfl)
      (pss_cons (ps_fld (pv 0) (C8.pe_c c1 hr (by decide) rfl (pa_cons (pv 6) (pa_cons (pv 3) pa_nil))) rfl)
      (pss_cons (ps_fld (pv 0) (C8.pe_c c2 hr (by decide) rfl (pa_cons (pv 4) (pa_cons (pv 6) (pa_cons (pv 3) pa_nil)))) rfl)
      (pss_one (ps_fld (pv 0) (C8.pe_c c2 hr (by decide) rfl (pa_cons (pv 5) (pa_cons (pv 6) (pa_cons (pv 3) pa_nil)))) rfl)))))), ?_⟩
    have o1 := ok.p01
    have o2 := ok.p1
    have o3 := ok.d
    have o4 := ok.m2
    have xne : ∀ b xs, H b = some (.tup xs) → b ≠ x := fun b xs e q => by
      rw [q, hx] at e
      cases e
    refine ⟨_, rfl, ca, _, rfl, SqT.of hc, rfl, _, _, rfl, _, _, rfl, _, _, rfl, rfl, ?_⟩
    refine ⟨_, rfl, _, rfl, x, C, dx, _, rfl, hx, T.cl, T.b, (by show 0 < 1000; decide), ?_⟩
    rw [putF_new (ks := []) rfl rfl]
    refine ⟨_, rfl, _, rfl, x, C, dx, _, rfl, upd_same, T.cl, T.m, (by show 1 < 1000; decide), ?_⟩
    rw [putF_new (ks := ["bounds"]) rfl (by decide +kernel), upd_upd]
    refine ⟨_, rfl, _, rfl, (z.d : Int), z.most, rfl, by omega, by omega, fun H1 sc N1 => ?_⟩
    have x1 := N1.same _ _ upd_same
    refine ⟨_, rfl, x, C, dx, _, rfl, x1, T.cl, T.s, (by show 2 < 1000; decide), ?_⟩
    rw [putF_new (ks := ["bounds", "most"]) rfl (by decide +kernel)]
    have scx : sc ≠ x := fun q => by
      have := N1.fresh
      rw [q, upd_same] at this
      cases this
    refine ⟨_, rfl, _, rfl, _, rfl, z.x0, z.d, z.most, rfl, by omega, by omega, by omega, fun H2 a0 rs0 s2 N2 => ?_⟩
    have x2 := s2 _ _ upd_same
    refine ⟨_, rfl, x, C, dx, _, rfl, x2, T.cl, T.w0, (by show 3 < 1000; decide), ?_⟩
    rw [putF_new (ks := ["bounds", "most", "scale"]) rfl (by decide +kernel)]
    refine ⟨_, rfl, _, rfl, _, rfl, z.x1, z.d, z.most, rfl, by omega, by omega, by omega, fun H3 a1 rs1 s3 N3 => ?_⟩
    have x3 := s3 _ _ upd_same
    refine ⟨_, rfl, x, C, dx, _, rfl, x3, T.cl, T.w1, (by show 4 < 1000; decide), ?_⟩
    rw [putF_new (ks := ["bounds", "most", "scale", "weights0"]) rfl (by decide +kernel)]
    have lx2 : ∀ b xs, H2 b = some (.lst xs) → b ≠ x := fun b xs e q => by
      rw [q, x2] at e
      cases e
    have lx3 : ∀ b xs, H3 b = some (.lst xs) → b ≠ x := fun b xs e q => by
      rw [q, x3] at e
      cases e
    have up1 : ∀ b o, H b = some o → b ≠ x → H1 b = some o := fun b o e n => N1.same _ _ (by rw [upd_ne n]; exact e)
    have up3 : ∀ b o, H1 b = some o → b ≠ x → H3 b = some o := fun b o e n => s3 _ _ (by rw [upd_ne n]; exact s2 _ _ (by rw [upd_ne n]; exact e))
    have fin : ∀ b o, H3 b = some o → b ≠ x → upd H3 x (.ins C dx (sF ba z.most sc a0 a1)) b = some o := fun b o e n => by
      rw [upd_ne n]
      exact e
    refine k _ ⟨ok, dx, ba, sc, a0, a1, rs0, rs1, upd_same, SqT.of (fin _ _ (up3 _ _ (up1 _ _ hb (xne _ _ hb)) (xne _ _ hb)) (xne _ _ hb)), fin _ _ (up3 _ _ N1.at_ scx) scx, ⟨?_, N2.at_.len, fun i r e => ?_, N2.at_.nd, N2.at_.ne⟩, ⟨?_, N3.at_.len, fun i r e => ?_, N3.at_.nd, N3.at_.ne⟩⟩ (fun b o e n => fin _ _ (up3 _ _ (up1 _ _ e n) n) n)
    · have n := lx2 _ _ N2.at_.at_
      exact fin _ _ (s3 _ _ (by rw [upd_ne n]; exact N2.at_.at_)) n
    · obtain ⟨d, h1, h2⟩ := N2.at_.row i r e
      have n := lx2 _ _ h2
      exact ⟨d, h1, fin _ _ (s3 _ _ (by rw [upd_ne n]; exact h2)) n⟩
    · exact fin _ _ N3.at_.at_ (lx3 _ _ N3.at_.at_)
    · obtain ⟨d, h1, h2⟩ := N3.at_.row i r e
      exact ⟨d, h1, fin _ _ h2 (lx3 _ _ h2)⟩
/-! ### its methods -/
def planV (z : Nat × Nat × Nat × Nat) : List V := [.int z.1, .int z.2.1, .int z.2.2.1, .int z.2.2.2]
def stageV (s : Nat × Nat × Nat) : List V := [.int s.1, .int s.2.1, .int s.2.2]
theorem rej_le {x d n1 r1 n r : Nat} (hx : x ≤ d) (hd1 : 1 ≤ d) (h1 : n1 < n) (hn : n ≤ 20) : rejN x (d - x) n1 r1 n r ≤ d ^ n := by
  have g := ts_good (n1 := n1) (r1 := r1) (n := n) (r := r) (by omega) hn
  have e := KxK.rej_eq g hx
  rw [rej_ts h1] at e
  omega
def sp_keeps_bounds (K : PySem.W.Frag) (C : Addr) : Sp := fun vs H Q _ => ∃ (S pa : Addr) (z : BT) (n1 r1 n r : Nat), vs = [.ref S, .ref pa] ∧ SearchAt K C H S z ∧ H pa = some (.tup (planV (n1, r1, n, r))) ∧ n ≤ z.most ∧ n1 < n ∧ r1 < n1 ∧ r < n ∧ ∀ H', Same H H' → Q (.bl (keepsB z n1 r1 n r)) H'
theorem m_keeps_bounds {C : Addr} (T : SCls K C) (F : MetB K C "keeps_bounds" "Search.keeps_bounds" s_Search_keeps_bounds ["self", "plan"]) (c1 : Cal0 P w K mg base 1 "rejecting" (sp_rejecting K)) : C8.Met P w K mg base 2 C "keeps_bounds" (sp_keeps_bounds K C) [] := by
  obtain ⟨f, fd, me, F, b⟩ := F.ex
  refine C8.met0 T.cl me F b (C8.fnScope_by (N := ["self", "plan", "alpha", "alpha_divisor", "beta", "beta_divisor", "whole", "error0", "error1"]) (by decide +kernel)) (fun vs H Q E h => ?_) (fun cdv A outer s H vs Q E hr h => ?_)
  · obtain ⟨_, _, _, _, _, _, _, rfl, _⟩ := h
    rfl
  · obtain ⟨S, pa, z, n1, r1, n, r, rfl, SA, hp, hn, h1, h2, h3, k⟩ := h
    obtain ⟨ok, dx, ba, sc, a0, a1, rs0, rs1, hS, hb, hs, R0, R1⟩ := SA
    have nd : (["self", "plan", "alpha", "alpha_divisor", "beta", "beta_divisor", "whole", "error0", "error1"] : List Str).Nodup := by decide +kernel
    refine ⟨_, pss_cons (ps_asg (pe_fld (pv 0) rfl) (pg_tup rfl (pgs_cons (pg_name (i := 2) nd rfl (.inl rfl)) (pgs_cons (pg_name (i := 3) nd rfl (.inl rfl)) (pgs_cons (pg_name (i := 4) nd rfl (.inl rfl)) (pgs_cons (pg_name (i := 5) nd rfl (.inl rfl)) pgs_nil))))))
      (pss_cons (ps_set (i := 6) nd rfl (.inl rfl) (pe_ix ix_list (pe_fld (pv 0) rfl) (pe_ix (ix_tupK (K := K) rfl) (pv 1) pe_int (fun _ _ => rfl)) (fun _ _ => rfl)))
      (pss_cons (ps_set (i := 7) nd rfl (.inl rfl) (C8.pe_c c1 hr (by decide) rfl (pa_cons (pe_fld (pv 0) rfl) (pa_cons (pv 1) pa_nil))))
      (pss_cons (ps_if (pt_cmpR op_gt (pe_op op_mulW (pv 7) (pv 3)) (pe_op op_mulW (pv 2) (pv 6)) (nomark _)) (pss_one (ps_ret pe_bl)) pss_nil)
      (C8.pss_cut (ps_set (i := 8) nd rfl (.inl rfl) (pe_op op_sub (pv 6) (C8.pe_c c1 hr (by decide) rfl (pa_cons (pe_fld (pv 0) rfl) (pa_cons (pv 1) pa_nil)))))
      (pss_one (ps_ret (pe_cmpR op_le (pe_op op_mulW (pv 8) (pv 5)) (pe_op op_mulW (pv 4) (pv 6)) (nomark _)))))))), ?_⟩
    have o1 := ok.p01
    have o2 := ok.p1
    have o3 := ok.d
    have o4 := ok.m2
    have o5 := ok.a2
    have o6 := ok.a
    have o7 := ok.b2
    have o8 := ok.b
    have ql0 := rej_le (x := z.x0) (d := z.d) (n1 := n1) (r1 := r1) (n := n) (r := r) (by omega) (by omega) h1 (by omega)
    have ql1 := rej_le (x := z.x1) (d := z.d) (n1 := n1) (r1 := r1) (n := n) (r := r) (by omega) (by omega) h1 (by omega)
    have qw : z.d ^ n < 2 ^ 201 := npow_small (by omega) (by omega)
    refine ⟨_, rfl, S, C, dx, _, _, rfl, hS, T.cl, T.b, sF_b, ba, _, rfl, hb, rfl, _, _, rfl, _, _, rfl, _, _, rfl, _, _, rfl, rfl, ?_⟩
    refine ⟨_, rfl, S, C, dx, _, _, rfl, hS, T.cl, T.s, sF_s, _, rfl, pa, _, _, _, rfl, rfl, SqT.of hp, at_of (j := 2) rfl rfl, sc, _, _, _, rfl, rfl, SqL.of hs, at_of (j := n) rfl (pows_int (by omega)), ?_⟩
    refine ⟨_, rfl, S, C, dx, _, _, rfl, hS, T.cl, T.w0, sF_0, _, rfl, a0, pa, rs0, z.x0, z.d, z.most, n1, r1, n, r, rfl, R0, SqT.of hp, by omega, by omega, by omega, hn, h1, h2, h3, fun H1 s1 => ?_⟩
    generalize hq0 : rejN z.x0 (z.d - z.x0) n1 r1 n r = q0 at *
    refine ⟨_, rfl, _, rfl, _, _, rfl, rfl, cmulN (show q0 < 2 ^ 201 by omega) (show z.ad < 2 ^ 11 by omega) (by decide) (by decide) (by decide), _, rfl, _, rfl, _, _, rfl, rfl, cmulN (show z.a < 2 ^ 11 by omega) qw (by decide) (by decide) (by decide), _, _, rfl, rfl, _, rfl, ?_⟩
    have kb : keepsB z n1 r1 n r = (decide (q0 * z.ad ≤ z.a * z.d ^ n) && decide ((z.d ^ n - rejN z.x1 (z.d - z.x1) n1 r1 n r) * z.bd ≤ z.b * z.d ^ n)) := by rw [← hq0]; rfl
    rw [kb] at k
    have ci : ((z.a : Int) * ((z.d ^ n : Nat) : Int) < (q0 : Int) * (z.ad : Int)) ↔ ¬ (q0 * z.ad ≤ z.a * z.d ^ n) := by
      rw [← Int.natCast_mul, ← Int.natCast_mul, Int.ofNat_lt]
      omega
    by_cases c0 : q0 * z.ad ≤ z.a * z.d ^ n
    · rw [decide_eq_true c0, Bool.true_and] at k
      rw [decide_eq_false (fun y => (ci.mp y) c0)]
      refine iteF ⟨fun σ' H' => σ' = [some (.ref S), some (.ref pa), some (.int z.a), some (.int z.ad), some (.int z.b), some (.int z.bd), some (.int ((z.d ^ n : Nat) : Int)), some (.int q0), some (.int ((z.d ^ n - rejN z.x1 (z.d - z.x1) n1 r1 n r : Nat) : Int))] ∧ Same H H', ?_, ?_⟩
      · refine ⟨_, rfl, _, rfl, S, C, dx, _, _, rfl, s1 _ _ hS, T.cl, T.w1, sF_1, _, rfl, a1, pa, rs1, z.x1, z.d, z.most, n1, r1, n, r, rfl, R1.same s1, SqT.of (s1 _ _ hp), by omega, by omega, by omega, hn, h1, h2, h3, fun H2 s2 => ?_⟩
        refine ⟨_, _, rfl, rfl, ?_, s1.trans s2⟩
        have e : ((z.d ^ n : Nat) : Int) - (rejN z.x1 (z.d - z.x1) n1 r1 n r : Int) = ((z.d ^ n - rejN z.x1 (z.d - z.x1) n1 r1 n r : Nat) : Int) := by omega
        rw [← e]
        rfl
      · rintro σ' H' ⟨rfl, s2⟩
        generalize hq1 : z.d ^ n - rejN z.x1 (z.d - z.x1) n1 r1 n r = q1 at *
        have q1s : q1 < 2 ^ 201 := by omega
        refine ⟨_, rfl, _, rfl, _, _, rfl, rfl, cmulN q1s (show z.bd < 2 ^ 11 by omega) (by decide) (by decide) (by decide), _, rfl, _, rfl, _, _, rfl, rfl, cmulN (show z.b < 2 ^ 11 by omega) qw (by decide) (by decide) (by decide), _, _, rfl, rfl, ?_⟩
        have e : decide (q1 * z.bd ≤ z.b * z.d ^ n) = decide ((q1 : Int) * (z.bd : Int) ≤ (z.b : Int) * ((z.d ^ n : Nat) : Int)) := decide_eq_decide.mpr (by rw [← Int.natCast_mul, ← Int.natCast_mul, Int.ofNat_le])
        rw [e] at k
        exact k H' s2
    · rw [decide_eq_false c0, Bool.false_and] at k
      rw [decide_eq_true (ci.mpr c0)]
      exact iteT (k H1 s1)
def sp_first_kept (K : PySem.W.Frag) (C : Addr) : Sp := fun vs H Q _ => ∃ (S sa : Addr) (z : BT) (n1 r1 n : Nat), vs = [.ref S, .ref sa] ∧ SearchAt K C H S z ∧ H sa = some (.tup (stageV (n1, r1, n))) ∧ n ≤ z.most ∧ n1 < n ∧ r1 < n1 ∧
  (firstK z n1 r1 n = Option.none → ∀ H', Same H H' → Q .non H') ∧ (∀ r, firstK z n1 r1 n = some r → ∀ H' p, Same H H' → H' p = some (.tup (planV (n1, r1, n, r))) → Q (.ref p) H')
theorem rs_get {r1 n i : Nat} (h : i < n - r1) : (rs r1 n)[i]? = some (r1 + i) := by
  unfold rs
  rw [List.getElem?_map, List.getElem?_range h]
  rfl
theorem find_at {α : Type} {p : α → Bool} : ∀ {l : List α} {i : Nat} {x : α}, l[i]? = some x → p x = true → (∀ j y, j < i → l[j]? = some y → p y = false) → l.find? p = some x
  | [], i, x, h, _, _ => by simp at h
  | a :: l, 0, x, h, hx, _ => by
    have e : a = x := Option.some.inj h
    subst e
    rw [List.find?_cons, hx]
  | a :: l, i + 1, x, h, hx, hn => by
    rw [List.find?_cons, hn 0 a (by omega) rfl]
    exact find_at (l := l) (i := i) h hx fun j y hj hy => hn (j + 1) y (by omega) hy
theorem find_no {α : Type} {p : α → Bool} {l : List α} (h : ∀ (j : Nat) y, l[j]? = some y → p y = false) : l.find? p = Option.none := by
  rw [List.find?_eq_none]
  intro x hx
  obtain ⟨j, hj⟩ := List.mem_iff_getElem?.mp hx
  rw [h j x hj]
  exact Bool.false_ne_true
theorem m_first_kept {C : Addr} (gl : Glb mg) (T : SCls K C) (F : MetB K C "first_kept" "Search.first_kept" s_Search_first_kept ["self", "stage"]) (m1 : C8.Met P w K mg base 2 C "keeps_bounds" (sp_keeps_bounds K C) []) : C8.Met P w K mg base 3 C "first_kept" (sp_first_kept K C) [] := by
  obtain ⟨f, fd, me, F, b⟩ := F.ex
  refine C8.met0 T.cl me F b (C8.fnScope_by (N := ["self", "stage", "n1", "r1", "n", "r", "plan"]) (by decide +kernel)) (fun vs H Q E h => ?_) (fun cdv A outer s H vs Q E hr h => ?_)
  · obtain ⟨_, _, _, _, _, _, rfl, _⟩ := h
    rfl
  · obtain ⟨S, sa, z, n1, r1, n, rfl, SA, hs, hn, h1, h2, k1, k2⟩ := h
    have nd : (["self", "stage", "n1", "r1", "n", "r", "plan"] : List Str).Nodup := by decide +kernel
    have o4 := SA.ok.m2
    refine ⟨_, pss_cons (ps_asg (pv 1) (pg_tup rfl (pgs_cons (pg_name (i := 2) nd rfl (.inl rfl)) (pgs_cons (pg_name (i := 3) nd rfl (.inl rfl)) (pgs_cons (pg_name (i := 4) nd rfl (.inl rfl)) pgs_nil)))))
      (pss_cons (ps_for PassesOwn.never rfl (pi_range2 rfl gl.range (pa_cons (pv 3) (pa_cons (pv 4) pa_nil))) (pg_name (i := 5) nd rfl (.inl rfl))
        (pss_cons (ps_set (i := 6) nd rfl (.inl rfl) (pe_tup (pa_cons (pv 2) (pa_cons (pv 3) (pa_cons (pv 4) (pa_cons (pv 5) pa_nil))))))
        (pss_one (ps_if (pt_val (C8.pe_mt m1 hr (by decide) (pv 0) (pa_cons (pv 6) pa_nil))) (pss_one (ps_ret (pv 6))) pss_nil))))
      (pss_one (ps_ret pe_non))), ?_⟩
    refine ⟨_, rfl, sa, _, rfl, SqT.of hs, rfl, _, _, rfl, _, _, rfl, _, _, rfl, rfl, ?_⟩
    refine ⟨_, rfl, _, rfl, (r1 : Int), (n : Int), rfl, by omega, ?_⟩
    have en : ((n : Int) - (r1 : Int)).toNat = n - r1 := by omega
    rw [en]
    refine for_range (lo := (r1 : Int)) (n := n - r1) (fun i σ H' => ∃ v5 v6 : Option V, σ = [some (.ref S), some (.ref sa), some (.int n1), some (.int r1), some (.int n), v5, v6] ∧ Same H H' ∧ ∀ j, j < i → keepsB z n1 r1 n (r1 + j) = false)
      ⟨none, none, rfl, fun _ _ e => e, fun j hj => absurd hj (by omega)⟩ ?_ ?_
    · rintro i σ H1 hi ⟨v5, v6, rfl, s1, hno⟩
      have ei : (r1 : Int) + (i : Nat) = ((r1 + i : Nat) : Int) := by omega
      rw [ei]
      refine ⟨_, rfl, _, rfl, _, rfl, _, rfl, (by show 4 ≤ sizeLine; decide), fun p hp => ?_⟩
      have s2 : Same H1 (upd H1 p (.tup (planV (n1, r1, n, r1 + i)))) := same_upd hp
      have s12 := s1.trans s2
      have SA2 := SA.same s12
      obtain ⟨dx, ba, sc, a0, a1, rs0, rs1, hS, _⟩ := id SA2.ex
      refine ⟨_, rfl, S, dx, _, rfl, hS, sF_no (by decide +kernel), _, rfl, S, p, z, n1, r1, n, r1 + i, rfl, SA2, upd_same, hn, h1, h2, by omega, fun H2 s3 => ⟨_, rfl, ?_⟩⟩
      cases hk : keepsB z n1 r1 n (r1 + i) with
      | true =>
        refine iteT ⟨_, rfl, ?_⟩
        have e : firstK z n1 r1 n = some (r1 + i) := find_at (rs_get hi) hk fun j y hj hy => by
          rw [rs_get (by omega)] at hy
          cases hy
          exact hno j hj
        exact k2 _ e H2 p (s12.trans s3) (s3 _ _ upd_same)
      | false =>
        refine iteF ⟨_, _, rfl, s12.trans s3, fun j hj => ?_⟩
        by_cases c : j = i
        · rw [c]; exact hk
        · exact hno j (by omega)
    · rintro σ H1 ⟨v5, v6, rfl, s1, hno⟩
      have e : firstK z n1 r1 n = Option.none := find_no fun j y hy => by
        have hj : j < n - r1 := by
          have := (List.getElem?_eq_some_iff.mp hy).1
          unfold rs at this
          rw [List.length_map, List.length_range] at this
          exact this
        rw [rs_get hj] at hy
        cases hy
        exact hno j hj
      exact k1 e H1 s1
def sp_size (K : PySem.W.Frag) (C : Addr) : Sp := fun vs H Q _ => ∃ (S sa : Addr) (z : BT) (n1 r1 n : Nat), vs = [.ref S, .ref sa] ∧ SearchAt K C H S z ∧ H sa = some (.tup (stageV (n1, r1, n))) ∧ n ≤ z.most ∧ n1 < n ∧ r1 < n1 ∧ ∀ H', Same H H' → Q (.int (sizeB z n1 r1 n : Nat)) H'
theorem stp_le {x d n1 r1 : Nat} (hx : x ≤ d) : stpN x (d - x) n1 r1 ≤ d ^ n1 := by
  have h := tl_zero x (d - x) n1
  rw [show x + (d - x) = d by omega] at h
  rw [← h]
  unfold stpN tl
  have key : ∀ n, KxI.sumN n (fun s' => if s' ≤ r1 then bw x (d - x) n1 s' else 0) ≤ KxI.sumN n (fun s' => if 0 ≤ s' then bw x (d - x) n1 s' else 0) := fun n => by
    induction n with
    | zero => exact Nat.le_refl _
    | succ n ih =>
      refine Nat.add_le_add ih ?_
      show (if n ≤ r1 then bw x (d - x) n1 n else 0) ≤ (if 0 ≤ n then bw x (d - x) n1 n else 0)
      rw [if_pos (Nat.zero_le n)]
      split
      · exact Nat.le_refl _
      · exact Nat.zero_le _
  exact key _
theorem m_size {C : Addr} (gl : Glb mg) (T : SCls K C) (F : MetB K C "size" "Search.size" s_Search_size ["self", "stage"]) : C8.Met P w K mg base 1 C "size" (sp_size K C) [] := by
  obtain ⟨f, fd, me, F, b⟩ := F.ex
  refine C8.met0 T.cl me F b (C8.fnScope_by (N := ["self", "stage", "n1", "r1", "n", "stopping", "total"]) (by decide +kernel)) (fun vs H Q E h => ?_) (fun cdv A outer s H vs Q E hr h => ?_)
  · obtain ⟨_, _, _, _, _, _, rfl, _⟩ := h
    rfl
  · obtain ⟨S, sa, z, n1, r1, n, rfl, SA, hs, hn, h1, h2, k⟩ := h
    obtain ⟨ok, dx, ba, sc, a0, a1, rs0, rs1, hS, hb, hsc, R0, R1⟩ := SA
    have nd : (["self", "stage", "n1", "r1", "n", "stopping", "total"] : List Str).Nodup := by decide +kernel
    have o1 := ok.p01
    have o2 := ok.p1
    have o3 := ok.d
    have o4 := ok.m2
    refine ⟨_, pss_cons (ps_asg (pv 1) (pg_tup rfl (pgs_cons (pg_name (i := 2) nd rfl (.inl rfl)) (pgs_cons (pg_name (i := 3) nd rfl (.inl rfl)) (pgs_cons (pg_name (i := 4) nd rfl (.inl rfl)) pgs_nil)))))
      (C8.pss_cut (ps_set (i := 5) nd rfl (.inl rfl) (pe_callB (cr_sum rfl) (by rfl) gl.sum (by decide +kernel) (pa_cons (pe_slice sl_list (pe_ix ix_list (pe_fld (pv 0) rfl) (pv 2) (fun _ _ => rfl)) po_none (po_some (pe_op op_add (pv 3) pe_int))) pa_nil)))
      (C8.pss_cut (ps_set (i := 6) nd rfl (.inl rfl) (pe_op op_add (pe_op op_mulW (pv 2) (pv 5)) (pe_op op_mulW (pv 4) (pe_op op_sub (pe_ix ix_list (pe_fld (pv 0) rfl) (pv 2) (fun _ _ => rfl)) (pv 5)))))
      (pss_one (ps_ret (pe_op op_mulW (pv 6) (pe_ix ix_list (pe_fld (pv 0) rfl) (pe_op op_sub (pe_fld (pv 0) rfl) (pv 2)) (fun _ _ => rfl))))))), ?_⟩
    refine ⟨_, rfl, sa, _, rfl, SqT.of hs, rfl, _, _, rfl, _, _, rfl, _, _, rfl, rfl, ?_⟩
    obtain ⟨w1, f1, f2, f3⟩ := R0.get (bwRows_get (x := z.x0) (q := z.d - z.x0) (show n1 < z.most + 1 by omega))
    have sl := stp_le (n1 := n1) (r1 := r1) (show z.x0 ≤ z.d by omega)
    refine ⟨fun σ' H' => σ' = [some (.ref S), some (.ref sa), some (.int n1), some (.int r1), some (.int n), some (.int (stpN z.x0 (z.d - z.x0) n1 r1 : Nat)), none] ∧ Same H H', ?_, ?_⟩
    · refine ⟨_, rfl, S, C, dx, _, _, rfl, hS, T.cl, T.w0, sF_0, _, rfl, a0, _, _, _, rfl, rfl, SqL.of R0.at_, at_of rfl f2, _, rfl, _, _, rfl, rfl, _, rfl, w1, _, rfl, SqL.of f3, fun c hc => ?_⟩
      have e : cutV (nats (bwRow z.x0 (z.d - z.x0) n1)) none (some ((r1 : Int) + 1)) = nats ((bwRow z.x0 (z.d - z.x0) n1).take (r1 + 1)) := by
        rw [← nats_take]
        have e2 : (r1 : Int) + 1 = ((r1 + 1 : Nat) : Int) := by omega
        rw [e2]
        exact cut_to _ (by rw [nats_len, bwRow_len]; omega)
      refine ⟨c, ((bwRow z.x0 (z.d - z.x0) n1).take (r1 + 1)).map fun x : Nat => (x : Int), rfl, ?_, ?_⟩
      · show SqL K (upd H c (.lst (cutV (nats (bwRow z.x0 (z.d - z.x0) n1)) none (some ((r1 : Int) + 1))))) c _
        rw [e, nats_asInts]
        exact SqL.of upd_same
      · refine ⟨?_, same_upd hc⟩
        rw [ints_sum, stp_sum]
        rfl
    rintro σ' H' ⟨rfl, s1⟩
    generalize hst : stpN z.x0 (z.d - z.x0) n1 r1 = st at *
    have qw : z.d ^ n1 < 2 ^ 201 := npow_small (by omega) (by omega)
    have qm : z.d ^ (z.most - n1) < 2 ^ 201 := npow_small (by omega) (by omega)
    have e1 : ((z.d ^ n1 : Nat) : Int) - (st : Int) = ((z.d ^ n1 - st : Nat) : Int) := by omega
    have t1 : n1 * st < 2 ^ (5 + 201) := mul_lt2 (by omega) (by omega)
    have t2 : n * (z.d ^ n1 - st) < 2 ^ (5 + 201) := mul_lt2 (by omega) (by omega)
    refine ⟨fun σ'' H'' => σ'' = [some (.ref S), some (.ref sa), some (.int n1), some (.int r1), some (.int n), some (.int st), some (.int ((n1 * st + n * (z.d ^ n1 - st) : Nat) : Int))] ∧ H'' = H', ?_, ?_⟩
    · refine ⟨_, rfl, _, rfl, _, _, rfl, rfl, cmulN (show n1 < 2 ^ 5 by omega) (show st < 2 ^ 201 by omega) (by decide) (by decide) (by decide), _, rfl, _, rfl, S, C, dx, _, _, rfl, s1 _ _ hS, T.cl, T.s, sF_s, _, rfl, sc, _, _, _, rfl, rfl, SqL.of (s1 _ _ hsc), at_of rfl (pows_int (by omega)), _, rfl, _, _, rfl, rfl, _, _, rfl, rfl, ?_, _, _, rfl, rfl, ?_, rfl⟩
      · rw [e1]
        exact cmulN (show n < 2 ^ 5 by omega) (show z.d ^ n1 - st < 2 ^ 201 by omega) (by decide) (by decide) (by decide)
      · rw [Int.natCast_add, Int.natCast_mul, Int.natCast_mul, ← e1]
        rfl
    · rintro σ'' H'' ⟨rfl, rfl⟩
      refine ⟨_, rfl, _, rfl, S, C, dx, _, _, rfl, s1 _ _ hS, T.cl, T.s, sF_s, _, rfl, S, C, dx, _, _, rfl, s1 _ _ hS, T.cl, T.m, sF_m, _, rfl, _, _, rfl, rfl, sc, _, _, _, rfl, rfl, SqL.of (s1 _ _ hsc), at_of (j := z.most - n1) (by omega) (pows_int (by omega)), _, _, rfl, rfl, cmulN (i := 207) (j := 201) (by omega) qm (by decide) (by decide) (by decide), ?_⟩
      have e2 : ((sizeB z n1 r1 n : Nat) : Int) = ((n1 * st + n * (z.d ^ n1 - st) : Nat) : Int) * ((z.d ^ (z.most - n1) : Nat) : Int) := by
        rw [← Int.natCast_mul, ← hst]
        rfl
      have k' := k H'' s1
      rw [e2] at k'
      exact k'
end
end St
set_option Elab.async false
set_option linter.all false
set_option maxRecDepth 100000
set_option maxHeartbeats 2000000
set_option exponentiation.threshold 100000
/-! W32: the best two-stage plan: call 17. -/
namespace St
open PySem PySem.Spec PyProof.Rows L2 NdefX LamX KxF KxM KxN
/-- the stages with this n, n1 below i -/
def inS (n i : Nat) : List (Nat × Nat × Nat) := (List.range i).flatMap fun n1 => (List.range n1).map fun r1 => (n1, r1, n)
theorem inS_succ (n i : Nat) : inS n (i + 1) = inS n i ++ (List.range i).map fun r1 => (i, r1, n) := by
  unfold inS
  rw [List.range_succ, List.flatMap_append]
  simp
theorem stg_succ (m : Nat) : stg (m + 1) = stg m ++ inS m m := by
  unfold stg
  rw [List.range_succ, List.flatMap_append]
  simp [inS]
theorem inS_len (n : Nat) : ∀ i, i ≤ 8 → (inS n i).length ≤ i * 8
  | 0, _ => Nat.le_refl _
  | i + 1, h => by
    rw [inS_succ, List.length_append, List.length_map, List.length_range]
    have := inS_len n i (by omega)
    omega
theorem stg_len : ∀ m, m ≤ 9 → (stg m).length ≤ m * 64
  | 0, _ => Nat.le_refl _
  | m + 1, h => by
    rw [stg_succ, List.length_append]
    have := stg_len m (by omega)
    have := inS_len m m (by omega)
    omega
section
variable {P : Program} {w : World} {K : PySem.W.Frag} {mg : Str → Option Value} {base : Heap}
def sp_first_stages : Sp := fun vs H Q _ => ∃ m : Nat, vs = [.int m] ∧ 2 ≤ m ∧ m ≤ 8 ∧ ∀ H' q ts, Same H H' → H q = Option.none → TupsAt stageV H' q ts (stg (m + 1)) → Q (.ref q) H'
theorem c_first_stages (gl : Glb mg) (F : DefB K mg "first_stages" s_first_stages ["most"]) : Cal0 P w K mg base 1 "first_stages" sp_first_stages := by
  obtain ⟨fa, fd, F, b⟩ := F.ex
  refine C8.cal0 F b .nil (C8.fnScope_by (N := ["most", "found", "n", "n1", "r1"]) (by decide +kernel)) (fun vs H Q E h => ?_) (fun cdv A outer s H vs Q E hr h => ?_)
  · obtain ⟨_, rfl, _⟩ := h
    rfl
  · obtain ⟨m, rfl, hm2, hm, k⟩ := h
    have nd : (["most", "found", "n", "n1", "r1"] : List Str).Nodup := by decide +kernel
    have hz := sizeLine_eq
    refine ⟨_, pss_cons (ps_set (i := 1) nd rfl (.inl rfl) (pe_lst pa_nil))
      (pss_cons (ps_for PassesOwn.never rfl (pi_range2 rfl gl.range (pa_cons pe_int (pa_cons (pe_op op_add (pv 0) pe_int) pa_nil))) (pg_name (i := 2) nd rfl (.inr rfl))
        (pss_one (ps_for PassesOwn.never rfl (pi_range2 rfl gl.range (pa_cons pe_int (pa_cons (pv 2) pa_nil))) (pg_name (i := 3) nd rfl (.inr rfl))
          (pss_one (ps_expr (pe_bm PySem.F.plainAttrs_list PySem.F.slot_list_extend PySem.F.type_list_extend mt_extend (pv 1)
            (pa_cons (pe_lc (own := [("r1", 4)]) (g := gName 4) (tt := tYes) rfl nd (pi_range1 rfl gl.range (pa_cons (pv 3) pa_nil)) (blkOk_by (N := ["most", "found", "n", "n1", "r1"]) (sc := C8.fnScope s_first_stages) (by decide +kernel))
              (fun _ _ _ _ _ => pg_name (i := 4) nd rfl (.inl rfl)) (fun _ _ _ _ _ => pts_nil) (fun _ _ _ _ _ => pe_tup (pa_cons (pv 3) (pa_cons (pv 4) (pa_cons (pv 2) pa_nil))))) pa_nil)))))))
      (pss_one (ps_ret (pv 1)))), ?_⟩
    refine ⟨Nat.zero_le _, fun l hl => ?_⟩
    have keep : ∀ (H4 : Hp) (o : HO), Same H H4 → Same H (upd H4 l o) := fun H4 o s4 b o e => by
      rw [upd_ne (ne_of_none e hl)]
      exact s4 _ _ e
    refine ⟨_, rfl, _, _, rfl, rfl, (2 : Int), ((m : Int) + 1), rfl, by omega, ?_⟩
    rw [show ((m : Int) + 1 - 2).toNat = m - 1 by omega]
    refine for_range (lo := 2) (n := m - 1) (fun i σ H' => ∃ (v2 v3 : Option V) (ts : List Addr), σ = [some (.int m), some (.ref l), v2, v3, none] ∧ Same H H' ∧ TupsAt stageV H' l ts (stg (2 + i)))
      ⟨none, none, [], rfl, same_upd hl, ⟨upd_same, rfl, fun i t e => by simp at e⟩⟩ ?_ ?_
    · rintro i σ H1 hi ⟨v2, v3, ts, rfl, s1, S1⟩
      have ei : (2 : Int) + (i : Nat) = ((2 + i : Nat) : Int) := by omega
      rw [ei]
      generalize hn : 2 + i = n at *
      refine ⟨_, rfl, (1 : Int), (n : Int), rfl, by omega, ?_⟩
      rw [show ((n : Int) - 1).toNat = n - 1 by omega]
      refine for_range (lo := 1) (n := n - 1) (fun j σ H' => ∃ (v3 : Option V) (ts : List Addr), σ = [some (.int m), some (.ref l), some (.int n), v3, none] ∧ Same H H' ∧ TupsAt stageV H' l ts (stg n ++ inS n (1 + j)))
        ⟨v3, ts, rfl, s1, ?_⟩ ?_ ?_
      · have e : stg n ++ inS n (1 + 0) = stg n := List.append_nil _
        rw [e]
        exact S1
      · rintro j σ H2 hj ⟨v3, ts, rfl, s2, S2⟩
        have ej : (1 : Int) + (j : Nat) = ((1 + j : Nat) : Int) := by omega
        rw [ej]
        generalize hn1 : 1 + j = n1 at *
        refine ⟨_, rfl, .inl ⟨rfl, _, SqL.of S2.at_⟩, _, rfl, _, rfl, by omega, by omega, fun D hD => lc_range (lo := 0) (n := n1) (fun r H3 => ∃ us : List Addr, Same H2 H3 ∧ TupsAt stageV H3 D us ((List.range r).map fun r1 => (n1, r1, n))) ⟨[], same_upd hD, ⟨upd_same, rfl, fun i t e => by simp at e⟩⟩ ?_ ?_⟩
        · rintro r H3 hr' ⟨us, s3, U⟩
          have er : (0 + (r : Int)) = (r : Int) := Int.zero_add _
          rw [er]
          refine ⟨rfl, _, rfl, _, rfl, _, rfl, (by show 3 ≤ sizeLine; decide), fun T hT => ?_⟩
          have sT : Same H3 (upd H3 T (.tup (stageV (n1, r, n)))) := same_upd hT
          have U2 := (U.same sT).push (z := (n1, r, n)) upd_same
          have lU : (us.map V.ref).length = r := by rw [List.length_map, U.len, List.length_map, List.length_range]
          refine ⟨us.map V.ref, sT _ _ U.at_, by rw [lU]; omega, us ++ [T], fun b o e => ?_, ?_⟩
          · rw [upd_ne (ne_of_none e hD)]
            exact sT _ _ (s3 _ _ e)
          · rw [List.range_succ, List.map_append]
            exact U2
        · rintro H3 ⟨us, s3, U⟩
          have S3 := S2.same s3
          have le1 := stg_len n (by omega)
          have le2 := inS_len n n1 (by omega)
          refine ⟨l, D, _, _, rfl, rfl, S3.at_, U.at_, ?_, ?_⟩
          · rw [List.length_map, List.length_map, S3.len, U.len, List.length_append, List.length_map, List.length_range]
            omega
          · refine ⟨_, ts ++ us, rfl, keep _ _ (s2.trans s3), ?_⟩
            have e : stg n ++ inS n (1 + (j + 1)) = (stg n ++ inS n n1) ++ (List.range n1).map fun r1 => (n1, r1, n) := by
              rw [show 1 + (j + 1) = n1 + 1 by omega, inS_succ, List.append_assoc]
            rw [e]
            exact S3.extend U
      · rintro σ H2 ⟨v3, ts, rfl, s2, S2⟩
        have e : stg n ++ inS n (1 + (n - 1)) = stg (2 + (i + 1)) := by
          rw [show 1 + (n - 1) = n by omega, show 2 + (i + 1) = n + 1 by omega, stg_succ]
        rw [e] at S2
        exact ⟨_, _, _, rfl, s2, S2⟩
    · rintro σ H1 ⟨v2, v3, ts, rfl, s1, S1⟩
      rw [show 2 + (m - 1) = m + 1 by omega] at S1
      exact ⟨_, rfl, k H1 l ts s1 hl S1⟩
/-- what the program holds as its best -/
def BestAt (H : Hp) (v : V) (e : Nat) (b : Best) : Prop := match b with
  | none => v = .non
  | some y => ∃ p, v = .ref p ∧ H p = some (.tup (planV y.1)) ∧ e = y.2
theorem BestAt.same {H H' : Hp} {v : V} {e : Nat} {b : Best} (B : BestAt H v e b) (s : Same H H') : BestAt H' v e b := by
  cases b with
  | none => exact B
  | some y =>
    obtain ⟨p, h1, h2, h3⟩ := B
    exact ⟨p, h1, s _ _ h2, h3⟩
def sp_best_two_stage (K : PySem.W.Frag) : Sp := fun vs H Q _ => ∃ (ca ba : Addr) (z : BT), vs = [.ref ca, .ref ba, .int z.most] ∧ H ca = some (.tup [.int z.x0, .int z.x1, .int z.d]) ∧ H ba = some (.tup [.int z.a, .int z.ad, .int z.b, .int z.bd]) ∧ BTOk z ∧
  (bestP z = Option.none → ∀ H', Same H H' → Q .non H') ∧ (∀ y, bestP z = some y → ∀ H' q, Same H H' → H q = Option.none → H' q = some (.lst (planV y.1 ++ lowest y.2 (z.d ^ z.most))) → Q (.ref q) H')
theorem c_best_two_stage {C : Addr} (T : SCls K C) (gl : Glb mg) (F : DefB K mg "best_two_stage" s_best_two_stage ["chances", "bounds", "most"]) (c0 : C8.Mak P w K mg base 3 "Search" C (sp_Search K C) []) (m1 : C8.Met P w K mg base 1 C "size" (sp_size K C) []) (m2 : C8.Met P w K mg base 3 C "first_kept" (sp_first_kept K C) [])
    (c1 : Cal0 P w K mg base 1 "first_stages" sp_first_stages) (c2 : Cal0 P w K mg base 2 "lowest_terms" sp_lowest_terms) : Cal0 P w K mg base 5 "best_two_stage" (sp_best_two_stage K) := by
  obtain ⟨fa, fd, F, b⟩ := F.ex
  refine C8.cal0 F b .nil (C8.fnScope_by (N := ["chances", "bounds", "most", "search", "best", "least", "stage", "size", "plan"]) (by decide +kernel)) (fun vs H Q E h => ?_) (fun cdv A outer s H vs Q E hr h => ?_)
  · obtain ⟨_, _, _, rfl, _⟩ := h
    rfl
  · obtain ⟨ca, ba, z, rfl, hc, hb, ok, k1, k2⟩ := h
    have nd : (["chances", "bounds", "most", "search", "best", "least", "stage", "size", "plan"] : List Str).Nodup := by decide +kernel
    have hz := sizeLine_eq
    have o1 := ok.p01
    have o2 := ok.p1
    have o3 := ok.d
    have o4 := ok.m2
    have o5 := ok.m1
    refine ⟨_, pss_cons (ps_set (i := 3) nd rfl (.inl rfl) (C8.pe_mk c0 hr (by decide) rfl (pa_cons (pv 0) (pa_cons (pv 1) (pa_cons (pv 2) pa_nil)))))
      (pss_cons (ps_set (i := 4) nd rfl (.inl rfl) pe_non)
      (pss_cons (ps_set (i := 5) nd rfl (.inl rfl) pe_int)
      (pss_cons (ps_for PassesOwn.never rfl (pi_list (C8.pe_c c1 hr (by decide) rfl (pa_cons (pv 2) pa_nil))) (pg_name (i := 6) nd rfl (.inl rfl))
        (pss_cons (ps_set (i := 7) nd rfl (.inl rfl) (C8.pe_mt m1 hr (by decide) (pv 3) (pa_cons (pv 6) pa_nil)))
        (pss_one (ps_if (PW.pt (pw_or (pt_cmpR op_isN (pv 4) pe_non (nomark _)) (pw_or1 (pt_cmpR op_lt (pv 7) (pv 5) (nomark _)))))
          (pss_cons (ps_set (i := 8) nd rfl (.inl rfl) (C8.pe_mt m2 hr (by decide) (pv 3) (pa_cons (pv 6) pa_nil)))
          (pss_one (ps_if (pt_cmpR op_notN (pv 8) pe_non (nomark _)) (pss_cons (ps_set (i := 4) nd rfl (.inl rfl) (pv 8)) (pss_one (ps_set (i := 5) nd rfl (.inl rfl) (pv 7)))) pss_nil))) pss_nil))))
      (pss_cons (ps_if (pt_cmpR op_isN (pv 4) pe_non (nomark _)) (pss_one (ps_ret pe_non)) pss_nil)
      (pss_one (ps_ret (pe_op op_cat (pe_callTy call_list_of (by rfl) gl.list (by decide +kernel) (pa_cons (pv 4) pa_nil)) (C8.pe_c c2 hr (by decide) rfl (pa_cons (pv 5) (pa_cons (pe_ix ix_list (pe_fld (pv 3) rfl) (pv 2) (fun _ _ => rfl)) pa_nil)))))))))), ?_⟩
    refine ⟨_, rfl, _, rfl, _, rfl, fun x dp hx hd ne => ?_⟩
    have sx : Same H (upd (upd H dp (.own x)) x (.ins C dp [])) := (same_upd hd).trans (same_upd (by rw [upd_ne (Ne.symm ne)]; exact hx))
    refine ⟨x, ca, ba, dp, z, rfl, upd_same, sx _ _ hc, sx _ _ hb, ok, fun H1 SA kp => ⟨rfl, ?_⟩⟩
    have s1 : Same H H1 := fun b o e => kp b o (sx _ _ e) (ne_of_none e hx)
    refine ⟨_, rfl, z.most, rfl, o5, o4, fun H2 q ts s2 hq S2 => ?_⟩
    have s12 := s1.trans s2
    refine ⟨q, rfl, ⟨_, SqL.of S2.at_⟩, for_list (K := K) (a := q) (xs := ts.map V.ref) (fun i σ H' => ∃ (vb : V) (e : Nat) (v6 v7 v8 : Option V), σ = [some (.ref ca), some (.ref ba), some (.int z.most), some (.ref x), some vb, some (.int e), v6, v7, v8] ∧ Same H2 H' ∧ BestAt H' vb e (((stg (z.most + 1)).take i).foldl (stepP z) Option.none))
      ⟨.non, 0, none, none, none, rfl, fun _ _ e => e, rfl⟩ (fun i σ H' _ ⟨_, _, _, _, _, _, s3, _⟩ => SqL.of (s3 _ _ S2.at_)) ?_ ?_⟩
    · rintro i y σ H3 hy ⟨vb, e, v6, v7, v8, rfl, s3, B⟩
      obtain ⟨tp, htp, rfl⟩ : ∃ tp, ts[i]? = some tp ∧ y = V.ref tp := by
        rw [List.getElem?_map] at hy
        cases e : ts[i]? with
        | none => rw [e] at hy; cases hy
        | some tp => rw [e] at hy; exact ⟨tp, rfl, (Option.some.inj hy).symm⟩
      obtain ⟨st, hs1, hs2⟩ := S2.tup i tp htp
      obtain ⟨n1, r1, n⟩ := st
      obtain ⟨b1, b2, b3⟩ := stg_in _ (List.mem_of_getElem? hs1)
      have b1 : r1 < n1 := b1
      have b2 : n1 < n := b2
      have b3 : n < z.most + 1 := b3
      rw [take_snoc hs1, List.foldl_append]
      generalize hb0 : ((stg (z.most + 1)).take i).foldl (stepP z) Option.none = b0 at *
      have SA3 := (SA.same s2).same s3
      obtain ⟨dx, xba, xsc, xa0, xa1, xrs0, xrs1, hS, _⟩ := id SA3.ex
      have hst3 := s3 _ _ hs2
      refine ⟨_, rfl, x, dx, _, rfl, hS, sF_no (by decide +kernel), _, rfl, x, tp, z, n1, r1, n, rfl, SA3, hst3, by omega, b2, b1, fun H4 s4 => ?_⟩
      have step : stepP z b0 (n1, r1, n) = if better b0 (sizeB z n1 r1 n) = true then (match firstK z n1 r1 n with
        | none => b0
        | some r => some ((n1, r1, n, r), sizeB z n1 r1 n)) else b0 := rfl
      refine ⟨_, rfl, rfl, _, rfl, ?_⟩
      have SA4 := SA3.same s4
      have hst4 := s4 _ _ hst3
      have B4 := B.same s4
      generalize hsz : sizeB z n1 r1 n = sz at *
      cases b0 with
      | none =>
        have B4 : vb = .non := B4
        subst B4
        have bt : better Option.none sz = true := rfl
        rw [bt, if_pos rfl] at step
        refine iteT (iteT ⟨_, rfl, x, dx, _, rfl, s4 _ _ hS, sF_no (by decide +kernel), _, rfl, x, tp, z, n1, r1, n, rfl, SA4, hst4, by omega, b2, b1, fun fk H5 s5 => ?_, fun r fk H5 p5 s5 hp5 => ?_⟩)
        · rw [fk] at step
          refine ⟨_, rfl, rfl, _, rfl, iteF ⟨_, _, _, _, _, rfl, (s3.trans s4).trans s5, ?_⟩⟩
          have ef : List.foldl (stepP z) (Option.none : Best) [(n1, r1, n)] = stepP z Option.none (n1, r1, n) := rfl
          rw [ef, step]
          exact rfl
        · rw [fk] at step
          have nn : (!decide (V.ref p5 = V.non)) = true := by rw [decide_eq_false (fun y => by cases y)]; rfl
          refine ⟨_, rfl, rfl, _, rfl, ?_⟩
          rw [nn]
          refine iteT ⟨_, rfl, _, rfl, _, _, _, _, _, rfl, (s3.trans s4).trans s5, ?_⟩
          have ef : List.foldl (stepP z) (Option.none : Best) [(n1, r1, n)] = stepP z Option.none (n1, r1, n) := rfl
          rw [ef, step]
          exact ⟨p5, rfl, hp5, rfl⟩
      | some y0 =>
        obtain ⟨p0, rfl, hp0, he0⟩ := id B4
        have bt : better (some y0) sz = decide (sz < e) := by rw [he0]; rfl
        rw [bt] at step
        rw [decide_eq_false (show ¬ V.ref p0 = V.non from fun y => by cases y)]
        refine iteF ⟨_, rfl, _, rfl, _, _, rfl, rfl, _, rfl, ?_⟩
        by_cases c : sz < e
        · rw [decide_eq_true c, if_pos rfl] at step
          rw [decide_eq_true (show (sz : Int) < (e : Int) by omega)]
          refine iteT ⟨_, rfl, x, dx, _, rfl, s4 _ _ hS, sF_no (by decide +kernel), _, rfl, x, tp, z, n1, r1, n, rfl, SA4, hst4, by omega, b2, b1, fun fk H5 s5 => ?_, fun r fk H5 p5 s5 hp5 => ?_⟩
          · rw [fk] at step
            refine ⟨_, rfl, rfl, _, rfl, iteF ⟨_, _, _, _, _, rfl, (s3.trans s4).trans s5, ?_⟩⟩
            show BestAt _ _ _ (stepP z _ (n1, r1, n))
            rw [step]
            exact B4.same s5
          · rw [fk] at step
            have nn : (!decide (V.ref p5 = V.non)) = true := by rw [decide_eq_false (fun y => by cases y)]; rfl
            refine ⟨_, rfl, rfl, _, rfl, ?_⟩
            rw [nn]
            refine iteT ⟨_, rfl, _, rfl, _, _, _, _, _, rfl, (s3.trans s4).trans s5, ?_⟩
            show BestAt _ _ _ (stepP z _ (n1, r1, n))
            rw [step]
            exact ⟨p5, rfl, hp5, rfl⟩
        · rw [decide_eq_false c, if_neg Bool.false_ne_true] at step
          rw [decide_eq_false (show ¬ (sz : Int) < (e : Int) by omega)]
          refine iteF ⟨_, _, _, _, _, rfl, s3.trans s4, ?_⟩
          show BestAt _ _ _ (stepP z _ (n1, r1, n))
          rw [step]
          exact B4
    · rintro σ H3 ⟨vb, e, v6, v7, v8, rfl, s3, B⟩
      have e3 : (stg (z.most + 1)).take (ts.map V.ref).length = stg (z.most + 1) := by rw [List.length_map, S2.len, List.take_length]
      rw [e3] at B
      have B : BestAt H3 vb e (bestP z) := B
      have s123 := s12.trans s3
      cases hbz : bestP z with
      | none =>
        rw [hbz] at B
        have B : vb = .non := B
        subst B
        exact ⟨_, rfl, rfl, _, rfl, iteT (k1 hbz H3 s123)⟩
      | some y =>
        rw [hbz] at B
        obtain ⟨p, rfl, hp, rfl⟩ := B
        refine ⟨_, rfl, rfl, _, rfl, ?_⟩
        rw [decide_eq_false (show ¬ V.ref p = V.non from fun y => by cases y)]
        refine iteF ⟨_, rfl, p, _, rfl, .inr (SqT.of hp), fun l hl => ?_⟩
        have s4 : Same H3 (upd H3 l (.lst (planV y.1))) := same_upd hl
        obtain ⟨_, dx, xba, xsc, xa0, xa1, xrs0, xrs1, hS, _, hsc, _⟩ := (SA.same (s2.trans s3)).same s4
        refine ⟨_, rfl, _, rfl, x, C, dx, _, _, rfl, hS, T.cl, T.s, sF_s, _, rfl, xsc, _, _, _, rfl, rfl, SqL.of hsc, at_of (j := z.most) rfl (pows_int (by omega)), y.2, z.d ^ z.most, ?_, Nat.pow_pos (by omega), Nat.lt_of_lt_of_le (npow_small (by omega) (by omega)) (Nat.pow_le_pow_right (by decide) (by decide)), fun H5 q5 N => ?_⟩
        · rfl
        refine ⟨l, q5, _, _, rfl, rfl, N.same _ _ upd_same, N.at_, (by show 4 + 2 ≤ sizeLine; decide), fun q6 hq6 => ?_⟩
        have s5 := (s123.trans s4).trans N.same
        exact k2 y hbz _ q6 (s5.trans (same_upd hq6)) (s5.free hq6) upd_same
end
end St
set_option Elab.async false
set_option linter.all false
set_option maxRecDepth 100000
set_option maxHeartbeats 2000000
set_option exponentiation.threshold 100000
/-! W33: call 17; the ranges of calls 17 and 18. -/
namespace St
open PySem PySem.Spec PyProof.Rows L2 NdefX LamX KxF KxM KxN
section
variable {P : Program} {w : World} {K : PySem.W.Frag} {mg : Str → Option Value} {base : Heap}
def sp_is_stage_size : Sp := fun vs H Q _ => ∃ a : Int, vs = [.int a] ∧ Q (.bl (decide (2 ≤ a ∧ a ≤ 8))) H
theorem c_is_stage_size (g : Glb mg) (F : DefB K mg "is_stage_size" s_is_stage_size ["number"]) (c1 : Cal0 P w K mg base 1 "is_within" sp_is_within) : Cal0 P w K mg base 2 "is_stage_size" sp_is_stage_size := by
  obtain ⟨f, fd, F, b⟩ := F.ex
  refine C8.cal0 F b .nil (C8.fnScope_by (N := ["number"]) (by decide +kernel)) (fun vs H Q E h => ?_) (fun cdv A outer s H vs Q E hr h => ?_)
  · obtain ⟨_, rfl, _⟩ := h
    rfl
  · obtain ⟨a, rfl, k⟩ := h
    refine ⟨_, pss_one (ps_ret (C8.pe_c c1 hr (by decide) rfl (pa_cons (pv 0) (pa_cons (C8.pe_gc rfl g.LEAST_STAGES) (pa_cons (C8.pe_gc rfl g.MOST_STAGES) pa_nil))))), ?_⟩
    exact ⟨_, rfl, _, _, _, rfl, k⟩
def sp_is_trial_count : Sp := fun vs H Q _ => ∃ a : Int, vs = [.int a] ∧ Q (.bl (decide (0 ≤ a ∧ a ≤ 7))) H
theorem c_is_trial_count (g : Glb mg) (F : DefB K mg "is_trial_count" s_is_trial_count ["number"]) (c1 : Cal0 P w K mg base 1 "is_within" sp_is_within) : Cal0 P w K mg base 2 "is_trial_count" sp_is_trial_count := by
  obtain ⟨f, fd, F, b⟩ := F.ex
  refine C8.cal0 F b .nil (C8.fnScope_by (N := ["number"]) (by decide +kernel)) (fun vs H Q E h => ?_) (fun cdv A outer s H vs Q E hr h => ?_)
  · obtain ⟨_, rfl, _⟩ := h
    rfl
  · obtain ⟨a, rfl, k⟩ := h
    refine ⟨_, pss_one (ps_ret (C8.pe_c c1 hr (by decide) rfl (pa_cons (pv 0) (pa_cons pe_int (pa_cons (C8.pe_gc rfl g.MOST_TRIALS) pa_nil))))), ?_⟩
    exact ⟨_, rfl, _, _, _, rfl, k⟩
/-- whether all are weights -/
def areW (l : List Nat) : Bool := l.all fun x => decide (1 ≤ x ∧ x ≤ 100)
def sp_are_weights (K : PySem.W.Frag) : Sp := fun vs H Q _ => ∃ (a : Addr) (l : List Nat), vs = [.ref a] ∧ SqL K H a (nats l) ∧ l.length ≤ 1000 ∧ ∀ H', Same H H' → Q (.bl (areW l)) H'
theorem c_are_weights (g : Glb mg) (F : DefB K mg "are_weights" s_are_weights ["numbers"]) (c1 : Cal0 P w K mg base 1 "is_within" sp_is_within) : Cal0 P w K mg base 2 "are_weights" (sp_are_weights K) := by
  obtain ⟨f, fd, F, b⟩ := F.ex
  refine C8.cal0 F b .nil (C8.fnScope_by (N := ["numbers", "number"]) (by decide +kernel)) (fun vs H Q E h => ?_) (fun cdv A outer s H vs Q E hr h => ?_)
  · obtain ⟨_, _, rfl, _⟩ := h
    rfl
  · obtain ⟨a, l, rfl, ha, hl, k⟩ := h
    have nd : (["numbers", "number"] : List Str).Nodup := by decide +kernel
    have hz := sizeLine_eq
    refine ⟨_, pss_one (ps_ret (pe_callB (cr_all rfl) (by rfl) g.all (by decide +kernel) (pa_cons (pe_lc (own := [("number", 1)]) (g := gName 1) (tt := tYes) rfl nd (pi_list (pv 0)) (blkOk_by (N := ["numbers", "number"]) (sc := C8.fnScope s_are_weights) (by decide +kernel))
      (fun _ _ _ _ _ => pg_name (i := 1) nd rfl (.inl rfl)) (fun _ _ _ _ _ => pts_nil) (fun _ _ _ _ _ => C8.pe_c c1 hr (by decide) rfl (pa_cons (pv 1) (pa_cons pe_int (pa_cons (C8.pe_gc rfl g.MOST_WEIGHT) pa_nil))))) pa_nil))), ?_⟩
    refine ⟨_, rfl, a, rfl, ⟨_, ha⟩, fun D hD => lc_list (K := K) (a := a) (xs := nats l) (fun j H3 => H3 = upd H D (.lst (((l.take j).map fun x => decide (1 ≤ x ∧ x ≤ 100)).map V.bl))) rfl (fun j H3 _ e => ?_) ?_ ?_⟩
    · rw [e]
      exact (same_upd hD).seq ha
    · rintro j y H3 hy rfl
      have hj : j < l.length := by
        have := (List.getElem?_eq_some_iff.mp hy).1
        rw [nats_len] at this
        exact this
      have hx := nats_get (List.getElem?_eq_getElem hj)
      rw [hx] at hy
      cases hy
      refine ⟨rfl, _, rfl, _, _, _, rfl, _, upd_same, ?_, ?_⟩
      · rw [List.length_map, List.length_map, List.length_take]
        omega
      · rw [upd_upd, take_snoc (List.getElem?_eq_getElem hj), List.map_append, List.map_append]
        have e : decide (1 ≤ ((l[j] : Nat) : Int) ∧ ((l[j] : Nat) : Int) ≤ 100) = decide (1 ≤ l[j] ∧ l[j] ≤ 100) := decide_eq_decide.mpr (by omega)
        rw [e]
        rfl
    · rintro H3 rfl
      rw [nats_len, List.take_length]
      refine ⟨D, _, rfl, SqL.of upd_same, ?_⟩
      have e : ((l.map fun x => decide (1 ≤ x ∧ x ≤ 100)).all id) = areW l := by
        unfold areW
        rw [List.all_map]
        rfl
      rw [e]
      exact k _ (same_upd hD)
def numsB (z : BT) : List Nat := [z.x0, z.x1, z.d, z.a, z.ad, z.b, z.bd, z.most]
theorem best_step (h : Nat) (t : List (List Nat)) (z : BT) : Kxd7.step (some ⟨h, t⟩) (.bestTwoStage z.x0 z.x1 z.d z.a z.ad z.b z.bd z.most) = (some ⟨h, t⟩, if Kxd7.arePair z.x0 z.x1 z.d = false ∨ Kxd7.isProbability z.a z.ad = false ∨ Kxd7.isProbability z.b z.bd = false ∨ z.most < 2 ∨ 8 < z.most then .value (-22) else match Kxd7.bestTwoStage (Kxd7.share z.x0 z.d) (Kxd7.share z.x1 z.d) (Kxd7.share z.a z.ad) (Kxd7.share z.b z.bd) z.most with
    | none => .value (-33)
    | some z => .values z.1.1 (Kxd7.toInts [z.1.2.1, z.1.2.2.1, z.1.2.2.2] ++ Kxd7.fields z.2)) := rfl
theorem c_answer_best_two_stage {T : List NTab} {C : Addr} (gl : Glb mg) (F : DefB K mg "answer_best_two_stage" s_answer_best_two_stage ["instance", "numbers"]) (c1 : Cal0 P w K mg base 3 "are_two_probabilities" sp_are_two_probabilities) (c2 : Cal0 P w K mg base 2 "is_stage_size" sp_is_stage_size) (c3 : Cal0 P w K mg base 3 "is_probability" sp_is_probability)
    (c4 : Cal0 P w K mg base 5 "best_two_stage" (sp_best_two_stage K)) : Cal0 P w K mg base 8 "answer_best_two_stage" (sp_op K T C 8 false fun l => .bestTwoStage (arg l 0) (arg l 1) (arg l 2) (arg l 3) (arg l 4) (arg l 5) (arg l 6) (arg l 7)) := by
  obtain ⟨fa, fd, F, b⟩ := F.ex
  refine C8.cal0 F b .nil (C8.fnScope_by (N := ["instance", "numbers", "p0", "p1", "divisor", "alpha", "alpha_divisor", "beta", "beta_divisor", "most", "bounds", "best"]) (by decide +kernel)) (fun vs H Q E h => ?_) (fun cdv A outer s H vs Q E hr h => ?_)
  · obtain ⟨_, _, _, _, _, rfl, _⟩ := h
    rfl
  · obtain ⟨I, nb, X, s, args, rfl, S, hn, hl, hz, hT, hs, k⟩ := h
    obtain ⟨z, rfl⟩ : ∃ z : BT, args = numsB z := match args, hl with | [x0, x1, d, a, ad, b, bd, most], _ => ⟨⟨x0, x1, d, a, ad, b, bd, most⟩, rfl⟩
    replace k : Out T C I H X Q (Kxd7.step s (.bestTwoStage z.x0 z.x1 z.d z.a z.ad z.b z.bd z.most)) := k
    obtain ⟨h, t, a, rs, rfl, pl⟩ := S.plan (hs rfl)
    have nd : (["instance", "numbers", "p0", "p1", "divisor", "alpha", "alpha_divisor", "beta", "beta_divisor", "most", "bounds", "best"] : List Str).Nodup := by decide +kernel
    refine ⟨_, pss_cons (ps_asg (pv 1) (pg_lst rfl (pgs_cons (pg_name (i := 2) nd rfl (.inl rfl)) (pgs_cons (pg_name (i := 3) nd rfl (.inl rfl)) (pgs_cons (pg_name (i := 4) nd rfl (.inl rfl)) (pgs_cons (pg_name (i := 5) nd rfl (.inl rfl)) (pgs_cons (pg_name (i := 6) nd rfl (.inl rfl)) (pgs_cons (pg_name (i := 7) nd rfl (.inl rfl)) (pgs_cons (pg_name (i := 8) nd rfl (.inl rfl)) (pgs_cons (pg_name (i := 9) nd rfl (.inl rfl)) pgs_nil))))))))))
      (pss_cons (ps_if (PW.pt (pw_or (pt_not (pt_val (C8.pe_c c1 hr (by decide) rfl (pa_cons (pv 2) (pa_cons (pv 3) (pa_cons (pv 4) pa_nil)))))) (pw_or1 (pt_not (pt_val (C8.pe_c c2 hr (by decide) rfl (pa_cons (pv 9) pa_nil))))))) (pss_one (ps_ret (pe_lst (pa_cons (C8.pe_gc rfl gl.OUTSIDE_RANGE) pa_nil)))) pss_nil)
      (pss_cons (ps_if (PW.pt (pw_or (pt_not (pt_val (C8.pe_c c3 hr (by decide) rfl (pa_cons (pv 5) (pa_cons (pv 6) pa_nil))))) (pw_or1 (pt_not (pt_val (C8.pe_c c3 hr (by decide) rfl (pa_cons (pv 7) (pa_cons (pv 8) pa_nil)))))))) (pss_one (ps_ret (pe_lst (pa_cons (C8.pe_gc rfl gl.OUTSIDE_RANGE) pa_nil)))) pss_nil)
      (pss_cons (ps_set (i := 10) nd rfl (.inl rfl) (pe_tup (pa_cons (pv 5) (pa_cons (pv 6) (pa_cons (pv 7) (pa_cons (pv 8) pa_nil))))))
      (pss_cons (ps_set (i := 11) nd rfl (.inl rfl) (C8.pe_c c4 hr (by decide) rfl (pa_cons (pe_tup (pa_cons (pv 2) (pa_cons (pv 3) (pa_cons (pv 4) pa_nil)))) (pa_cons (pv 10) (pa_cons (pv 9) pa_nil)))))
      (pss_cons (ps_if (pt_cmpR op_isN (pv 11) pe_non (nomark _)) (pss_one (ps_ret (pe_lst (pa_cons (C8.pe_gc rfl gl.NO_SUCH) pa_nil)))) pss_nil)
      (pss_one (ps_ret (pv 11)))))))), ?_⟩
    refine ⟨_, rfl, nb, _, rfl, hn, rfl, _, _, rfl, _, _, rfl, _, _, rfl, _, _, rfl, _, _, rfl, _, _, rfl, _, _, rfl, _, _, rfl, rfl, ?_⟩
    rw [best_step, pair_eq, isProb_eq, isProb_eq] at k
    have out : ∀ (hb : decide (ArePair (z.x0 : Int) (z.x1 : Int) (z.d : Int)) = false ∨ decide (IsProb (z.a : Int) (z.ad : Int)) = false ∨ decide (IsProb (z.b : Int) (z.bd : Int)) = false ∨ z.most < 2 ∨ 8 < z.most) p, H p = Option.none → Q (.ref p) (upd H p (.lst [V.int (-22)])) := fun hb p hp => by
      rw [if_pos hb] at k
      exact k _ p (aft_lit S hp) hp upd_same
    refine ⟨_, rfl, _, rfl, _, rfl, _, _, _, rfl, _, rfl, ?_⟩
    by_cases hp : ArePair (z.x0 : Int) (z.x1 : Int) (z.d : Int)
    · rw [decide_eq_true hp]
      refine iteF ⟨_, rfl, (z.most : Int), rfl, _, rfl, ?_⟩
      by_cases hm : 2 ≤ z.most ∧ z.most ≤ 8
      · rw [decide_eq_true (show 2 ≤ (z.most : Int) ∧ (z.most : Int) ≤ 8 by omega)]
        refine iteF ⟨_, rfl, _, rfl, _, _, rfl, _, rfl, ?_⟩
        by_cases ha : IsProb (z.a : Int) (z.ad : Int)
        · rw [decide_eq_true ha]
          refine iteF ⟨_, rfl, _, rfl, _, _, rfl, _, rfl, ?_⟩
          by_cases hb : IsProb (z.b : Int) (z.bd : Int)
          · rw [decide_eq_true hb]
            have ok : BTOk z := by
              have p1 := hp.1
              have p2 := hp.2
              have a1 := ha.1
              have a2 := ha.2
              have b1 := hb.1
              have b2 := hb.2
              exact ⟨by omega, by omega, by omega, by omega, by omega, by omega, by omega, by omega, by omega, by omega, by omega, by omega⟩
            have hno : ¬ (decide (ArePair (z.x0 : Int) (z.x1 : Int) (z.d : Int)) = false ∨ decide (IsProb (z.a : Int) (z.ad : Int)) = false ∨ decide (IsProb (z.b : Int) (z.bd : Int)) = false ∨ z.most < 2 ∨ 8 < z.most) := by
              rw [decide_eq_true hp, decide_eq_true ha, decide_eq_true hb]
              intro y
              rcases y with y | y | y | y
              · cases y
              · cases y
              · cases y
              · omega
            rw [if_neg hno, best_eq ok] at k
            refine iteF ⟨_, rfl, _, rfl, _, rfl, _, rfl, (by show 4 ≤ sizeLine; decide), fun ba hba => ?_⟩
            refine ⟨_, rfl, _, rfl, _, rfl, (by show 3 ≤ sizeLine; decide), fun ca hca => ?_⟩
            have s2 := (same_upd (o := .tup [V.int z.a, V.int z.ad, V.int z.b, V.int z.bd]) hba).trans (same_upd (o := .tup [V.int z.x0, V.int z.x1, V.int z.d]) hca)
            refine ⟨_, rfl, _, rfl, ca, ba, z, rfl, upd_same, same_upd hca _ _ upd_same, ok, fun hbz H1 s3 => ?_, fun y hbz H1 q s3 hq0 hq => ?_⟩
            · rw [hbz] at k
              refine ⟨_, rfl, rfl, _, rfl, iteT ⟨(by show 1 ≤ sizeLine; decide), fun p hp => ?_⟩⟩
              exact k _ p ((Aft.same S (s2.trans s3)).more (same_upd hp)) ((s2.trans s3).free hp) upd_same
            · rw [hbz] at k
              refine ⟨_, rfl, rfl, _, rfl, ?_⟩
              rw [decide_eq_false (show ¬ V.ref q = V.non from fun y => by cases y)]
              refine iteF ⟨_, rfl, k _ q (Aft.same S (s2.trans s3)) (s2.free hq0) ?_⟩
              have hd : 0 < z.d ^ z.most := Nat.pow_pos (by have := ok.p01; have := ok.p1; omega)
              rw [hq, KxG.lowest_eq _ _ hd]
              show some (HO.lst (planV y.1 ++ (Kxd7.fields _).map V.int)) = some (HO.lst (zs (_ :: (Kxd7.toInts _ ++ Kxd7.fields _))))
              unfold zs
              rw [List.map_cons, List.map_append]
              rfl
          · rw [decide_eq_false hb]
            exact iteT ⟨(by show 1 ≤ sizeLine; decide), out (.inr (.inr (.inl (decide_eq_false hb))))⟩
        · rw [decide_eq_false ha]
          exact iteT (iteT ⟨(by show 1 ≤ sizeLine; decide), out (.inr (.inl (decide_eq_false ha)))⟩)
      · rw [decide_eq_false (show ¬ (2 ≤ (z.most : Int) ∧ (z.most : Int) ≤ 8) by omega)]
        exact iteT ⟨(by show 1 ≤ sizeLine; decide), out (.inr (.inr (.inr (by omega))))⟩
    · rw [decide_eq_false hp]
      exact iteT (iteT ⟨(by show 1 ≤ sizeLine; decide), out (.inl (decide_eq_false hp))⟩)
end
end St
set_option Elab.async false
set_option linter.all false
set_option maxRecDepth 100000
set_option maxHeartbeats 2000000
set_option exponentiation.threshold 100000
/-! W34: the greater of a pair. -/
namespace St
open PySem PySem.Spec PyProof.Rows L2 NdefX LamX
/-- max(p), p a pair of whole numbers -/
def rMaxP (K : PySem.W.Frag) : List V → Hp → VK → Prop := fun vs H Q => ∃ (a : Addr) (i j : Int), vs = [V.ref a] ∧ SqT K H a [.int i, .int j] ∧ Q (.int (max i j)) H
theorem isTuple_of {h : Heap} {a : Addr} {its : Array Value} (t : IsTup h a its) : h.IsTuple a its := by
  obtain ⟨o, e, hc, n, d⟩ := t
  exact ⟨o, e, hc, n, d⟩
theorem cr_maxP {X : Cx} (hc : X.calm = true) (hu : X.A.units + 1 < cLine) : CallR X (.builtin "max") (rMaxP X.K) := by
  intro pins s σ H vs us Q I r h
  obtain ⟨a, i, j, rfl, hs, q⟩ := h
  obtain ⟨its, rv, hl, _⟩ := I.tuple hs
  rw [Vals.ref1 r]
  obtain ⟨t, u, rfl⟩ := rv.int2
  refine PySem.W.max_tuple_datum (α := Int) (x := i) (xs := [j]) (I.ok.hd hc) (isTuple_of hl) ⟨_, .cons (.int i t) (.cons (.int j u) .nil)⟩ hu fun k v h' tk hv hh hk => ?_
  obtain ⟨as, rd⟩ := hh
  have e : ∃ t', v = Value.int (max i j) t' := by
    have em : PySem.W.maxOf i [j] = max i j := by
      show (if decide (i < j) = true then j else i) = max i j
      by_cases c : i < j
      · rw [decide_eq_true c, if_pos rfl]
        omega
      · rw [decide_eq_false c, if_neg Bool.false_ne_true]
        omega
    rw [em] at rd
    have rd : Reads h' v (.int (max i j)) as := rd
    cases rd with
    | int _ t' => exact ⟨t', rfl⟩
  obtain ⟨t', rfl⟩ := e
  exact ⟨.int _, H, I.kept hk, ⟨_, rfl⟩, q⟩
end St
/-! KxO: two treatments in whole numbers. -/
namespace KxO
open Kxd7 KxA KxB KxC KxD
/-- (w + i)(w + i + 1) .., m factors -/
def rp (w : Nat) : Nat → Nat → Nat
  | _, 0 => 1
  | i, m + 1 => (w + i) * rp w (i + 1) m
theorem rp_pos {w : Nat} (hw : 0 < w) : ∀ m i, 0 < rp w i m
  | 0, _ => Nat.one_pos
  | m + 1, i => Nat.mul_pos (by omega) (rp_pos hw m (i + 1))
/-- trials and weights -/
structure TW where
  t : Nat
  a : Nat
  b : Nat
  c : Nat
  d : Nat
def r0 (z : TW) (i : Nat) : Nat := rp (z.a + z.b) i (z.t - i)
def r1 (z : TW) (i : Nat) : Nat := rp (z.c + z.d) i (z.t - i)
theorem r0_step (z : TW) {i : Nat} (h : i < z.t) : r0 z i = (z.a + z.b + i) * r0 z (i + 1) := by
  unfold r0
  rw [show z.t - i = (z.t - (i + 1)) + 1 by omega]
  rfl
theorem r1_step (z : TW) {i : Nat} (h : i < z.t) : r1 z i = (z.c + z.d + i) * r1 z (i + 1) := by
  unfold r1
  rw [show z.t - i = (z.t - (i + 1)) + 1 by omega]
  rfl
abbrev Hist := Nat × Nat × Nat × Nat
/-- the values behind a history with h trials to come -/
def sv (z : TW) : Nat → Hist → Nat
  | 0, _ => 0
  | h + 1, p => max ((z.a + p.1) * (r0 z (p.1 + p.2.1 + 1) * r1 z (p.2.2.1 + p.2.2.2) + sv z h (p.1 + 1, p.2.1, p.2.2.1, p.2.2.2)) + (z.b + p.2.1) * sv z h (p.1, p.2.1 + 1, p.2.2.1, p.2.2.2))
    ((z.c + p.2.2.1) * (r0 z (p.1 + p.2.1) * r1 z (p.2.2.1 + p.2.2.2 + 1) + sv z h (p.1, p.2.1, p.2.2.1 + 1, p.2.2.2)) + (z.d + p.2.2.2) * sv z h (p.1, p.2.1, p.2.2.1, p.2.2.2 + 1))
def v0 (z : TW) (h : Nat) (p : Hist) : Nat := (z.a + p.1) * (r0 z (p.1 + p.2.1 + 1) * r1 z (p.2.2.1 + p.2.2.2) + sv z h (p.1 + 1, p.2.1, p.2.2.1, p.2.2.2)) + (z.b + p.2.1) * sv z h (p.1, p.2.1 + 1, p.2.2.1, p.2.2.2)
def v1 (z : TW) (h : Nat) (p : Hist) : Nat := (z.c + p.2.2.1) * (r0 z (p.1 + p.2.1) * r1 z (p.2.2.1 + p.2.2.2 + 1) + sv z h (p.1, p.2.1, p.2.2.1 + 1, p.2.2.2)) + (z.d + p.2.2.2) * sv z h (p.1, p.2.1, p.2.2.1, p.2.2.2 + 1)
theorem sv_succ (z : TW) (h : Nat) (p : Hist) : sv z (h + 1) p = max (v0 z h p) (v1 z h p) := rfl
structure TWOk (z : TW) : Prop where
  t : z.t ≤ 7
  a : 1 ≤ z.a
  a2 : z.a ≤ 100
  b : 1 ≤ z.b
  b2 : z.b ≤ 100
  c : 1 ≤ z.c
  c2 : z.c ≤ 100
  d : 1 ≤ z.d
  d2 : z.d ≤ 100
/-- the denominator behind a history -/
def den (z : TW) (p : Hist) : Nat := r0 z (p.1 + p.2.1) * r1 z (p.2.2.1 + p.2.2.2)
def sum4 (p : Hist) : Nat := p.1 + p.2.1 + p.2.2.1 + p.2.2.2
theorem den_pos {z : TW} (ok : TWOk z) (p : Hist) : 0 < den z p := Nat.mul_pos (rp_pos (by have := ok.a; omega) _ _) (rp_pos (by have := ok.c; omega) _ _)
/-- one use of a treatment with the weights A and B -/
theorem use_eq {A B C s f D : Nat} (hA : 0 < A + B) (hC : 0 < C) (hD : D = (A + B) * C) :
    over (plus (times (ofNat A) (plus (ofInt 1) (fr ((s : Rat) / (C : Rat))))) (times (ofNat B) (fr ((f : Rat) / (C : Rat))))) (ofNat (A + B)) = fr (((A * (C + s) + B * f : Nat) : Rat) / (D : Rat)) := by
  rw [ofNat_eq, ofNat_eq, ofNat_eq, ofInt_eq, plus_eq, times_eq, times_eq, plus_eq, over_eq, hD]
  congr 1
  rw [Rat.natCast_add, Rat.natCast_add, Rat.natCast_mul, Rat.natCast_mul, Rat.natCast_mul, Rat.natCast_add, Rat.natCast_add]
  have h1 := cast_ne hA
  have h2 := cast_ne hC
  rw [Rat.natCast_add] at h1
  have one : ((1 : Int) : Rat) = 1 := rfl
  rw [one]
  grind
section
variable {z : TW} (ok : TWOk z)
include ok
theorem x_eq {h : Nat} {p : Hist} (hp : h + 1 + sum4 p = z.t) (ih : ∀ q, h + sum4 q = z.t → successValue h (z.a + q.1) (z.b + q.2.1) (z.c + q.2.2.1) (z.d + q.2.2.2) = fr ((sv z h q : Rat) / (den z q : Rat))) :
    over (plus (times (ofNat (z.a + p.1)) (plus (ofInt 1) (successValue h (z.a + p.1 + 1) (z.b + p.2.1) (z.c + p.2.2.1) (z.d + p.2.2.2)))) (times (ofNat (z.b + p.2.1)) (successValue h (z.a + p.1) (z.b + p.2.1 + 1) (z.c + p.2.2.1) (z.d + p.2.2.2)))) (ofNat (z.a + p.1 + (z.b + p.2.1))) = fr ((v0 z h p : Rat) / (den z p : Rat)) := by
  unfold sum4 at hp
  have e1 := ih (p.1 + 1, p.2.1, p.2.2.1, p.2.2.2) (by unfold sum4; show h + (p.1 + 1 + p.2.1 + p.2.2.1 + p.2.2.2) = _; omega)
  have e2 := ih (p.1, p.2.1 + 1, p.2.2.1, p.2.2.2) (by unfold sum4; show h + (p.1 + (p.2.1 + 1) + p.2.2.1 + p.2.2.2) = _; omega)
  have d1 : den z (p.1 + 1, p.2.1, p.2.2.1, p.2.2.2) = r0 z (p.1 + p.2.1 + 1) * r1 z (p.2.2.1 + p.2.2.2) := by
    show r0 z (p.1 + 1 + p.2.1) * _ = _
    rw [show p.1 + 1 + p.2.1 = p.1 + p.2.1 + 1 by omega]
  have d2 : den z (p.1, p.2.1 + 1, p.2.2.1, p.2.2.2) = r0 z (p.1 + p.2.1 + 1) * r1 z (p.2.2.1 + p.2.2.2) := rfl
  rw [d1] at e1
  rw [d2] at e2
  have e1 : successValue h (z.a + p.1 + 1) (z.b + p.2.1) (z.c + p.2.2.1) (z.d + p.2.2.2) = _ := e1
  have e2 : successValue h (z.a + p.1) (z.b + p.2.1 + 1) (z.c + p.2.2.1) (z.d + p.2.2.2) = _ := e2
  rw [e1, e2]
  have a1 := ok.a
  refine use_eq (by omega) (Nat.mul_pos (rp_pos (by omega) _ _) (rp_pos (by have := ok.c; omega) _ _)) ?_
  unfold den
  rw [r0_step z (by omega), Nat.mul_assoc, show z.a + z.b + (p.1 + p.2.1) = z.a + p.1 + (z.b + p.2.1) by omega]
theorem y_eq {h : Nat} {p : Hist} (hp : h + 1 + sum4 p = z.t) (ih : ∀ q, h + sum4 q = z.t → successValue h (z.a + q.1) (z.b + q.2.1) (z.c + q.2.2.1) (z.d + q.2.2.2) = fr ((sv z h q : Rat) / (den z q : Rat))) :
    over (plus (times (ofNat (z.c + p.2.2.1)) (plus (ofInt 1) (successValue h (z.a + p.1) (z.b + p.2.1) (z.c + p.2.2.1 + 1) (z.d + p.2.2.2)))) (times (ofNat (z.d + p.2.2.2)) (successValue h (z.a + p.1) (z.b + p.2.1) (z.c + p.2.2.1) (z.d + p.2.2.2 + 1)))) (ofNat (z.c + p.2.2.1 + (z.d + p.2.2.2))) = fr ((v1 z h p : Rat) / (den z p : Rat)) := by
  unfold sum4 at hp
  have e1 := ih (p.1, p.2.1, p.2.2.1 + 1, p.2.2.2) (by unfold sum4; show h + (p.1 + p.2.1 + (p.2.2.1 + 1) + p.2.2.2) = _; omega)
  have e2 := ih (p.1, p.2.1, p.2.2.1, p.2.2.2 + 1) (by unfold sum4; show h + (p.1 + p.2.1 + p.2.2.1 + (p.2.2.2 + 1)) = _; omega)
  have d1 : den z (p.1, p.2.1, p.2.2.1 + 1, p.2.2.2) = r0 z (p.1 + p.2.1) * r1 z (p.2.2.1 + p.2.2.2 + 1) := by
    show _ * r1 z (p.2.2.1 + 1 + p.2.2.2) = _
    rw [show p.2.2.1 + 1 + p.2.2.2 = p.2.2.1 + p.2.2.2 + 1 by omega]
  have d2 : den z (p.1, p.2.1, p.2.2.1, p.2.2.2 + 1) = r0 z (p.1 + p.2.1) * r1 z (p.2.2.1 + p.2.2.2 + 1) := rfl
  rw [d1] at e1
  rw [d2] at e2
  have e1 : successValue h (z.a + p.1) (z.b + p.2.1) (z.c + p.2.2.1 + 1) (z.d + p.2.2.2) = _ := e1
  have e2 : successValue h (z.a + p.1) (z.b + p.2.1) (z.c + p.2.2.1) (z.d + p.2.2.2 + 1) = _ := e2
  rw [e1, e2]
  have c1 := ok.c
  refine use_eq (by omega) (Nat.mul_pos (rp_pos (by have := ok.a; omega) _ _) (rp_pos (by omega) _ _)) ?_
  unfold den
  rw [r1_step z (by omega), ← Nat.mul_assoc, Nat.mul_comm (r0 z _) (z.c + z.d + _), Nat.mul_assoc, show z.c + z.d + (p.2.2.1 + p.2.2.2) = z.c + p.2.2.1 + (z.d + p.2.2.2) by omega]
theorem sv_eq : ∀ (h : Nat) (p : Hist), h + sum4 p = z.t → successValue h (z.a + p.1) (z.b + p.2.1) (z.c + p.2.2.1) (z.d + p.2.2.2) = fr ((sv z h p : Rat) / (den z p : Rat))
  | 0, p, _ => by
    show (⟨0, 1⟩ : Fraction) = fr (((0 : Nat) : Rat) / _)
    have e : ((0 : Nat) : Rat) / (den z p : Rat) = 0 := by
      have z0 : ((0 : Nat) : Rat) = 0 := rfl
      rw [z0, Rat.div_def, Rat.zero_mul]
    rw [e]
    rfl
  | h + 1, p, hp => by
    have ih := sv_eq h
    have ex := x_eq ok hp ih
    have ey := y_eq ok hp ih
    show (if isLess (over _ _) (over _ _) = true then over _ _ else over _ _) = _
    rw [show z.a + p.1 + (z.b + p.2.1) = z.a + p.1 + (z.b + p.2.1) from rfl] at ex
    rw [ex, ey, isLess_eq, sv_succ]
    have hS := den_pos ok p
    have lt : ((v0 z h p : Rat) / (den z p : Rat) < (v1 z h p : Rat) / (den z p : Rat)) ↔ v0 z h p < v1 z h p := by
      rw [div_lt (natpos hS) (natpos hS), ← Rat.natCast_mul, ← Rat.natCast_mul, Rat.natCast_lt_natCast]
      exact ⟨fun q => Nat.lt_of_mul_lt_mul_right q, fun q => Nat.mul_lt_mul_of_pos_right q hS⟩
    by_cases c : v0 z h p < v1 z h p
    · rw [if_pos (decide_eq_true (lt.mpr c)), Nat.max_eq_right (by omega)]
    · rw [if_neg (by rw [decide_eq_false (fun q => c (lt.mp q))]; exact Bool.false_ne_true), Nat.max_eq_left (by omega)]
/-- the values of the two first uses; 0 without trials -/
def first (z : TW) : Nat × Nat := if z.t = 0 then (0, 0) else (v0 z (z.t - 1) (0, 0, 0, 0), v1 z (z.t - 1) (0, 0, 0, 0))
theorem value_eq : successValue z.t z.a z.b z.c z.d = fr (((max (first z).1 (first z).2 : Nat) : Rat) / ((r0 z 0 * r1 z 0 : Nat) : Rat)) := by
  have e := sv_eq ok z.t (0, 0, 0, 0) rfl
  have e : successValue z.t z.a z.b z.c z.d = fr ((sv z z.t (0, 0, 0, 0) : Rat) / ((r0 z 0 * r1 z 0 : Nat) : Rat)) := e
  rw [e]
  congr 3
  unfold first
  by_cases h : z.t = 0
  · rw [if_pos h, h]
    rfl
  · rw [if_neg h]
    obtain ⟨t, ht⟩ : ∃ t, z.t = t + 1 := ⟨z.t - 1, by omega⟩
    rw [ht]
    rfl
theorem first0_eq : firstValue 0 z.t z.a z.b z.c z.d = fr (((first z).1 : Rat) / ((r0 z 0 * r1 z 0 : Nat) : Rat)) := by
  by_cases h : z.t = 0
  · unfold first
    rw [if_pos h, h]
    show (⟨0, 1⟩ : Fraction) = fr (((0 : Nat) : Rat) / _)
    have e : ((0 : Nat) : Rat) / ((r0 z 0 * r1 z 0 : Nat) : Rat) = 0 := by
      have z0 : ((0 : Nat) : Rat) = 0 := rfl
      rw [z0, Rat.div_def, Rat.zero_mul]
    rw [e]
    rfl
  · obtain ⟨t, ht⟩ : ∃ t, z.t = t + 1 := ⟨z.t - 1, by omega⟩
    have e := x_eq ok (h := t) (p := (0, 0, 0, 0)) (by rw [ht]; rfl) (sv_eq ok t)
    unfold first
    rw [if_neg h, ht, Nat.add_sub_cancel]
    exact e
theorem first1_eq : firstValue 1 z.t z.a z.b z.c z.d = fr (((first z).2 : Rat) / ((r0 z 0 * r1 z 0 : Nat) : Rat)) := by
  by_cases h : z.t = 0
  · unfold first
    rw [if_pos h, h]
    show (⟨0, 1⟩ : Fraction) = fr (((0 : Nat) : Rat) / _)
    have e : ((0 : Nat) : Rat) / ((r0 z 0 * r1 z 0 : Nat) : Rat) = 0 := by
      have z0 : ((0 : Nat) : Rat) = 0 := rfl
      rw [z0, Rat.div_def, Rat.zero_mul]
    rw [e]
    rfl
  · obtain ⟨t, ht⟩ : ∃ t, z.t = t + 1 := ⟨z.t - 1, by omega⟩
    have e := y_eq ok (h := t) (p := (0, 0, 0, 0)) (by rw [ht]; rfl) (sv_eq ok t)
    unfold first
    rw [if_neg h, ht, Nat.add_sub_cancel]
    exact e
/-! ### how great the numbers get -/
theorem sv_le : ∀ (h : Nat) (p : Hist), h + sum4 p = z.t → sv z h p ≤ h * den z p
  | 0, p, _ => Nat.zero_le _
  | h + 1, p, hp => by
    have hp' := hp
    unfold sum4 at hp'
    have i1 := sv_le h (p.1 + 1, p.2.1, p.2.2.1, p.2.2.2) (by unfold sum4; show h + (p.1 + 1 + p.2.1 + p.2.2.1 + p.2.2.2) = _; omega)
    have i2 := sv_le h (p.1, p.2.1 + 1, p.2.2.1, p.2.2.2) (by unfold sum4; show h + (p.1 + (p.2.1 + 1) + p.2.2.1 + p.2.2.2) = _; omega)
    have i3 := sv_le h (p.1, p.2.1, p.2.2.1 + 1, p.2.2.2) (by unfold sum4; show h + (p.1 + p.2.1 + (p.2.2.1 + 1) + p.2.2.2) = _; omega)
    have i4 := sv_le h (p.1, p.2.1, p.2.2.1, p.2.2.2 + 1) (by unfold sum4; show h + (p.1 + p.2.1 + p.2.2.1 + (p.2.2.2 + 1)) = _; omega)
    have d1 : den z (p.1 + 1, p.2.1, p.2.2.1, p.2.2.2) = r0 z (p.1 + p.2.1 + 1) * r1 z (p.2.2.1 + p.2.2.2) := by
      show r0 z (p.1 + 1 + p.2.1) * _ = _
      rw [show p.1 + 1 + p.2.1 = p.1 + p.2.1 + 1 by omega]
    have d2 : den z (p.1, p.2.1 + 1, p.2.2.1, p.2.2.2) = r0 z (p.1 + p.2.1 + 1) * r1 z (p.2.2.1 + p.2.2.2) := rfl
    have d3 : den z (p.1, p.2.1, p.2.2.1 + 1, p.2.2.2) = r0 z (p.1 + p.2.1) * r1 z (p.2.2.1 + p.2.2.2 + 1) := by
      show _ * r1 z (p.2.2.1 + 1 + p.2.2.2) = _
      rw [show p.2.2.1 + 1 + p.2.2.2 = p.2.2.1 + p.2.2.2 + 1 by omega]
    have d4 : den z (p.1, p.2.1, p.2.2.1, p.2.2.2 + 1) = r0 z (p.1 + p.2.1) * r1 z (p.2.2.1 + p.2.2.2 + 1) := rfl
    rw [d1] at i1
    rw [d2] at i2
    rw [d3] at i3
    rw [d4] at i4
    have D0 : den z p = (z.a + p.1 + (z.b + p.2.1)) * (r0 z (p.1 + p.2.1 + 1) * r1 z (p.2.2.1 + p.2.2.2)) := by
      unfold den
      rw [r0_step z (by omega), Nat.mul_assoc, show z.a + z.b + (p.1 + p.2.1) = z.a + p.1 + (z.b + p.2.1) by omega]
    have D1 : den z p = (z.c + p.2.2.1 + (z.d + p.2.2.2)) * (r0 z (p.1 + p.2.1) * r1 z (p.2.2.1 + p.2.2.2 + 1)) := by
      unfold den
      rw [r1_step z (by omega), ← Nat.mul_assoc, Nat.mul_comm (r0 z _) (z.c + z.d + _), Nat.mul_assoc, show z.c + z.d + (p.2.2.1 + p.2.2.2) = z.c + p.2.2.1 + (z.d + p.2.2.2) by omega]
    have use : ∀ A B C s f : Nat, s ≤ h * C → f ≤ h * C → A * (C + s) + B * f ≤ (h + 1) * ((A + B) * C) := fun A B C s f hs hf => by
      have a1 : A * (C + s) ≤ A * (C + h * C) := Nat.mul_le_mul_left _ (by omega)
      have a2 : B * f ≤ B * (C + h * C) := Nat.mul_le_mul_left _ (by omega)
      have a3 : A * (C + h * C) + B * (C + h * C) = (h + 1) * ((A + B) * C) := by
        rw [← Nat.add_mul, show C + h * C = (h + 1) * C by rw [Nat.add_mul, Nat.one_mul, Nat.add_comm], ← Nat.mul_assoc, Nat.mul_comm (A + B), Nat.mul_assoc]
      omega
    rw [sv_succ]
    refine Nat.max_le.mpr ⟨?_, ?_⟩
    · rw [D0]
      exact use _ _ _ _ _ i1 i2
    · rw [D1]
      exact use _ _ _ _ _ i3 i4
theorem rp_le (w : Nat) (hw : w ≤ 200) : ∀ m i, i + m ≤ 8 → rp w i m ≤ 256 ^ m
  | 0, _, _ => Nat.le_refl _
  | m + 1, i, h => by
    show (w + i) * rp w (i + 1) m ≤ _
    rw [Nat.pow_succ, Nat.mul_comm]
    exact Nat.mul_le_mul (rp_le w hw m (i + 1) (by omega)) (by omega)
theorem r0_le {i : Nat} (hi : i ≤ z.t) : r0 z i < 2 ^ 60 := by
  have t := ok.t
  have a := ok.a2
  have b := ok.b2
  have h := rp_le ok (z.a + z.b) (by omega) (z.t - i) i (by omega)
  have h2 : 256 ^ (z.t - i) ≤ 256 ^ 7 := Nat.pow_le_pow_right (by decide) (by omega)
  exact Nat.lt_of_le_of_lt (Nat.le_trans h h2) (by decide)
theorem r1_le {i : Nat} (hi : i ≤ z.t) : r1 z i < 2 ^ 60 := by
  have t := ok.t
  have a := ok.c2
  have b := ok.d2
  have h := rp_le ok (z.c + z.d) (by omega) (z.t - i) i (by omega)
  have h2 : 256 ^ (z.t - i) ≤ 256 ^ 7 := Nat.pow_le_pow_right (by decide) (by omega)
  exact Nat.lt_of_le_of_lt (Nat.le_trans h h2) (by decide)
theorem sv_small {h : Nat} {p : Hist} (hp : h + sum4 p = z.t) : sv z h p < 2 ^ 130 := by
  have h1 := sv_le ok h p hp
  have t := ok.t
  unfold sum4 at hp
  have a := r0_le ok (i := p.1 + p.2.1) (by omega)
  have b := r1_le ok (i := p.2.2.1 + p.2.2.2) (by omega)
  have c : den z p ≤ 2 ^ 60 * 2 ^ 60 := Nat.mul_le_mul (Nat.le_of_lt a) (Nat.le_of_lt b)
  have d : h * den z p ≤ 7 * (2 ^ 60 * 2 ^ 60) := Nat.mul_le_mul (by omega) c
  exact Nat.lt_of_le_of_lt (Nat.le_trans h1 d) (by decide)
end
end KxO
set_option Elab.async false
set_option linter.all false
set_option maxRecDepth 100000
set_option maxHeartbeats 2000000
set_option exponentiation.threshold 100000
/-! W35: two treatments: the histories, the factors, and one step. -/
namespace St
open PySem PySem.Spec PyProof.Rows L2 NdefX LamX KxF KxO
/-- histories with u0 uses of treatment 0 and fewer than i successes among them -/
def hin (u u0 i : Nat) : List Hist := (List.range i).flatMap fun s0 => (List.range (u - u0 + 1)).map fun s1 => (s0, u0 - s0, s1, u - u0 - s1)
def pre (u i : Nat) : List Hist := (List.range i).flatMap fun u0 => hin u u0 (u0 + 1)
def hist (u : Nat) : List Hist := pre u (u + 1)
theorem hin_succ (u u0 i : Nat) : hin u u0 (i + 1) = hin u u0 i ++ (List.range (u - u0 + 1)).map fun s1 => (i, u0 - i, s1, u - u0 - s1) := by
  unfold hin
  rw [List.range_succ (n := i), List.flatMap_append]
  simp
theorem pre_succ (u i : Nat) : pre u (i + 1) = pre u i ++ hin u i (i + 1) := by
  unfold pre
  rw [List.range_succ (n := i), List.flatMap_append]
  simp
theorem hin_len (u u0 : Nat) (hu : u ≤ 7) : ∀ i, (hin u u0 i).length ≤ i * 8
  | 0 => Nat.le_refl _
  | i + 1 => by
    rw [hin_succ, List.length_append, List.length_map, List.length_range]
    have := hin_len u u0 hu i
    omega
theorem pre_len (u : Nat) (hu : u ≤ 7) : ∀ i, i ≤ 8 → (pre u i).length ≤ i * 64
  | 0, _ => Nat.le_refl _
  | i + 1, h => by
    rw [pre_succ, List.length_append]
    have := pre_len u hu i (by omega)
    have := hin_len u i hu (i + 1)
    omega
theorem hist_len {u : Nat} (hu : u ≤ 7) : (hist u).length ≤ 512 := Nat.le_trans (pre_len u hu (u + 1) (by omega)) (by omega)
theorem mem_hist {u : Nat} {p : Hist} : p ∈ hist u ↔ sum4 p = u := by
  unfold hist pre hin sum4
  simp only [List.mem_flatMap, List.mem_range, List.mem_map]
  constructor
  · rintro ⟨u0, h0, s0, h1, s1, h2, e⟩
    rw [← e]
    show s0 + (u0 - s0) + s1 + (u - u0 - s1) = u
    omega
  · intro h
    refine ⟨p.1 + p.2.1, by omega, p.1, by omega, p.2.2.1, by omega, ?_⟩
    obtain ⟨a, b, c, d⟩ := p
    have h : a + b + c + d = u := h
    show (a, a + b - a, c, u - (a + b) - c) = (a, b, c, d)
    rw [show a + b - a = b by omega, show u - (a + b) - c = d by omega]
section
variable {P : Program} {w : World} {K : PySem.W.Frag} {mg : Str → Option Value} {base : Heap}
def sp_histories : Sp := fun vs H Q _ => ∃ u : Nat, vs = [.int u] ∧ u ≤ 7 ∧ ∀ H' q ts, Same H H' → H q = Option.none → TupsAt planV H' q ts (hist u) → Q (.ref q) H'
theorem c_histories (gl : Glb mg) (F : DefB K mg "histories" s_histories ["used"]) : Cal0 P w K mg base 1 "histories" sp_histories := by
  obtain ⟨fa, fd, F, b⟩ := F.ex
  refine C8.cal0 F b .nil (C8.fnScope_by (N := ["used", "found", "used0", "used1", "s0", "s1"]) (by decide +kernel)) (fun vs H Q E h => ?_) (fun cdv A outer s H vs Q E hr h => ?_)
  · obtain ⟨_, rfl, _⟩ := h
    rfl
  · obtain ⟨u, rfl, hu, k⟩ := h
    have nd : (["used", "found", "used0", "used1", "s0", "s1"] : List Str).Nodup := by decide +kernel
    have hz := sizeLine_eq
    refine ⟨_, pss_cons (ps_set (i := 1) nd rfl (.inl rfl) (pe_lst pa_nil))
      (pss_cons (ps_for PassesOwn.never rfl (pi_range1 rfl gl.range (pa_cons (pe_op op_add (pv 0) pe_int) pa_nil)) (pg_name (i := 2) nd rfl (.inr rfl))
        (C8.pss_cut (ps_set (i := 3) nd rfl (.inr rfl) (pe_op op_sub (pv 0) (pv 2)))
        (pss_one (ps_for PassesOwn.never rfl (pi_range1 rfl gl.range (pa_cons (pe_op op_add (pv 2) pe_int) pa_nil)) (pg_name (i := 4) nd rfl (.inr rfl))
          (pss_one (ps_expr (pe_bm PySem.F.plainAttrs_list PySem.F.slot_list_extend PySem.F.type_list_extend mt_extend (pv 1)
            (pa_cons (pe_lc (own := [("s1", 5)]) (g := gName 5) (tt := tYes) rfl nd (pi_range1 rfl gl.range (pa_cons (pe_op op_add (pv 3) pe_int) pa_nil)) (blkOk_by (N := ["used", "found", "used0", "used1", "s0", "s1"]) (sc := C8.fnScope s_histories) (by decide +kernel))
              (fun _ _ _ _ _ => pg_name (i := 5) nd rfl (.inl rfl)) (fun _ _ _ _ _ => pts_nil) (fun _ _ _ _ _ => pe_tup (pa_cons (pv 4) (pa_cons (pe_op op_sub (pv 2) (pv 4)) (pa_cons (pv 5) (pa_cons (pe_op op_sub (pv 3) (pv 5)) pa_nil)))))) pa_nil))))))))
      (pss_one (ps_ret (pv 1)))), ?_⟩
    refine ⟨Nat.zero_le _, fun l hl => ?_⟩
    have keep : ∀ (H4 : Hp) (o : HO), Same H H4 → Same H (upd H4 l o) := fun H4 o s4 b o e => by
      rw [upd_ne (ne_of_none e hl)]
      exact s4 _ _ e
    refine ⟨_, rfl, _, _, rfl, rfl, ((u : Int) + 1), rfl, by omega, by omega, ?_⟩
    rw [show ((u : Int) + 1).toNat = u + 1 by omega]
    refine for_range (lo := 0) (n := u + 1) (fun i σ H' => ∃ (v2 v3 v4 : Option V) (ts : List Addr), σ = [some (.int u), some (.ref l), v2, v3, v4, none] ∧ Same H H' ∧ TupsAt planV H' l ts (pre u i))
      ⟨none, none, none, [], rfl, same_upd hl, ⟨upd_same, rfl, fun i t e => by simp at e⟩⟩ ?_ ?_
    · rintro u0 σ H1 hi ⟨v2, v3, v4, ts, rfl, s1, S1⟩
      have ei : (0 : Int) + (u0 : Nat) = (u0 : Int) := Int.zero_add _
      rw [ei]
      refine ⟨fun σ' H' => σ' = [some (.int u), some (.ref l), some (.int u0), some (.int ((u - u0 : Nat) : Int)), v4, none] ∧ H' = H1, ⟨_, rfl, _, rfl, _, _, rfl, rfl, ?_⟩, ?_⟩
      · refine ⟨?_, rfl⟩
        have e : (u : Int) - (u0 : Int) = ((u - u0 : Nat) : Int) := by omega
        show _ = [_, _, _, some (V.int _), _, _]
        rw [← e]
        rfl
      rintro σ' H' ⟨rfl, rfl⟩
      refine ⟨_, rfl, _, _, rfl, rfl, ((u0 : Int) + 1), rfl, by omega, by omega, ?_⟩
      rw [show ((u0 : Int) + 1).toNat = u0 + 1 by omega]
      refine for_range (lo := 0) (n := u0 + 1) (fun j σ H' => ∃ (v4 : Option V) (ts : List Addr), σ = [some (.int u), some (.ref l), some (.int u0), some (.int ((u - u0 : Nat) : Int)), v4, none] ∧ Same H H' ∧ TupsAt planV H' l ts (pre u u0 ++ hin u u0 j))
        ⟨v4, ts, rfl, s1, by rw [show hin u u0 0 = [] from rfl, List.append_nil]; exact S1⟩ ?_ ?_
      · rintro s0 σ H2 hj ⟨v4, ts, rfl, s2, S2⟩
        have ej : (0 : Int) + (s0 : Nat) = (s0 : Int) := Int.zero_add _
        rw [ej]
        refine ⟨_, rfl, .inl ⟨rfl, _, SqL.of S2.at_⟩, _, rfl, _, _, rfl, rfl, (((u - u0 : Nat) : Int) + 1), rfl, by omega, by omega, ?_⟩
        rw [show (((u - u0 : Nat) : Int) + 1).toNat = u - u0 + 1 by omega]
        refine fun D hD => lc_range (lo := 0) (n := u - u0 + 1) (fun r H3 => ∃ us : List Addr, Same H2 H3 ∧ TupsAt planV H3 D us ((List.range r).map fun s1 => (s0, u0 - s0, s1, u - u0 - s1))) ⟨[], same_upd hD, ⟨upd_same, rfl, fun i t e => by simp at e⟩⟩ ?_ ?_
        · rintro r H3 hr' ⟨us, s3, U⟩
          have er : (0 + (r : Int)) = (r : Int) := Int.zero_add _
          rw [er]
          refine ⟨rfl, _, rfl, _, rfl, _, rfl, _, _, rfl, rfl, _, rfl, _, rfl, _, rfl, _, _, rfl, rfl, (by show 4 ≤ sizeLine; decide), fun T hT => ?_⟩
          have et : ([V.int (s0 : Int), V.int ((u0 : Int) - (s0 : Int)), V.int (r : Int), V.int (((u - u0 : Nat) : Int) - (r : Int))] : List V) = planV (s0, u0 - s0, r, u - u0 - r) := by
            have a1 : (u0 : Int) - (s0 : Int) = ((u0 - s0 : Nat) : Int) := by omega
            have a2 : ((u - u0 : Nat) : Int) - (r : Int) = ((u - u0 - r : Nat) : Int) := by omega
            rw [a1, a2]
            rfl
          have eT : (upd H3 T (.tup [V.int (s0 : Int), V.int ((u0 : Int) - (s0 : Int)), V.int (r : Int), V.int (((u - u0 : Nat) : Int) - (r : Int))])) = upd H3 T (.tup (planV (s0, u0 - s0, r, u - u0 - r))) := by rw [et]
          have sT : Same H3 (upd H3 T (.tup (planV (s0, u0 - s0, r, u - u0 - r)))) := same_upd hT
          have U2 := (U.same sT).push (z := (s0, u0 - s0, r, u - u0 - r)) upd_same
          have lU : (us.map V.ref).length = r := by rw [List.length_map, U.len, List.length_map, List.length_range]
          show ∃ xs, (upd H3 T (.tup [V.int (s0 : Int), V.int ((u0 : Int) - (s0 : Int)), V.int (r : Int), V.int (((u - u0 : Nat) : Int) - (r : Int))])) D = some (.lst xs) ∧ _
          rw [eT]
          refine ⟨us.map V.ref, sT _ _ U.at_, by rw [lU]; omega, us ++ [T], fun b o e => ?_, ?_⟩
          · rw [upd_ne (ne_of_none e hD)]
            exact sT _ _ (s3 _ _ e)
          · rw [List.range_succ, List.map_append]
            exact U2
        · rintro H3 ⟨us, s3, U⟩
          have S3 := S2.same s3
          have le1 := pre_len u hu u0 (by omega)
          have le2 := hin_len u u0 hu s0
          refine ⟨l, D, _, _, rfl, rfl, S3.at_, U.at_, ?_, ?_⟩
          · rw [List.length_map, List.length_map, S3.len, U.len, List.length_append, List.length_map, List.length_range]
            omega
          · refine ⟨_, ts ++ us, rfl, keep _ _ (s2.trans s3), ?_⟩
            rw [hin_succ, ← List.append_assoc]
            exact S3.extend U
      · rintro σ H2 ⟨v4, ts, rfl, s2, S2⟩
        rw [← pre_succ] at S2
        exact ⟨_, _, _, _, rfl, s2, S2⟩
    · rintro σ H1 ⟨v2, v3, v4, ts, rfl, s1, S1⟩
      exact ⟨_, rfl, k H1 l ts s1 hl S1⟩
/-! ### the factors -/
def rst (w t i : Nat) : List Nat := (List.range (i + 1)).map fun k => rp w (t - i + k) (i - k)
theorem rst_len (w t i : Nat) : (rst w t i).length = i + 1 := by
  unfold rst
  rw [List.length_map, List.length_range]
theorem rst_get {w t i k : Nat} (h : k ≤ i) : (rst w t i)[k]? = some (rp w (t - i + k) (i - k)) := by
  unfold rst
  rw [List.getElem?_map, List.getElem?_range (by omega)]
  rfl
theorem rst_succ {w t i : Nat} (h : i < t) : rst w t (i + 1) = (rp w (t - i) i * (w + (t - (i + 1)))) :: rst w t i := by
  unfold rst
  rw [List.range_succ_eq_map, List.map_cons, List.map_map]
  congr 1
  · show rp w (t - (i + 1) + 0) (i + 1) = _
    rw [Nat.add_zero]
    show (w + (t - (i + 1))) * rp w (t - (i + 1) + 1) i = _
    rw [show t - (i + 1) + 1 = t - i by omega, Nat.mul_comm]
  · refine List.map_congr_left fun k hk => ?_
    show rp w (t - (i + 1) + (k + 1)) (i + 1 - (k + 1)) = rp w (t - i + k) (i - k)
    rw [show t - (i + 1) + (k + 1) = t - i + k by omega, show i + 1 - (k + 1) = i - k by omega]
def sp_rests : Sp := fun vs H Q _ => ∃ wt t : Nat, vs = [.int wt, .int t] ∧ wt ≤ 200 ∧ t ≤ 7 ∧ ∀ H' q, New H H' q (.lst (nats (rst wt t t))) → Q (.ref q) H'
theorem rp_small (w : Nat) (hw : w ≤ 200) : ∀ m i, i + m ≤ 8 → rp w i m ≤ 256 ^ m
  | 0, _, _ => Nat.le_refl _
  | m + 1, i, h => by
    show (w + i) * rp w (i + 1) m ≤ _
    rw [Nat.pow_succ, Nat.mul_comm]
    exact Nat.mul_le_mul (rp_small w hw m (i + 1) (by omega)) (by omega)
theorem c_rests (gl : Glb mg) (F : DefB K mg "rests" s_rests ["weight", "trials"]) : Cal0 P w K mg base 1 "rests" sp_rests := by
  obtain ⟨fa, fd, F, b⟩ := F.ex
  refine C8.cal0 F b .nil (C8.fnScope_by (N := ["weight", "trials", "found", "used"]) (by decide +kernel)) (fun vs H Q E h => ?_) (fun cdv A outer s H vs Q E hr h => ?_)
  · obtain ⟨_, _, rfl, _⟩ := h
    rfl
  · obtain ⟨wt, t, rfl, hw, ht, k⟩ := h
    have nd : (["weight", "trials", "found", "used"] : List Str).Nodup := by decide +kernel
    have hz := sizeLine_eq
    refine ⟨_, pss_cons (ps_set (i := 2) nd rfl (.inl rfl) (pe_lst (pa_cons pe_int pa_nil)))
      (pss_cons (ps_for PassesOwn.never rfl (pi_range3 rfl gl.range (pa_cons (pe_op op_sub (pv 1) pe_int) (pa_cons (pe_un un_neg pe_int) (pa_cons (pe_un un_neg pe_int) pa_nil)))) (pg_name (i := 3) nd rfl (.inl rfl))
        (pss_one (ps_expr (pe_bm PySem.F.plainAttrs_list PySem.F.slot_list_insert PySem.F.type_list_insert mt_insert (pv 2) (pa_cons pe_int (pa_cons (pe_op op_mulW (pe_ix ix_list (pv 2) pe_int (fun _ _ => rfl)) (pe_op op_add (pv 0) (pv 3))) pa_nil))))))
      (pss_one (ps_ret (pv 2)))), ?_⟩
    refine ⟨(by show 1 ≤ sizeLine; decide), fun l hl => ?_⟩
    have rg : RgC ((t : Int) - 1) (-1) (-1) t := by
      have e : (((t : Int) - 1) - (-1)).toNat = t := by omega
      have z := RgC.neg (i := (t : Int) - 1) (j := -1) (by omega) (by omega) (by omega) (by omega)
      rw [e] at z
      exact z
    refine ⟨_, rfl, _, _, rfl, rfl, _, rfl, _, rfl, _, _, _, t, rfl, rg, for_rangeC (lo := (t : Int) - 1) (c := -1) (n := t) (fun i σ H' => ∃ v3 : Option V, σ = [some (.int wt), some (.int t), some (.ref l), v3] ∧ Same H H' ∧ H' l = some (.lst (nats (rst wt t i))))
      ⟨none, rfl, same_upd hl, ?_⟩ ?_ ?_⟩
    · rw [upd_same]
      rfl
    · rintro i σ H1 hi ⟨v3, rfl, s1, L1⟩
      have ei : (t : Int) - 1 + (i : Nat) * (-1) = ((t - (i + 1) : Nat) : Int) := by omega
      rw [ei]
      have g := nats_get (rst_get (w := wt) (t := t) (Nat.zero_le i))
      rw [Nat.add_zero, Nat.sub_zero] at g
      have b1 : rp wt (t - i) i < 2 ^ 60 := by
        have h := rp_small wt hw i (t - i) (by omega)
        have h2 : 256 ^ i ≤ 256 ^ 7 := Nat.pow_le_pow_right (by decide) (by omega)
        exact Nat.lt_of_le_of_lt (Nat.le_trans h h2) (by decide)
      have e1 : (wt : Int) + ((t - (i + 1) : Nat) : Int) = ((wt + (t - (i + 1)) : Nat) : Int) := by omega
      refine ⟨_, rfl, .inl ⟨rfl, _, SqL.of L1⟩, _, rfl, l, _, _, _, rfl, rfl, SqL.of L1, at_of (j := 0) rfl g, _, rfl, _, rfl, _, _, rfl, rfl, _, _, rfl, rfl, ?_, l, _, _, _, rfl, rfl, L1, by rw [nats_len, rst_len]; omega, by omega, by omega, ?_⟩
      · rw [e1]
        exact cmulN b1 (show wt + (t - (i + 1)) < 2 ^ 8 by omega) (by decide) (by decide) (by decide)
      · refine ⟨_, rfl, fun b o e => ?_, ?_⟩
        · rw [upd_ne (ne_of_none e hl)]
          exact s1 _ _ e
        · rw [upd_same, rst_succ hi]
          show some (HO.lst ((nats (rst wt t i)).take 0 ++ [V.int ((rp wt (t - i) i : Nat) * ((wt : Int) + ((t - (i + 1) : Nat) : Int)))] ++ (nats (rst wt t i)).drop 0)) = some (HO.lst (V.int ((rp wt (t - i) i * (wt + (t - (i + 1))) : Nat) : Int) :: nats (rst wt t i)))
          rw [e1, ← Int.natCast_mul]
          rfl
    · rintro σ H1 ⟨v3, rfl, s1, L1⟩
      exact ⟨_, rfl, k H1 l ⟨s1, hl, L1⟩⟩
/-! ### the class -/
structure TCls (K : PySem.W.Frag) (C : Addr) : Prop where
  cl : Cls K C
  w : NoAttr K C "weights"
  r0 : NoAttr K C "rest0"
  r1 : NoAttr K C "rest1"
def tF (wa x0 x1 : Addr) : List (Str × V) := [("weights", .ref wa), ("rest0", .ref x0), ("rest1", .ref x1)]
theorem tF_w {wa x0 x1 : Addr} : (tF wa x0 x1).lookup ("weights" : Str) = some (.ref wa) := lk_here
theorem tF_0 {wa x0 x1 : Addr} : (tF wa x0 x1).lookup ("rest0" : Str) = some (.ref x0) := (lk_past (by decide +kernel)).trans lk_here
theorem tF_1 {wa x0 x1 : Addr} : (tF wa x0 x1).lookup ("rest1" : Str) = some (.ref x1) := (lk_past (by decide +kernel)).trans ((lk_past (by decide +kernel)).trans lk_here)
theorem tF_no {wa x0 x1 : Addr} : (tF wa x0 x1).lookup ("next_values" : Str) = Option.none := (lk_past (by decide +kernel)).trans ((lk_past (by decide +kernel)).trans (lk_past (by decide +kernel)))
/-- at S the treatments z -/
structure TrtAt (C : Addr) (H : Hp) (S : Addr) (z : TW) : Prop where
  ok : TWOk z
  ex : ∃ dx wa x0 x1, H S = some (.ins C dx (tF wa x0 x1)) ∧ H wa = some (.lst (nats [z.a, z.b, z.c, z.d])) ∧ H x0 = some (.lst (nats (rst (z.a + z.b) z.t z.t))) ∧ H x1 = some (.lst (nats (rst (z.c + z.d) z.t z.t)))
theorem TrtAt.same {C S : Addr} {H H' : Hp} {z : TW} (A : TrtAt C H S z) (s : Same H H') : TrtAt C H' S z :=
  ⟨A.ok, let ⟨dx, wa, x0, x1, h1, h2, h3, h4⟩ := A.ex; ⟨dx, wa, x0, x1, s _ _ h1, s _ _ h2, s _ _ h3, s _ _ h4⟩⟩
theorem rst0_get {z : TW} {i : Nat} (h : i ≤ z.t) : (nats (rst (z.a + z.b) z.t z.t))[i]? = some (V.int (r0 z i : Nat)) := by
  have e := nats_get (rst_get (w := z.a + z.b) (t := z.t) h)
  rw [Nat.sub_self, Nat.zero_add] at e
  exact e
theorem rst1_get {z : TW} {i : Nat} (h : i ≤ z.t) : (nats (rst (z.c + z.d) z.t z.t))[i]? = some (V.int (r1 z i : Nat)) := by
  have e := nats_get (rst_get (w := z.c + z.d) (t := z.t) h)
  rw [Nat.sub_self, Nat.zero_add] at e
  exact e
def sp_Treatments (C : Addr) : Sp := fun vs H Q _ => ∃ (x wa dx : Addr) (z : TW), vs = [.ref x, .int z.t, .ref wa] ∧ H x = some (.ins C dx []) ∧ H wa = some (.lst (nats [z.a, z.b, z.c, z.d])) ∧ TWOk z ∧
  ∀ H', TrtAt C H' x z → (∀ b o, H b = some o → b ≠ x → H' b = some o) → Q .non H'
theorem k_Treatments {C : Addr} (T : TCls K C) (F : IniB K mg C "Treatments" "Treatments.__init__" s_Treatments___init__ ["self", "trials", "weights"]) (c1 : Cal0 P w K mg base 1 "rests" sp_rests) : C8.Mak P w K mg base 2 "Treatments" C (sp_Treatments C) [] := by
  obtain ⟨f, fd, M, hm, F, b⟩ := F.ex
  refine C8.mak0 M hm F b .nil (C8.fnScope_by (N := ["self", "trials", "weights", "a", "b", "c", "d"]) (by decide +kernel)) (fun vs H Q E h => ?_) (fun cdv A outer s H vs Q E hr h => ?_)
  · obtain ⟨_, _, _, _, rfl, _⟩ := h
    rfl
  · obtain ⟨x, wa, dx, z, rfl, hx, hw, ok, k⟩ := h
    have nd : (["self", "trials", "weights", "a", "b", "c", "d"] : List Str).Nodup := by decide +kernel
    refine ⟨_, pss_cons (ps_asg (pv 2) (pg_lst rfl (pgs_cons (pg_name (i := 3) nd rfl (.inl rfl)) (pgs_cons (pg_name (i := 4) nd rfl (.inl rfl)) (pgs_cons (pg_name (i := 5) nd rfl (.inl rfl)) (pgs_cons (pg_name (i := 6) nd rfl (.inl rfl)) pgs_nil))))))
      (pss_cons (ps_fld (pv 0) (pv 2) rfl)
      (pss_cons (ps_fld (pv 0) (C8.pe_c c1 hr (by decide) rfl (pa_cons (pe_op op_add (pv 3) (pv 4)) (pa_cons (pv 1) pa_nil))) rfl)
      (pss_one (ps_fld (pv 0) (C8.pe_c c1 hr (by decide) rfl (pa_cons (pe_op op_add (pv 5) (pv 6)) (pa_cons (pv 1) pa_nil))) rfl)))), ?_⟩
    have o1 := ok.t
    have o2 := ok.a2
    have o3 := ok.b2
    have o4 := ok.c2
    have o5 := ok.d2
    have xne : ∀ b xs, H b = some (.lst xs) → b ≠ x := fun b xs e q => by
      rw [q, hx] at e
      cases e
    refine ⟨_, rfl, wa, _, rfl, SqL.of hw, rfl, _, _, rfl, _, _, rfl, _, _, rfl, _, _, rfl, rfl, ?_⟩
    refine ⟨_, rfl, _, rfl, x, C, dx, _, rfl, hx, T.cl, T.w, (by show 0 < 1000; decide), ?_⟩
    rw [putF_new (ks := []) rfl rfl]
    refine ⟨_, rfl, _, rfl, _, _, rfl, rfl, _, rfl, z.a + z.b, z.t, rfl, by omega, o1, fun H1 a0 N1 => ?_⟩
    have x1 := N1.same _ _ upd_same
    have n0 : a0 ≠ x := fun q => by
      have := N1.fresh
      rw [q, upd_same] at this
      cases this
    refine ⟨_, rfl, x, C, dx, _, rfl, x1, T.cl, T.r0, (by show 1 < 1000; decide), ?_⟩
    rw [putF_new (ks := ["weights"]) rfl (by decide +kernel)]
    refine ⟨_, rfl, _, rfl, _, _, rfl, rfl, _, rfl, z.c + z.d, z.t, rfl, by omega, o1, fun H2 a1 N2 => ?_⟩
    have x2 := N2.same _ _ upd_same
    have n1 : a1 ≠ x := fun q => by
      have := N2.fresh
      rw [q, upd_same] at this
      cases this
    refine ⟨_, rfl, x, C, dx, _, rfl, x2, T.cl, T.r1, (by show 2 < 1000; decide), ?_⟩
    rw [putF_new (ks := ["weights", "rest0"]) rfl (by decide +kernel)]
    have up1 : ∀ b o, H b = some o → b ≠ x → H1 b = some o := fun b o e n => N1.same _ _ (by rw [upd_ne n]; exact e)
    have up2 : ∀ b o, H1 b = some o → b ≠ x → H2 b = some o := fun b o e n => N2.same _ _ (by rw [upd_ne n]; exact e)
    have fin : ∀ b o, H2 b = some o → b ≠ x → upd H2 x (.ins C dx (tF wa a0 a1)) b = some o := fun b o e n => by
      rw [upd_ne n]
      exact e
    have nw := xne _ _ hw
    exact k _ ⟨ok, dx, wa, a0, a1, upd_same, fin _ _ (up2 _ _ (up1 _ _ hw nw) nw) nw, fin _ _ (up2 _ _ N1.at_ n0) n0, fin _ _ N2.at_ n1⟩ (fun b o e n => fin _ _ (up2 _ _ (up1 _ _ e n) n) n)
/-! ### one step -/
def keyOf (p : Hist) : List Key := [.inl p.1, .inl p.2.1, .inl p.2.2.1, .inl p.2.2.2]
theorem keyOf_V (p : Hist) : (keyOf p).map kV = planV p := rfl
theorem keyOf_inj {p q : Hist} (h : keyOf p = keyOf q) : p = q := by
  unfold keyOf at h
  injection h with h1 h
  injection h with h2 h
  injection h with h3 h
  injection h with h4 h
  injection h1 with h1
  injection h2 with h2
  injection h3 with h3
  injection h4 with h4
  obtain ⟨a, b, c, d⟩ := p
  obtain ⟨a', b', c', d'⟩ := q
  have h1 : (a : Int) = (a' : Int) := h1
  have h2 : (b : Int) = (b' : Int) := h2
  have h3 : (c : Int) = (c' : Int) := h3
  have h4 : (d : Int) = (d' : Int) := h4
  rw [show a = a' by omega, show b = b' by omega, show c = c' by omega, show d = d' by omega]
def sp_next_values (C : Addr) : Sp := fun vs H Q _ => ∃ (S ha la : Addr) (z : TW) (h : Nat) (p : Hist) (kvs : List (List Key × V)), vs = [.ref S, .ref ha, .ref la] ∧ TrtAt C H S z ∧ H ha = some (.tup (planV p)) ∧ h + 1 + sum4 p = z.t ∧ H la = some (.dT kvs) ∧ (∀ q : Hist, sum4 q = sum4 p + 1 → valV kvs (keyOf q) = some (.int (sv z h q : Nat))) ∧
  ∀ H' r, Same H H' → H r = Option.none → H' r = some (.tup [.int (v0 z h p : Nat), .int (v1 z h p : Nat)]) → Q (.ref r) H'
theorem m_next_values {C : Addr} (T : TCls K C) (F : MetB K C "next_values" "Treatments.next_values" s_Treatments_next_values ["self", "history", "later"]) : C8.Met P w K mg base 1 C "next_values" (sp_next_values C) [] := by
  obtain ⟨f, fd, me, F, b⟩ := F.ex
  refine C8.met0 T.cl me F b (C8.fnScope_by (N := ["self", "history", "later", "a", "b", "c", "d", "s0", "f0", "s1", "f1", "certain0", "value0", "certain1", "value1"]) (by decide +kernel)) (fun vs H Q E h => ?_) (fun cdv A outer s H vs Q E hr h => ?_)
  · obtain ⟨_, _, _, _, _, _, _, rfl, _⟩ := h
    rfl
  · obtain ⟨S, ha, la, z, h, p, kvs, rfl, TA, hh, hsum, hla, hv, k⟩ := h
    obtain ⟨ok, dx, wa, x0, x1, hS, hw, hx0, hx1⟩ := id TA
    obtain ⟨s0, f0, s1, f1⟩ := p
    have hsum' : h + 1 + (s0 + f0 + s1 + f1) = z.t := hsum
    have nd : (["self", "history", "later", "a", "b", "c", "d", "s0", "f0", "s1", "f1", "certain0", "value0", "certain1", "value1"] : List Str).Nodup := by decide +kernel
    have hu : ∀ {A : Around}, Room 1 A → A.units + 1 < cLine := fun r => hu_of r
    refine ⟨_, pss_cons (ps_asg (pe_fld (pv 0) rfl) (pg_lst rfl (pgs_cons (pg_name (i := 3) nd rfl (.inl rfl)) (pgs_cons (pg_name (i := 4) nd rfl (.inl rfl)) (pgs_cons (pg_name (i := 5) nd rfl (.inl rfl)) (pgs_cons (pg_name (i := 6) nd rfl (.inl rfl)) pgs_nil))))))
      (pss_cons (ps_asg (pv 1) (pg_tup rfl (pgs_cons (pg_name (i := 7) nd rfl (.inl rfl)) (pgs_cons (pg_name (i := 8) nd rfl (.inl rfl)) (pgs_cons (pg_name (i := 9) nd rfl (.inl rfl)) (pgs_cons (pg_name (i := 10) nd rfl (.inl rfl)) pgs_nil))))))
      (C8.pss_cut (ps_set (i := 11) nd rfl (.inl rfl) (pe_op op_mulW (pe_ix ix_list (pe_fld (pv 0) rfl) (pe_op op_add (pe_op op_add (pv 7) (pv 8)) pe_int) (fun _ _ => rfl)) (pe_ix ix_list (pe_fld (pv 0) rfl) (pe_op op_add (pv 9) (pv 10)) (fun _ _ => rfl))))
      (C8.pss_cut (ps_set (i := 12) nd rfl (.inl rfl) (pe_op op_mulW (pe_op op_add (pv 3) (pv 7)) (pe_op op_add (pv 11) (pe_dget (hu_of hr) (pv 2) (pe_tup (pa_cons (pe_op op_add (pv 7) pe_int) (pa_cons (pv 8) (pa_cons (pv 9) (pa_cons (pv 10) pa_nil))))) (fun _ _ => rfl)))))
      (C8.pss_cut (ps_aug (i := 12) nd rfl (.inl rfl) (pe_op op_mulW (pe_op op_add (pv 4) (pv 8)) (pe_dget (hu_of hr) (pv 2) (pe_tup (pa_cons (pv 7) (pa_cons (pe_op op_add (pv 8) pe_int) (pa_cons (pv 9) (pa_cons (pv 10) pa_nil))))) (fun _ _ => rfl))) ip_add)
      (C8.pss_cut (ps_set (i := 13) nd rfl (.inl rfl) (pe_op op_mulW (pe_ix ix_list (pe_fld (pv 0) rfl) (pe_op op_add (pv 7) (pv 8)) (fun _ _ => rfl)) (pe_ix ix_list (pe_fld (pv 0) rfl) (pe_op op_add (pe_op op_add (pv 9) (pv 10)) pe_int) (fun _ _ => rfl))))
      (C8.pss_cut (ps_set (i := 14) nd rfl (.inl rfl) (pe_op op_mulW (pe_op op_add (pv 5) (pv 9)) (pe_op op_add (pv 13) (pe_dget (hu_of hr) (pv 2) (pe_tup (pa_cons (pv 7) (pa_cons (pv 8) (pa_cons (pe_op op_add (pv 9) pe_int) (pa_cons (pv 10) pa_nil))))) (fun _ _ => rfl)))))
      (C8.pss_cut (ps_aug (i := 14) nd rfl (.inl rfl) (pe_op op_mulW (pe_op op_add (pv 6) (pv 10)) (pe_dget (hu_of hr) (pv 2) (pe_tup (pa_cons (pv 7) (pa_cons (pv 8) (pa_cons (pv 9) (pa_cons (pe_op op_add (pv 10) pe_int) pa_nil))))) (fun _ _ => rfl))) ip_add)
      (pss_one (ps_ret (pe_tup (pa_cons (pv 12) (pa_cons (pv 14) pa_nil)))))))))))), ?_⟩
    have t7 := ok.t
    have oa := ok.a2
    have ob := ok.b2
    have oc := ok.c2
    have od := ok.d2
    have q1 := hv (s0 + 1, f0, s1, f1) (by unfold sum4; show s0 + 1 + f0 + s1 + f1 = s0 + f0 + s1 + f1 + 1; omega)
    have q2 := hv (s0, f0 + 1, s1, f1) (by unfold sum4; show s0 + (f0 + 1) + s1 + f1 = s0 + f0 + s1 + f1 + 1; omega)
    have q3 := hv (s0, f0, s1 + 1, f1) (by unfold sum4; show s0 + f0 + (s1 + 1) + f1 = s0 + f0 + s1 + f1 + 1; omega)
    have q4 := hv (s0, f0, s1, f1 + 1) (by unfold sum4; show s0 + f0 + s1 + (f1 + 1) = s0 + f0 + s1 + f1 + 1; omega)
    have m1 := sv_small ok (h := h) (p := (s0 + 1, f0, s1, f1)) (by unfold sum4; show h + (s0 + 1 + f0 + s1 + f1) = _; omega)
    have m2 := sv_small ok (h := h) (p := (s0, f0 + 1, s1, f1)) (by unfold sum4; show h + (s0 + (f0 + 1) + s1 + f1) = _; omega)
    have m3 := sv_small ok (h := h) (p := (s0, f0, s1 + 1, f1)) (by unfold sum4; show h + (s0 + f0 + (s1 + 1) + f1) = _; omega)
    have m4 := sv_small ok (h := h) (p := (s0, f0, s1, f1 + 1)) (by unfold sum4; show h + (s0 + f0 + s1 + (f1 + 1)) = _; omega)
    have b1 := r0_le ok (i := s0 + f0 + 1) (by omega)
    have b2 := r1_le ok (i := s1 + f1) (by omega)
    have b3 := r0_le ok (i := s0 + f0) (by omega)
    have b4 := r1_le ok (i := s1 + f1 + 1) (by omega)
    have c0 : r0 z (s0 + f0 + 1) * r1 z (s1 + f1) < 2 ^ (60 + 60) := mul_lt2 b1 b2
    have c1 : r0 z (s0 + f0) * r1 z (s1 + f1 + 1) < 2 ^ (60 + 60) := mul_lt2 b3 b4
    have ev0 : v0 z h (s0, f0, s1, f1) = (z.a + s0) * (r0 z (s0 + f0 + 1) * r1 z (s1 + f1) + sv z h (s0 + 1, f0, s1, f1)) + (z.b + f0) * sv z h (s0, f0 + 1, s1, f1) := rfl
    have ev1 : v1 z h (s0, f0, s1, f1) = (z.c + s1) * (r0 z (s0 + f0) * r1 z (s1 + f1 + 1) + sv z h (s0, f0, s1 + 1, f1)) + (z.d + f1) * sv z h (s0, f0, s1, f1 + 1) := rfl
    generalize hC0 : r0 z (s0 + f0 + 1) * r1 z (s1 + f1) = C0 at *
    generalize hC1 : r0 z (s0 + f0) * r1 z (s1 + f1 + 1) = C1 at *
    generalize sv z h (s0 + 1, f0, s1, f1) = w1 at *
    generalize sv z h (s0, f0 + 1, s1, f1) = w2 at *
    generalize sv z h (s0, f0, s1 + 1, f1) = w3 at *
    generalize sv z h (s0, f0, s1, f1 + 1) = w4 at *
    have st : ∀ (C0 V0 C1 V1 : Option V), [some (V.ref S), some (V.ref ha), some (V.ref la), some (V.int z.a), some (V.int z.b), some (V.int z.c), some (V.int z.d), some (V.int s0), some (V.int f0), some (V.int s1), some (V.int f1), C0, V0, C1, V1] = [some (V.ref S), some (V.ref ha), some (V.ref la), some (V.int z.a), some (V.int z.b), some (V.int z.c), some (V.int z.d), some (V.int s0), some (V.int f0), some (V.int s1), some (V.int f1), C0, V0, C1, V1] := fun _ _ _ _ => rfl
    refine ⟨_, rfl, S, C, dx, _, _, rfl, hS, T.cl, T.w, tF_w, wa, _, rfl, SqL.of hw, rfl, _, _, rfl, _, _, rfl, _, _, rfl, _, _, rfl, rfl, ?_⟩
    refine ⟨_, rfl, ha, _, rfl, SqT.of hh, rfl, _, _, rfl, _, _, rfl, _, _, rfl, _, _, rfl, rfl, ?_⟩
    refine ⟨fun σ' H' => σ' = [some (V.ref S), some (V.ref ha), some (V.ref la), some (V.int z.a), some (V.int z.b), some (V.int z.c), some (V.int z.d), some (V.int s0), some (V.int f0), some (V.int s1), some (V.int f1), some (V.int ((C0 : Nat) : Int)), none, none, none] ∧ H' = H, ?_, ?_⟩
    · refine ⟨_, rfl, S, C, dx, _, _, rfl, hS, T.cl, T.r0, tF_0, _, rfl, _, rfl, _, _, rfl, rfl, _, _, rfl, rfl, x0, _, _, _, rfl, rfl, SqL.of hx0, at_of (j := s0 + f0 + 1) rfl (rst0_get (by omega)), _, rfl, S, C, dx, _, _, rfl, hS, T.cl, T.r1, tF_1, _, rfl, _, rfl, _, _, rfl, rfl, x1, _, _, _, rfl, rfl, SqL.of hx1, at_of (j := s1 + f1) rfl (rst1_get (by omega)), _, _, rfl, rfl, cmulN b1 b2 (by decide) (by decide) (by decide), ?_, rfl⟩
      rw [← hC0, Int.natCast_mul]
      rfl
    rintro σ' H' ⟨rfl, rfl⟩
    have eC : ((z.a + s0 : Nat) : Int) = (z.a : Int) + (s0 : Int) := by omega
    refine ⟨fun σ' H1 => σ' = [some (V.ref S), some (V.ref ha), some (V.ref la), some (V.int z.a), some (V.int z.b), some (V.int z.c), some (V.int z.d), some (V.int s0), some (V.int f0), some (V.int s1), some (V.int f1), some (V.int ((C0 : Nat) : Int)), some (V.int (((z.a + s0) * (C0 + w1) : Nat) : Int)), none, none] ∧ Same H' H1, ?_, ?_⟩
    · refine ⟨_, rfl, _, rfl, _, _, rfl, rfl, _, rfl, _, rfl, _, rfl, _, _, rfl, rfl, _, rfl, _, rfl, _, rfl, (by show 4 ≤ sizeLine; decide), fun Tp hTp => ?_⟩
      have sT := same_upd (o := .tup (planV (s0 + 1, f0, s1, f1))) hTp
      refine ⟨la, _, rfl, (by rw [← q1]; exact DGet.t (sT _ _ hla) upd_same), _, _, rfl, rfl, _, _, rfl, rfl, ?_, ?_, sT⟩
      · rw [← Int.natCast_add, ← Int.natCast_add]
        exact cmulN (show z.a + s0 < 2 ^ 8 by omega) (show C0 + w1 < 2 ^ 131 by omega) (by decide) (by decide) (by decide)
      · rw [show (((z.a + s0) * (C0 + w1) : Nat) : Int) = ((z.a : Int) + (s0 : Int)) * ((C0 : Int) + (w1 : Int)) by rw [Int.natCast_mul, Int.natCast_add, Int.natCast_add]]
        rfl
    rintro σ' H1 ⟨rfl, s1'⟩
    generalize hA : (z.a + s0) * (C0 + w1) = A0 at *
    refine ⟨fun σ' H2 => σ' = [some (V.ref S), some (V.ref ha), some (V.ref la), some (V.int z.a), some (V.int z.b), some (V.int z.c), some (V.int z.d), some (V.int s0), some (V.int f0), some (V.int s1), some (V.int f1), some (V.int ((C0 : Nat) : Int)), some (V.int ((A0 + (z.b + f0) * w2 : Nat) : Int)), none, none] ∧ Same H' H2, ?_, ?_⟩
    · refine ⟨_, rfl, _, rfl, _, rfl, _, _, rfl, rfl, _, rfl, _, rfl, _, rfl, _, _, rfl, rfl, _, rfl, _, rfl, (by show 4 ≤ sizeLine; decide), fun Tp hTp => ?_⟩
      have sT := s1'.trans (same_upd (o := .tup (planV (s0, f0 + 1, s1, f1))) hTp)
      refine ⟨la, _, rfl, (by rw [← q2]; exact DGet.t (sT _ _ hla) upd_same), _, _, rfl, rfl, ?_, _, _, rfl, rfl, ?_, sT⟩
      · rw [← Int.natCast_add]
        exact cmulN (show z.b + f0 < 2 ^ 8 by omega) (show w2 < 2 ^ 131 by omega) (by decide) (by decide) (by decide)
      · rw [show ((A0 + (z.b + f0) * w2 : Nat) : Int) = (A0 : Int) + ((z.b : Int) + (f0 : Int)) * (w2 : Int) by rw [Int.natCast_add, Int.natCast_mul, Int.natCast_add]]
        rfl
    rintro σ' H2 ⟨rfl, s2'⟩
    generalize hB : A0 + (z.b + f0) * w2 = B0 at *
    refine ⟨fun σ' H3 => σ' = [some (V.ref S), some (V.ref ha), some (V.ref la), some (V.int z.a), some (V.int z.b), some (V.int z.c), some (V.int z.d), some (V.int s0), some (V.int f0), some (V.int s1), some (V.int f1), some (V.int ((C0 : Nat) : Int)), some (V.int (B0 : Int)), some (V.int ((C1 : Nat) : Int)), none] ∧ H3 = H2, ?_, ?_⟩
    · refine ⟨_, rfl, S, C, dx, _, _, rfl, s2' _ _ hS, T.cl, T.r0, tF_0, _, rfl, _, rfl, _, _, rfl, rfl, x0, _, _, _, rfl, rfl, SqL.of (s2' _ _ hx0), at_of (j := s0 + f0) rfl (rst0_get (by omega)), _, rfl, S, C, dx, _, _, rfl, s2' _ _ hS, T.cl, T.r1, tF_1, _, rfl, _, rfl, _, _, rfl, rfl, _, _, rfl, rfl, x1, _, _, _, rfl, rfl, SqL.of (s2' _ _ hx1), at_of (j := s1 + f1 + 1) rfl (rst1_get (by omega)), _, _, rfl, rfl, cmulN b3 b4 (by decide) (by decide) (by decide), ?_, rfl⟩
      rw [← hC1, Int.natCast_mul]
      rfl
    rintro σ' H3 ⟨rfl, rfl⟩
    refine ⟨fun σ' H4 => σ' = [some (V.ref S), some (V.ref ha), some (V.ref la), some (V.int z.a), some (V.int z.b), some (V.int z.c), some (V.int z.d), some (V.int s0), some (V.int f0), some (V.int s1), some (V.int f1), some (V.int ((C0 : Nat) : Int)), some (V.int (B0 : Int)), some (V.int ((C1 : Nat) : Int)), some (V.int (((z.c + s1) * (C1 + w3) : Nat) : Int))] ∧ Same H' H4, ?_, ?_⟩
    · refine ⟨_, rfl, _, rfl, _, _, rfl, rfl, _, rfl, _, rfl, _, rfl, _, rfl, _, rfl, _, _, rfl, rfl, _, rfl, (by show 4 ≤ sizeLine; decide), fun Tp hTp => ?_⟩
      have sT := s2'.trans (same_upd (o := .tup (planV (s0, f0, s1 + 1, f1))) hTp)
      refine ⟨la, _, rfl, (by rw [← q3]; exact DGet.t (sT _ _ hla) upd_same), _, _, rfl, rfl, _, _, rfl, rfl, ?_, ?_, sT⟩
      · rw [← Int.natCast_add, ← Int.natCast_add]
        exact cmulN (show z.c + s1 < 2 ^ 8 by omega) (show C1 + w3 < 2 ^ 131 by omega) (by decide) (by decide) (by decide)
      · rw [show (((z.c + s1) * (C1 + w3) : Nat) : Int) = ((z.c : Int) + (s1 : Int)) * ((C1 : Int) + (w3 : Int)) by rw [Int.natCast_mul, Int.natCast_add, Int.natCast_add]]
        rfl
    rintro σ' H4 ⟨rfl, s4'⟩
    generalize hD : (z.c + s1) * (C1 + w3) = D0 at *
    refine ⟨fun σ' H5 => σ' = [some (V.ref S), some (V.ref ha), some (V.ref la), some (V.int z.a), some (V.int z.b), some (V.int z.c), some (V.int z.d), some (V.int s0), some (V.int f0), some (V.int s1), some (V.int f1), some (V.int ((C0 : Nat) : Int)), some (V.int (B0 : Int)), some (V.int ((C1 : Nat) : Int)), some (V.int ((D0 + (z.d + f1) * w4 : Nat) : Int))] ∧ Same H' H5, ?_, ?_⟩
    · refine ⟨_, rfl, _, rfl, _, rfl, _, _, rfl, rfl, _, rfl, _, rfl, _, rfl, _, rfl, _, rfl, _, _, rfl, rfl, (by show 4 ≤ sizeLine; decide), fun Tp hTp => ?_⟩
      have sT := s4'.trans (same_upd (o := .tup (planV (s0, f0, s1, f1 + 1))) hTp)
      refine ⟨la, _, rfl, (by rw [← q4]; exact DGet.t (sT _ _ hla) upd_same), _, _, rfl, rfl, ?_, _, _, rfl, rfl, ?_, sT⟩
      · rw [← Int.natCast_add]
        exact cmulN (show z.d + f1 < 2 ^ 8 by omega) (show w4 < 2 ^ 131 by omega) (by decide) (by decide) (by decide)
      · rw [show ((D0 + (z.d + f1) * w4 : Nat) : Int) = (D0 : Int) + ((z.d : Int) + (f1 : Int)) * (w4 : Int) by rw [Int.natCast_add, Int.natCast_mul, Int.natCast_add]]
        rfl
    rintro σ' H5 ⟨rfl, s5'⟩
    refine ⟨_, rfl, _, rfl, (by show 2 ≤ sizeLine; decide), fun Tp hTp => ?_⟩
    refine k _ Tp (s5'.trans (same_upd hTp)) (s5'.free hTp) ?_
    rw [ev0, ev1]
    exact upd_same
end
end St
set_option Elab.async false
set_option linter.all false
set_option maxRecDepth 100000
set_option maxHeartbeats 2000000
set_option exponentiation.threshold 100000
/-! W36: two treatments: call 18. -/
namespace St
open PySem PySem.Spec PyProof.Rows L2 NdefX LamX KxF KxO
/-- the dict at d holds g of all histories of the list -/
def DictIs (H : Hp) (d : Addr) (l : List Hist) (g : Hist → Nat) : Prop := ∃ kvs : List (List Key × V), H d = some (.dT kvs) ∧ kvs.length ≤ l.length ∧ ∀ p ∈ l, valV kvs (keyOf p) = some (.int (g p : Nat))
theorem DictIs.put {H : Hp} {d : Addr} {l : List Hist} {g : Hist → Nat} {kvs : List (List Key × V)} (hk : kvs.length ≤ l.length) (hv : ∀ p ∈ l, valV kvs (keyOf p) = some (.int (g p : Nat))) (p : Hist) : DictIs (upd H d (.dT (putK kvs (keyOf p) (.int (g p : Nat))))) d (l ++ [p]) g := by
  refine ⟨_, upd_same, ?_, fun q hq => ?_⟩
  · have := length_putK kvs (keyOf p) (.int (g p : Nat))
    rw [List.length_append]
    show _ ≤ l.length + 1
    omega
  · rw [valV_put]
    by_cases e : keyOf q = keyOf p
    · rw [if_pos e, keyOf_inj e]
    · rw [if_neg e]
      rcases List.mem_append.mp hq with z | z
      · exact hv q z
      · have : q = p := by simpa using z
        rw [this] at e
        exact absurd rfl e
theorem hist_zero : ∀ p ∈ hist 0, p = (0, 0, 0, 0) := fun p hp => by
  have h := mem_hist.mp hp
  obtain ⟨a, b, c, d⟩ := p
  have h : a + b + c + d = 0 := h
  rw [show a = 0 by omega, show b = 0 by omega, show c = 0 by omega, show d = 0 by omega]
theorem hist_pos (u : Nat) : 0 < (hist u).length := List.length_pos_of_mem (mem_hist.mpr (show sum4 (u, 0, 0, 0) = u by unfold sum4; show u + 0 + 0 + 0 = u; omega))
section
variable {P : Program} {w : World} {K : PySem.W.Frag} {mg : Str → Option Value} {base : Heap}
def sp_first_values (C : Addr) : Sp := fun vs H Q _ => ∃ (S : Addr) (z : TW), vs = [.int z.t, .ref S] ∧ TrtAt C H S z ∧ ∀ H' r, Same H H' → H' r = some (.tup [.int ((first z).1 : Nat), .int ((first z).2 : Nat)]) → Q (.ref r) H'
theorem c_first_values {C : Addr} (T : TCls K C) (gl : Glb mg) (F : DefB K mg "first_values" s_first_values ["trials", "treatments"]) (c1 : Cal0 P w K mg base 1 "histories" sp_histories) (m1 : C8.Met P w K mg base 1 C "next_values" (sp_next_values C) []) : Cal0 P w K mg base 2 "first_values" (sp_first_values C) := by
  obtain ⟨fa, fd, F, b⟩ := F.ex
  refine C8.cal0 F b .nil (C8.fnScope_by (N := ["trials", "treatments", "pair", "later", "history", "used", "best"]) (by decide +kernel)) (fun vs H Q E h => ?_) (fun cdv A outer s H vs Q E hr h => ?_)
  · obtain ⟨_, _, rfl, _⟩ := h
    rfl
  · obtain ⟨S, z, rfl, TA, k⟩ := h
    have nd : (["trials", "treatments", "pair", "later", "history", "used", "best"] : List Str).Nodup := by decide +kernel
    have hz := sizeLine_eq
    have t7 := TA.ok.t
    refine ⟨_, pss_cons (ps_set (i := 2) nd rfl (.inl rfl) (pe_tup (pa_cons pe_int (pa_cons pe_int pa_nil))))
      (pss_cons (ps_set (i := 3) nd rfl (.inl rfl) pe_dnewT)
      (pss_cons (ps_for PassesOwn.never rfl (pi_list (C8.pe_c c1 hr (by decide) rfl (pa_cons (pv 0) pa_nil))) (pg_name (i := 4) nd rfl (.inl rfl))
        (pss_one (ps_dput (hu_of hr) (pv 3) (pv 4) pe_int (by rfl))))
      (pss_cons (ps_for PassesOwn.never rfl (pi_range3 rfl gl.range (pa_cons (pe_op op_sub (pv 0) pe_int) (pa_cons (pe_un un_neg pe_int) (pa_cons (pe_un un_neg pe_int) pa_nil)))) (pg_name (i := 5) nd rfl (.inl rfl))
        (pss_cons (ps_set (i := 6) nd rfl (.inl rfl) pe_dnewT)
        (pss_cons (ps_for PassesOwn.never rfl (pi_list (C8.pe_c c1 hr (by decide) rfl (pa_cons (pv 5) pa_nil))) (pg_name (i := 4) nd rfl (.inl rfl))
          (pss_cons (ps_set (i := 2) nd rfl (.inl rfl) (C8.pe_mt m1 hr (by decide) (pv 1) (pa_cons (pv 4) (pa_cons (pv 3) pa_nil))))
          (pss_one (ps_dput (hu_of hr) (pv 6) (pv 4) (pe_callB (cr_maxP rfl (hu_of hr)) (by rfl) gl.max (by decide +kernel) (pa_cons (pv 2) pa_nil)) (by rfl)))))
        (pss_one (ps_set (i := 3) nd rfl (.inl rfl) (pv 6))))))
      (pss_one (ps_ret (pv 2)))))), ?_⟩
    refine ⟨(by show 2 ≤ sizeLine; decide), fun pr0 hpr0 => ?_⟩
    have s0 := same_upd (o := .tup [V.int 0, V.int 0]) hpr0
    intro d0 hd0
    have hd0H := s0.free hd0
    have s1 : Same H (upd (upd H pr0 (.tup [V.int 0, V.int 0])) d0 (.dT [])) := s0.trans (same_upd hd0)
    have ppr : (upd (upd H pr0 (.tup [V.int 0, V.int 0])) d0 (.dT [])) pr0 = some (.tup [V.int ((0 : Nat) : Int), V.int ((0 : Nat) : Int)]) := (same_upd hd0) _ _ upd_same
    have dd0 : (upd (upd H pr0 (.tup [V.int 0, V.int 0])) d0 (.dT [])) d0 = some (.dT []) := upd_same
    generalize upd (upd H pr0 (.tup [V.int 0, V.int 0])) d0 (.dT []) = H1 at *
    refine ⟨_, rfl, z.t, rfl, t7, fun H2 hq ts s2 hhq S2 => ?_⟩
    have keep : ∀ {d : Addr} (H4 : Hp) (o : HO), H d = Option.none → Same H H4 → Same H (upd H4 d o) := fun {d} H4 o hd s4 b o' e => by
      rw [upd_ne (ne_of_none e hd)]
      exact s4 _ _ e
    refine ⟨hq, rfl, ⟨_, SqL.of S2.at_⟩, for_list (K := K) (a := hq) (xs := ts.map V.ref) (fun i σ H' => ∃ v4 : Option V, σ = [some (.int z.t), some (.ref S), some (.ref pr0), some (.ref d0), v4, none, none] ∧ Same H H' ∧ H' pr0 = some (.tup [V.int ((0 : Nat) : Int), V.int ((0 : Nat) : Int)]) ∧ TupsAt planV H' hq ts (hist z.t) ∧ DictIs H' d0 ((hist z.t).take i) (sv z 0))
      ⟨none, rfl, s1.trans s2, s2 _ _ ppr, S2, [], s2 _ _ dd0, Nat.le_refl _, fun p hp => by simp at hp⟩ (fun i σ H' _ ⟨_, _, _, _, S3, _⟩ => SqL.of S3.at_) ?_ ?_⟩
    · rintro i y σ H3 hy ⟨v4, rfl, s3, pp3, S3, kvs, hk1, hk2, hk3⟩
      obtain ⟨tp, htp, rfl⟩ : ∃ tp, ts[i]? = some tp ∧ y = V.ref tp := by
        rw [List.getElem?_map] at hy
        cases e : ts[i]? with
        | none => rw [e] at hy; cases hy
        | some tp => rw [e] at hy; exact ⟨tp, rfl, (Option.some.inj hy).symm⟩
      obtain ⟨p, hp1, hp2⟩ := S3.tup i tp htp
      have hlen : kvs.length < sizeLine := by
        have h1 := hist_len t7
        have h2 : ((hist z.t).take i).length ≤ (hist z.t).length := by rw [List.length_take]; omega
        omega
      have e1 : [V.int ((z.t : Nat) : Int)] = [V.int z.t] := rfl
      refine ⟨_, rfl, _, rfl, d0, _, rfl, DPut.t hk1 (k := keyOf p) hp2 hlen, _, rfl, keep _ _ hd0H s3, ?_, ?_, ?_⟩
      · rw [upd_ne (fun q => by rw [q, hk1] at pp3; cases pp3)]
        exact pp3
      · refine ⟨?_, S3.len, fun j t e => ?_⟩
        · rw [upd_ne (fun q => by have := S3.at_; rw [q, hk1] at this; cases this)]
          exact S3.at_
        · obtain ⟨q, h1, h2⟩ := S3.tup j t e
          exact ⟨q, h1, by rw [upd_ne (fun q => by rw [q, hk1] at h2; cases h2)]; exact h2⟩
      · rw [take_snoc hp1]
        exact DictIs.put (g := sv z 0) hk2 hk3 p
    · rintro σ H3 ⟨v4, rfl, s3, pp3, S3, D3⟩
      have e3 : (hist z.t).take (ts.map V.ref).length = hist z.t := by rw [List.length_map, S3.len, List.take_length]
      rw [e3] at D3
      have rg : RgC ((z.t : Int) - 1) (-1) (-1) z.t := by
        have e : (((z.t : Int) - 1) - (-1)).toNat = z.t := by omega
        have y := RgC.neg (i := (z.t : Int) - 1) (j := -1) (by omega) (by omega) (by omega) (by omega)
        rw [e] at y
        exact y
      refine ⟨_, rfl, _, _, rfl, rfl, _, rfl, _, rfl, _, _, _, z.t, rfl, rg, for_rangeC (lo := (z.t : Int) - 1) (c := -1) (n := z.t) (fun i σ H' => ∃ (pr d : Addr) (e0 e1 : Nat) (v4 v5 v6 : Option V), σ = [some (.int z.t), some (.ref S), some (.ref pr), some (.ref d), v4, v5, v6] ∧ Same H H' ∧ H d = Option.none ∧ H' pr = some (.tup [V.int (e0 : Nat), V.int (e1 : Nat)]) ∧ DictIs H' d (hist (z.t - i)) (sv z i) ∧ (i = 0 → e0 = 0 ∧ e1 = 0) ∧ (0 < i → ∃ p ∈ hist (z.t - i), e0 = v0 z (i - 1) p ∧ e1 = v1 z (i - 1) p))
        ⟨pr0, d0, 0, 0, v4, none, none, rfl, s3, hd0H, pp3, D3, fun _ => ⟨rfl, rfl⟩, fun q => absurd q (by omega)⟩ ?_ ?_⟩
      · rintro i σ H4 hi ⟨pr, d, e0, e1, v4, v5, v6, rfl, s4, hdH, pp4, D4, _, _⟩
        have ei : (z.t : Int) - 1 + (i : Nat) * (-1) = ((z.t - (i + 1) : Nat) : Int) := by omega
        rw [ei]
        generalize hu : z.t - (i + 1) = u at *
        intro bd hbd
        have hbdH := s4.free hbd
        have s5 : Same H4 (upd H4 bd (.dT [])) := same_upd hbd
        have bd5 : (upd H4 bd (.dT [])) bd = some (.dT []) := upd_same
        generalize upd H4 bd (.dT []) = H5 at *
        refine ⟨_, rfl, u, rfl, by omega, fun H6 hq2 ts2 s6 hhq2 S6 => ?_⟩
        obtain ⟨kv4, hd4, _, hv4⟩ := D4
        have hd6 := s6 _ _ (s5 _ _ hd4)
        have dbd : d ≠ bd := fun q => by rw [q, hbd] at hd4; cases hd4
        refine ⟨hq2, rfl, ⟨_, SqL.of S6.at_⟩, for_list (K := K) (a := hq2) (xs := ts2.map V.ref) (fun j σ H' => ∃ (pr : Addr) (e0 e1 : Nat) (v4 : Option V), σ = [some (.int z.t), some (.ref S), some (.ref pr), some (.ref d), v4, some (.int u), some (.ref bd)] ∧ Same H H' ∧ H' d = some (.dT kv4) ∧ H' pr = some (.tup [V.int (e0 : Nat), V.int (e1 : Nat)]) ∧ TupsAt planV H' hq2 ts2 (hist u) ∧ DictIs H' bd ((hist u).take j) (sv z (i + 1)) ∧ (0 < j → ∃ p ∈ hist u, e0 = v0 z i p ∧ e1 = v1 z i p))
          ⟨pr, e0, e1, v4, rfl, s4.trans (s5.trans s6), hd6, s6 _ _ (s5 _ _ pp4), S6, ⟨[], s6 _ _ bd5, Nat.le_refl _, fun p hp => by simp at hp⟩, fun q => absurd q (by omega)⟩ (fun j σ H' _ ⟨_, _, _, _, _, _, _, _, S7, _⟩ => SqL.of S7.at_) ?_ ?_⟩
        · rintro j y σ H7 hy ⟨pr, e0, e1, v4, rfl, s7, hd7, pp7, S7, ⟨kvs, hk1, hk2, hk3⟩, _⟩
          obtain ⟨tp, htp, rfl⟩ : ∃ tp, ts2[j]? = some tp ∧ y = V.ref tp := by
            rw [List.getElem?_map] at hy
            cases e : ts2[j]? with
            | none => rw [e] at hy; cases hy
            | some tp => rw [e] at hy; exact ⟨tp, rfl, (Option.some.inj hy).symm⟩
          obtain ⟨p, hp1, hp2⟩ := S7.tup j tp htp
          have hpm := List.mem_of_getElem? hp1
          have hps := mem_hist.mp hpm
          have TA7 := TA.same s7
          obtain ⟨dx, wa, x0, x1, hS, _⟩ := TA7.ex
          have hlen : kvs.length < sizeLine := by
            have h1 := hist_len (show u ≤ 7 by omega)
            have h2 : ((hist u).take j).length ≤ (hist u).length := by rw [List.length_take]; omega
            omega
          refine ⟨_, rfl, S, dx, _, rfl, hS, tF_no, _, rfl, _, rfl, S, tp, d, z, i, p, kv4, rfl, TA7, hp2, by omega, hd7, fun q hq => ?_, fun H8 r s8 hr8 hr8' => ?_⟩
          · exact hv4 q (mem_hist.mpr (by rw [hq, hps]; omega))
          · have em : max ((v0 z i p : Nat) : Int) ((v1 z i p : Nat) : Int) = ((sv z (i + 1) p : Nat) : Int) := by
              rw [sv_succ]
              omega
            have hk8 := s8 _ _ hk1
            refine ⟨_, rfl, r, _, _, rfl, SqT.of hr8', _, rfl, _, rfl, bd, _, rfl, DPut.t hk8 (k := keyOf p) (s8 _ _ hp2) hlen, r, v0 z i p, v1 z i p, _, rfl, keep _ _ hbdH (s7.trans s8), ?_, ?_, ?_, ?_, fun _ => ⟨p, hpm, rfl, rfl⟩⟩
            · rw [upd_ne dbd]
              exact s8 _ _ hd7
            · rw [upd_ne (fun q => by rw [q, hk8] at hr8'; cases hr8')]
              exact hr8'
            · have S8 := S7.same s8
              refine ⟨?_, S8.len, fun j t e => ?_⟩
              · rw [upd_ne (fun q => by have := S8.at_; rw [q, hk8] at this; cases this)]
                exact S8.at_
              · obtain ⟨q, h1, h2⟩ := S8.tup j t e
                exact ⟨q, h1, by rw [upd_ne (fun q => by rw [q, hk8] at h2; cases h2)]; exact h2⟩
            · rw [take_snoc hp1, em]
              exact DictIs.put (g := sv z (i + 1)) hk2 hk3 p
        · rintro σ H7 ⟨pr, e0, e1, v4, rfl, s7, hd7, pp7, S7, D7, fin⟩
          have e3 : (hist u).take (ts2.map V.ref).length = hist u := by rw [List.length_map, S7.len, List.take_length]
          rw [e3] at D7
          have hpos : 0 < (ts2.map V.ref).length := by
            rw [List.length_map, S7.len]
            exact hist_pos u
          refine ⟨_, rfl, pr, bd, e0, e1, v4, some (.int u), some (.ref bd), rfl, s7, hbdH, pp7, ?_, fun q => absurd q (by omega), fun _ => ?_⟩
          · exact D7
          · exact fin hpos
      · rintro σ H4 ⟨pr, d, e0, e1, v4, v5, v6, rfl, s4, hdH, pp4, D4, f0, f1⟩
        refine ⟨_, rfl, k H4 pr s4 ?_⟩
        have e : first z = (e0, e1) := by
          unfold first
          by_cases c : z.t = 0
          · rw [if_pos c]
            obtain ⟨g0, g1⟩ := f0 c
            rw [g0, g1]
          · rw [if_neg c]
            obtain ⟨p, hp, g0, g1⟩ := f1 (by omega)
            rw [Nat.sub_self] at hp
            rw [g0, g1, hist_zero p hp]
        rw [e]
        exact pp4
def sucL (z : TW) : List V := lowest (max (first z).1 (first z).2) (r0 z 0 * r1 z 0) ++ lowest (first z).1 (r0 z 0 * r1 z 0) ++ lowest (first z).2 (r0 z 0 * r1 z 0)
def sp_successes : Sp := fun vs H Q _ => ∃ (wa : Addr) (z : TW), vs = [.int z.t, .ref wa] ∧ H wa = some (.lst (nats [z.a, z.b, z.c, z.d])) ∧ TWOk z ∧ ∀ H' q, Same H H' → H q = Option.none → H' q = some (.lst (sucL z)) → Q (.ref q) H'
theorem c_successes {C : Addr} (T : TCls K C) (gl : Glb mg) (F : DefB K mg "successes" s_successes ["trials", "weights"]) (c0 : C8.Mak P w K mg base 2 "Treatments" C (sp_Treatments C) []) (c1 : Cal0 P w K mg base 2 "first_values" (sp_first_values C)) (c2 : Cal0 P w K mg base 2 "lowest_terms" sp_lowest_terms) :
    Cal0 P w K mg base 4 "successes" sp_successes := by
  obtain ⟨fa, fd, F, b⟩ := F.ex
  refine C8.cal0 F b .nil (C8.fnScope_by (N := ["trials", "weights", "treatments", "value0", "value1", "whole", "answer"]) (by decide +kernel)) (fun vs H Q E h => ?_) (fun cdv A outer s H vs Q E hr h => ?_)
  · obtain ⟨_, _, rfl, _⟩ := h
    rfl
  · obtain ⟨wa, z, rfl, hw, ok, k⟩ := h
    have nd : (["trials", "weights", "treatments", "value0", "value1", "whole", "answer"] : List Str).Nodup := by decide +kernel
    have hz := sizeLine_eq
    refine ⟨_, pss_cons (ps_set (i := 2) nd rfl (.inl rfl) (C8.pe_mk c0 hr (by decide) rfl (pa_cons (pv 0) (pa_cons (pv 1) pa_nil))))
      (pss_cons (ps_asg (C8.pe_c c1 hr (by decide) rfl (pa_cons (pv 0) (pa_cons (pv 2) pa_nil))) (pg_tup rfl (pgs_cons (pg_name (i := 3) nd rfl (.inl rfl)) (pgs_cons (pg_name (i := 4) nd rfl (.inl rfl)) pgs_nil))))
      (C8.pss_cut (ps_set (i := 5) nd rfl (.inl rfl) (pe_op op_mulW (pe_ix ix_list (pe_fld (pv 2) rfl) pe_int (fun _ _ => rfl)) (pe_ix ix_list (pe_fld (pv 2) rfl) pe_int (fun _ _ => rfl))))
      (pss_cons (ps_set (i := 6) nd rfl (.inl rfl) (C8.pe_c c2 hr (by decide) rfl (pa_cons (pe_callB (call_max2 rfl) (by rfl) gl.max (by decide +kernel) (pa_cons (pv 3) (pa_cons (pv 4) pa_nil))) (pa_cons (pv 5) pa_nil))))
      (pss_cons (ps_expr (pe_bm PySem.F.plainAttrs_list PySem.F.slot_list_extend PySem.F.type_list_extend mt_extend (pv 6) (pa_cons (C8.pe_c c2 hr (by decide) rfl (pa_cons (pv 3) (pa_cons (pv 5) pa_nil))) pa_nil)))
      (pss_cons (ps_expr (pe_bm PySem.F.plainAttrs_list PySem.F.slot_list_extend PySem.F.type_list_extend mt_extend (pv 6) (pa_cons (C8.pe_c c2 hr (by decide) rfl (pa_cons (pv 4) (pa_cons (pv 5) pa_nil))) pa_nil)))
      (pss_one (ps_ret (pv 6)))))))), ?_⟩
    refine ⟨_, rfl, _, rfl, fun x dp hx hd ne => ?_⟩
    have sx : Same H (upd (upd H dp (.own x)) x (.ins C dp [])) := (same_upd hd).trans (same_upd (by rw [upd_ne (Ne.symm ne)]; exact hx))
    refine ⟨x, wa, dp, z, rfl, upd_same, sx _ _ hw, ok, fun H1 TA kp => ⟨rfl, ?_⟩⟩
    have s1 : Same H H1 := fun b o e => kp b o (sx _ _ e) (ne_of_none e hx)
    refine ⟨_, rfl, _, rfl, x, z, rfl, TA, fun H2 r s2 hr2 => ?_⟩
    refine ⟨r, _, rfl, SqT.of hr2, rfl, _, _, rfl, _, _, rfl, rfl, ?_⟩
    obtain ⟨_, dx, wa', x0, x1, hS, _, hx0, hx1⟩ := TA.same s2
    have b0 := r0_le ok (Nat.zero_le z.t)
    have b1 := r1_le ok (Nat.zero_le z.t)
    have s12 := s1.trans s2
    generalize hv0 : (first z).1 = v0' at *
    generalize hv1 : (first z).2 = v1' at *
    refine ⟨fun σ' H' => σ' = [some (.int z.t), some (.ref wa), some (.ref x), some (.int v0'), some (.int v1'), some (.int ((r0 z 0 * r1 z 0 : Nat) : Int)), none] ∧ H' = H2, ⟨_, rfl, x, C, dx, _, _, rfl, hS, T.cl, T.r0, tF_0, x0, _, _, _, rfl, rfl, SqL.of hx0, at_of (j := 0) rfl (rst0_get (Nat.zero_le _)), _, rfl, x, C, dx, _, _, rfl, hS, T.cl, T.r1, tF_1, x1, _, _, _, rfl, rfl, SqL.of hx1, at_of (j := 0) rfl (rst1_get (Nat.zero_le _)), _, _, rfl, rfl, cmulN b0 b1 (by decide) (by decide) (by decide), ?_, rfl⟩, ?_⟩
    · rw [Int.natCast_mul]
      rfl
    rintro σ' H' ⟨rfl, rfl⟩
    have hpos : 0 < r0 z 0 * r1 z 0 := den_pos ok (0, 0, 0, 0)
    have hsm : r0 z 0 * r1 z 0 < 2 ^ 8000 := Nat.lt_of_lt_of_le (mul_lt2 b0 b1) (Nat.pow_le_pow_right (by decide) (by decide))
    have kW : sucL z = lowest (max v0' v1') (r0 z 0 * r1 z 0) ++ lowest v0' (r0 z 0 * r1 z 0) ++ lowest v1' (r0 z 0 * r1 z 0) := by
      unfold sucL
      rw [hv0, hv1]
    rw [kW] at k
    generalize r0 z 0 * r1 z 0 = W at *
    have em : (if (v1' : Int) > (v0' : Int) then (v1' : Int) else (v0' : Int)) = ((max v0' v1' : Nat) : Int) := by
      split <;> omega
    refine ⟨_, rfl, _, rfl, _, _, rfl, _, rfl, max v0' v1', W, ?_, hpos, hsm, fun H3 q N3 => ?_⟩
    · rw [em]
      rfl
    have hqH := s12.free N3.fresh
    have s3 := s12.trans N3.same
    have keep : ∀ (H4 : Hp) (o : HO), Same H H4 → Same H (upd H4 q o) := fun H4 o s4 b o' e => by
      rw [upd_ne (ne_of_none e hqH)]
      exact s4 _ _ e
    refine ⟨_, rfl, .inl ⟨rfl, _, SqL.of N3.at_⟩, _, rfl, _, rfl, v0', W, rfl, hpos, hsm, fun H4 q4 N4 => ?_⟩
    refine ⟨q, q4, _, _, rfl, rfl, N4.same _ _ N3.at_, N4.at_, (by show 2 + 2 ≤ sizeLine; decide), ?_⟩
    have s4 := keep _ (.lst (lowest (max v0' v1') W ++ lowest v0' W)) (s3.trans N4.same)
    refine ⟨_, rfl, .inl ⟨rfl, _, SqL.of upd_same⟩, _, rfl, _, rfl, v1', W, rfl, hpos, hsm, fun H5 q5 N5 => ?_⟩
    refine ⟨q, q5, _, _, rfl, rfl, N5.same _ _ upd_same, N5.at_, (by show 4 + 2 ≤ sizeLine; decide), ?_⟩
    exact ⟨_, rfl, k _ q (keep _ _ (s4.trans N5.same)) hqH upd_same⟩
def numsW (z : TW) : List Nat := [z.t, z.a, z.b, z.c, z.d]
theorem suc_step (h : Nat) (t : List (List Nat)) (z : TW) : Kxd7.step (some ⟨h, t⟩) (.successes z.t z.a z.b z.c z.d) = (some ⟨h, t⟩, if 7 < z.t ∨ z.a = 0 ∨ z.b = 0 ∨ z.c = 0 ∨ z.d = 0 ∨ 100 < z.a ∨ 100 < z.b ∨ 100 < z.c ∨ 100 < z.d then .value (-22) else .values 0 (Kxd7.fields (Kxd7.successValue z.t z.a z.b z.c z.d) ++ Kxd7.fields (Kxd7.firstValue 0 z.t z.a z.b z.c z.d) ++ Kxd7.fields (Kxd7.firstValue 1 z.t z.a z.b z.c z.d))) := rfl
theorem c_answer_successes {T : List NTab} {C : Addr} (gl : Glb mg) (F : DefB K mg "answer_successes" s_answer_successes ["instance", "numbers"]) (c1 : Cal0 P w K mg base 2 "is_trial_count" sp_is_trial_count) (c2 : Cal0 P w K mg base 2 "are_weights" (sp_are_weights K)) (c3 : Cal0 P w K mg base 4 "successes" sp_successes) :
    Cal0 P w K mg base 8 "answer_successes" (sp_op K T C 5 false fun l => .successes (arg l 0) (arg l 1) (arg l 2) (arg l 3) (arg l 4)) := by
  obtain ⟨fa, fd, F, b⟩ := F.ex
  refine C8.cal0 F b .nil (C8.fnScope_by (N := ["instance", "numbers", "trials", "weights"]) (by decide +kernel)) (fun vs H Q E h => ?_) (fun cdv A outer s H vs Q E hr h => ?_)
  · obtain ⟨_, _, _, _, _, rfl, _⟩ := h
    rfl
  · obtain ⟨I, nb, X, s, args, rfl, S, hn, hl, hz, hT, hs, k⟩ := h
    obtain ⟨z, rfl⟩ : ∃ z : TW, args = numsW z := match args, hl with | [t, a, b, c, d], _ => ⟨⟨t, a, b, c, d⟩, rfl⟩
    replace k : Out T C I H X Q (Kxd7.step s (.successes z.t z.a z.b z.c z.d)) := k
    obtain ⟨h, t, a, rs, rfl, pl⟩ := S.plan (hs rfl)
    have nd : (["instance", "numbers", "trials", "weights"] : List Str).Nodup := by decide +kernel
    refine ⟨_, pss_cons (ps_set (i := 2) nd rfl (.inl rfl) (pe_ix ix_list (pv 1) pe_int (fun _ _ => rfl)))
      (pss_cons (ps_set (i := 3) nd rfl (.inl rfl) (pe_slice sl_list (pv 1) (po_some pe_int) po_none))
      (pss_cons (ps_if (PW.pt (pw_or (pt_not (pt_val (C8.pe_c c1 hr (by decide) rfl (pa_cons (pv 2) pa_nil)))) (pw_or1 (pt_not (pt_val (C8.pe_c c2 hr (by decide) rfl (pa_cons (pv 3) pa_nil))))))) (pss_one (ps_ret (pe_lst (pa_cons (C8.pe_gc rfl gl.OUTSIDE_RANGE) pa_nil)))) pss_nil)
      (pss_one (ps_ret (pe_op op_cat (pe_lst (pa_cons pe_int pa_nil)) (C8.pe_c c3 hr (by decide) rfl (pa_cons (pv 2) (pa_cons (pv 3) pa_nil)))))))), ?_⟩
    refine ⟨_, rfl, nb, _, _, _, rfl, rfl, hn, at_of (j := 0) rfl (nats_at (l := numsW z) (i := 0) (by show 0 < 5; decide)), ?_⟩
    refine ⟨_, rfl, _, rfl, nb, _, rfl, hn, fun wa hwa => ?_⟩
    have ec : cutV (nats (numsW z)) (some (1 : Int)) none = nats [z.a, z.b, z.c, z.d] := cut_from _ 1
    rw [ec]
    have s1 : Same H (upd H wa (.lst (nats [z.a, z.b, z.c, z.d]))) := same_upd hwa
    have hw1 : (upd H wa (.lst (nats [z.a, z.b, z.c, z.d]))) wa = some (.lst (nats [z.a, z.b, z.c, z.d])) := upd_same
    generalize upd H wa (.lst (nats [z.a, z.b, z.c, z.d])) = H1 at *
    have S1 := S.same s1
    rw [suc_step] at k
    refine ⟨_, rfl, (z.t : Int), rfl, _, rfl, ?_⟩
    by_cases ht : z.t ≤ 7
    · rw [decide_eq_true (show 0 ≤ (z.t : Int) ∧ (z.t : Int) ≤ 7 by omega)]
      refine iteF ⟨_, rfl, wa, [z.a, z.b, z.c, z.d], rfl, SqL.of hw1, (by show 4 ≤ 1000; decide), fun H2 s2 => ⟨_, rfl, ?_⟩⟩
      have ew : areW [z.a, z.b, z.c, z.d] = decide ((1 ≤ z.a ∧ z.a ≤ 100) ∧ (1 ≤ z.b ∧ z.b ≤ 100) ∧ (1 ≤ z.c ∧ z.c ≤ 100) ∧ 1 ≤ z.d ∧ z.d ≤ 100) := by
        rw [Bool.eq_iff_iff, decide_eq_true_eq]
        unfold areW
        simp only [List.all_cons, List.all_nil, Bool.and_true, Bool.and_eq_true, decide_eq_true_eq]
      rw [ew]
      by_cases hw : (1 ≤ z.a ∧ z.a ≤ 100) ∧ (1 ≤ z.b ∧ z.b ≤ 100) ∧ (1 ≤ z.c ∧ z.c ≤ 100) ∧ 1 ≤ z.d ∧ z.d ≤ 100
      · rw [decide_eq_true hw]
        rw [if_neg (by omega)] at k
        have ok : TWOk z := ⟨ht, hw.1.1, hw.1.2, hw.2.1.1, hw.2.1.2, hw.2.2.1.1, hw.2.2.1.2, hw.2.2.2.1, hw.2.2.2.2⟩
        refine iteF ⟨(by show 1 ≤ sizeLine; decide), fun l hl0 => ?_⟩
        have s3 : Same H2 (upd H2 l (.lst [V.int 0])) := same_upd hl0
        have s23 := s2.trans s3
        refine ⟨_, rfl, _, rfl, wa, z, rfl, s23 _ _ hw1, ok, fun H4 q s4 hq0 hq => ?_⟩
        refine ⟨l, q, _, _, rfl, rfl, s4 _ _ upd_same, hq, (by show 1 + 6 ≤ sizeLine; decide), fun p hp => ?_⟩
        have ss := s1.trans (s23.trans s4)
        refine k _ p ((Aft.same S ss).more (same_upd hp)) (ss.free hp) ?_
        have hpos : 0 < r0 z 0 * r1 z 0 := den_pos ok (0, 0, 0, 0)
        rw [upd_same, value_eq ok, first0_eq ok, first1_eq ok]
        unfold sucL
        rw [KxG.lowest_eq _ _ hpos, KxG.lowest_eq _ _ hpos, KxG.lowest_eq _ _ hpos]
        show some (HO.lst _) = some (HO.lst (zs (0 :: _)))
        unfold zs
        rw [List.map_cons, List.map_append, List.map_append]
        rfl
      · rw [decide_eq_false hw]
        rw [if_pos (by omega)] at k
        have ss := s1.trans s2
        exact iteT ⟨(by show 1 ≤ sizeLine; decide), fun p hp => k _ p ((Aft.same S ss).more (same_upd hp)) (ss.free hp) upd_same⟩
    · rw [decide_eq_false (show ¬ (0 ≤ (z.t : Int) ∧ (z.t : Int) ≤ 7) by omega)]
      rw [if_pos (by omega)] at k
      exact iteT (iteT ⟨(by show 1 ≤ sizeLine; decide), fun p hp => k _ p ((Aft.same S s1).more (same_upd hp)) (s1.free hp) upd_same⟩)
end
end St
set_option Elab.async false
set_option linter.all false
set_option maxRecDepth 100000
set_option maxHeartbeats 2000000
/-! W37: facts of the top about the last two classes. -/
namespace St
open PySem PySem.Spec PyProof.Rows L2 NdefX LamX KxF
section
variable {K : PySem.W.Frag} {h : Heap}
theorem SCls_of (_ : K.In h) {C : Addr} (c : Cls K C) (n0 : PySem.W.findIn K (.ref C) "bounds" = some none) (n1 : PySem.W.findIn K (.ref C) "most" = some none) (n2 : PySem.W.findIn K (.ref C) "scale" = some none) (n3 : PySem.W.findIn K (.ref C) "weights0" = some none) (n4 : PySem.W.findIn K (.ref C) "weights1" = some none) : SCls K C := ⟨c, n0, n1, n2, n3, n4⟩
theorem TCls_of (_ : K.In h) {C : Addr} (c : Cls K C) (n0 : PySem.W.findIn K (.ref C) "weights" = some none) (n1 : PySem.W.findIn K (.ref C) "rest0" = some none) (n2 : PySem.W.findIn K (.ref C) "rest1" = some none) : TCls K C := ⟨c, n0, n1, n2⟩
end
end St
/-! WTop: what the top must have left; written by tools/mkend.py. -/
namespace St
open PySem PySem.Spec PyProof.Rows L2
structure Top (K : PySem.W.Frag) (mg : Str → Option Value) (CI CP CS CT d c_single_rows c_two_stage_rows c_likelihood_rows c_decision_chance c_expected_size c_stop_chance c_plan_cost : Addr) : Prop where
  gl : Glb mg
  TI : ICls K CI
  TP : PCls K CP
  TS : SCls K CS
  TT : TCls K CT
  calls : Con0 mg "CALLS" (.ref d)
  i_Problem : IniB K mg CP "Problem" "Problem.__init__" s_Problem___init__ ["self", "numbers"]
  i_Instance : IniB K mg CI "Instance" "Instance.__init__" s_Instance___init__ ["self"]
  m_Instance_horizon : MetB K CI "horizon" "Instance.horizon" s_Instance_horizon ["self"]
  m_Instance_has_point : MetB K CI "has_point" "Instance.has_point" s_Instance_has_point ["self", "n", "s"]
  m_Instance_replace_plan : MetB K CI "replace_plan" "Instance.replace_plan" s_Instance_replace_plan ["self", "rows"]
  i_Search : IniB K mg CS "Search" "Search.__init__" s_Search___init__ ["self", "chances", "bounds", "most"]
  m_Search_keeps_bounds : MetB K CS "keeps_bounds" "Search.keeps_bounds" s_Search_keeps_bounds ["self", "plan"]
  m_Search_first_kept : MetB K CS "first_kept" "Search.first_kept" s_Search_first_kept ["self", "stage"]
  m_Search_size : MetB K CS "size" "Search.size" s_Search_size ["self", "stage"]
  i_Treatments : IniB K mg CT "Treatments" "Treatments.__init__" s_Treatments___init__ ["self", "trials", "weights"]
  m_Treatments_next_values : MetB K CT "next_values" "Treatments.next_values" s_Treatments_next_values ["self", "history", "later"]
  f_greatest_common_divisor : DefB K mg "greatest_common_divisor" s_greatest_common_divisor ["first", "second"]
  f_lowest_terms : DefB K mg "lowest_terms" s_lowest_terms ["numerator", "denominator"]
  f_powers : DefB K mg "powers" s_powers ["base", "most"]
  f_is_within : DefB K mg "is_within" s_is_within ["number", "least", "greatest"]
  f_is_horizon : DefB K mg "is_horizon" s_is_horizon ["number"]
  f_is_divisor : DefB K mg "is_divisor" s_is_divisor ["number"]
  f_is_probability : DefB K mg "is_probability" s_is_probability ["p", "divisor"]
  f_are_two_probabilities : DefB K mg "are_two_probabilities" s_are_two_probabilities ["p0", "p1", "divisor"]
  f_is_bound : DefB K mg "is_bound" s_is_bound ["number", "divisor"]
  f_are_two_bounds : DefB K mg "are_two_bounds" s_are_two_bounds ["low", "low_divisor", "high", "high_divisor"]
  f_are_two_stages : DefB K mg "are_two_stages" s_are_two_stages ["horizon", "first", "first_limit", "limit"]
  f_is_problem : DefB K mg "is_problem" s_is_problem ["problem"]
  f_is_stage_size : DefB K mg "is_stage_size" s_is_stage_size ["number"]
  f_is_trial_count : DefB K mg "is_trial_count" s_is_trial_count ["number"]
  f_are_weights : DefB K mg "are_weights" s_are_weights ["numbers"]
  f_joint_weights : DefB K mg "joint_weights" s_joint_weights ["horizon", "prior", "p", "divisor"]
  f_stopping : DefB K mg "stopping" s_stopping ["accepting", "rejecting"]
  f_best_row : DefB K mg "best_row" s_best_row ["problem", "weights0", "weights1", "later"]
  f_best_rows : DefB K mg "best_rows" s_best_rows ["horizon", "problem"]
  f_optimal_rows : DefB K mg "optimal_rows" s_optimal_rows ["horizon", "problem"]
  f_cost_scale : DefB K mg "cost_scale" s_cost_scale ["horizon", "problem"]
  f_least_cost : DefB K mg "least_cost" s_least_cost ["horizon", "problem"]
  f_plan_cost : DefT K mg "plan_cost" s_plan_cost ["rows", "problem"] c_plan_cost
  f_answer_create : DefB K mg "answer_create" s_answer_create ["instance", "numbers"]
  f_answer_set_decision : DefB K mg "answer_set_decision" s_answer_set_decision ["instance", "numbers"]
  f_answer_single : DefB K mg "answer_single" s_answer_single ["instance", "numbers"]
  f_answer_likelihood : DefB K mg "answer_likelihood" s_answer_likelihood ["instance", "numbers"]
  f_answer_two_stage : DefB K mg "answer_two_stage" s_answer_two_stage ["instance", "numbers"]
  f_answer_curtail : DefB K mg "answer_curtail" s_answer_curtail ["instance", "numbers"]
  f_answer_optimal : DefB K mg "answer_optimal" s_answer_optimal ["instance", "numbers"]
  f_answer_decision : DefB K mg "answer_decision" s_answer_decision ["instance", "numbers"]
  f_answer_paths : DefB K mg "answer_paths" s_answer_paths ["instance", "numbers"]
  f_answer_stop_count : DefB K mg "answer_stop_count" s_answer_stop_count ["instance", "numbers"]
  f_answer_acceptance : DefB K mg "answer_acceptance" s_answer_acceptance ["instance", "numbers"]
  f_answer_expected_size : DefB K mg "answer_expected_size" s_answer_expected_size ["instance", "numbers"]
  f_answer_stop_probability : DefB K mg "answer_stop_probability" s_answer_stop_probability ["instance", "numbers"]
  f_answer_errors : DefB K mg "answer_errors" s_answer_errors ["instance", "numbers"]
  f_answer_plan_cost : DefB K mg "answer_plan_cost" s_answer_plan_cost ["instance", "numbers"]
  f_answer_least_cost : DefB K mg "answer_least_cost" s_answer_least_cost ["instance", "numbers"]
  f_answer_unbiased : DefB K mg "answer_unbiased" s_answer_unbiased ["instance", "numbers"]
  f_answer_best_two_stage : DefB K mg "answer_best_two_stage" s_answer_best_two_stage ["instance", "numbers"]
  f_answer_successes : DefB K mg "answer_successes" s_answer_successes ["instance", "numbers"]
  f_answer_row : DefB K mg "answer_row" s_answer_row ["instance", "numbers"]
  f_answer_summary : DefB K mg "answer_summary" s_answer_summary ["instance", "numbers"]
  f_rows_by : DefB K mg "rows_by" s_rows_by ["horizon", "decide"]
  f_last_decision : DefB K mg "last_decision" s_last_decision ["s", "limit"]
  f_single_rows : DefT K mg "single_rows" s_single_rows ["horizon", "limit"] c_single_rows
  f_new_rows : DefB K mg "new_rows" s_new_rows ["horizon"]
  f_two_stage_rows : DefT K mg "two_stage_rows" s_two_stage_rows ["horizon", "first", "first_limit", "limit"] c_two_stage_rows
  f_likelihood_rows : DefT K mg "likelihood_rows" s_likelihood_rows ["horizon", "chances", "bounds"] c_likelihood_rows
  f_curtailed_decision : DefB K mg "curtailed_decision" s_curtailed_decision ["decision", "failure", "success"]
  f_curtailed_rows : DefB K mg "curtailed_rows" s_curtailed_rows ["rows"]
  f_next_weights : DefB K mg "next_weights" s_next_weights ["weights", "success", "failure"]
  f_success_weights : DefB K mg "success_weights" s_success_weights ["p", "divisor", "most"]
  f_rejecting : DefB K mg "rejecting" s_rejecting ["weights", "plan"]
  f_first_stages : DefB K mg "first_stages" s_first_stages ["most"]
  f_best_two_stage : DefB K mg "best_two_stage" s_best_two_stage ["chances", "bounds", "most"]
  f_histories : DefB K mg "histories" s_histories ["used"]
  f_rests : DefB K mg "rests" s_rests ["weight", "trials"]
  f_first_values : DefB K mg "first_values" s_first_values ["trials", "treatments"]
  f_successes : DefB K mg "successes" s_successes ["trials", "weights"]
  f_next_counts : DefB K mg "next_counts" s_next_counts ["decisions", "counts"]
  f_counts_behind : DefB K mg "counts_behind" s_counts_behind ["rows", "beginning"]
  f_path_counts : DefB K mg "path_counts" s_path_counts ["rows"]
  f_stops : DefB K mg "stops" s_stops ["rows"]
  f_expected_total : DefB K mg "expected_total" s_expected_total ["rows", "p", "divisor", "worth"]
  f_expected_value : DefB K mg "expected_value" s_expected_value ["rows", "p", "divisor", "worth"]
  f_decision_chance : DefT K mg "decision_chance" s_decision_chance ["rows", "p", "divisor", "wanted"] c_decision_chance
  f_expected_size : DefT K mg "expected_size" s_expected_size ["rows", "p", "divisor"] c_expected_size
  f_stop_chance : DefT K mg "stop_chance" s_stop_chance ["rows", "p", "divisor", "wanted"] c_stop_chance
  f_unbiased_estimate : DefB K mg "unbiased_estimate" s_unbiased_estimate ["rows", "n", "s"]
  e_0 : ∃ tp f, KDi K d (0 : Nat) (.ref tp) ∧ (∀ H, SqT K H tp [.int (KxH.lenOf 0 : Nat), .ref f]) ∧ mg "answer_create" = some (.ref f)
  e_1 : ∃ tp f, KDi K d (1 : Nat) (.ref tp) ∧ (∀ H, SqT K H tp [.int (KxH.lenOf 1 : Nat), .ref f]) ∧ mg "answer_set_decision" = some (.ref f)
  e_2 : ∃ tp f, KDi K d (2 : Nat) (.ref tp) ∧ (∀ H, SqT K H tp [.int (KxH.lenOf 2 : Nat), .ref f]) ∧ mg "answer_single" = some (.ref f)
  e_3 : ∃ tp f, KDi K d (3 : Nat) (.ref tp) ∧ (∀ H, SqT K H tp [.int (KxH.lenOf 3 : Nat), .ref f]) ∧ mg "answer_likelihood" = some (.ref f)
  e_4 : ∃ tp f, KDi K d (4 : Nat) (.ref tp) ∧ (∀ H, SqT K H tp [.int (KxH.lenOf 4 : Nat), .ref f]) ∧ mg "answer_two_stage" = some (.ref f)
  e_5 : ∃ tp f, KDi K d (5 : Nat) (.ref tp) ∧ (∀ H, SqT K H tp [.int (KxH.lenOf 5 : Nat), .ref f]) ∧ mg "answer_curtail" = some (.ref f)
  e_6 : ∃ tp f, KDi K d (6 : Nat) (.ref tp) ∧ (∀ H, SqT K H tp [.int (KxH.lenOf 6 : Nat), .ref f]) ∧ mg "answer_optimal" = some (.ref f)
  e_7 : ∃ tp f, KDi K d (7 : Nat) (.ref tp) ∧ (∀ H, SqT K H tp [.int (KxH.lenOf 7 : Nat), .ref f]) ∧ mg "answer_decision" = some (.ref f)
  e_8 : ∃ tp f, KDi K d (8 : Nat) (.ref tp) ∧ (∀ H, SqT K H tp [.int (KxH.lenOf 8 : Nat), .ref f]) ∧ mg "answer_paths" = some (.ref f)
  e_9 : ∃ tp f, KDi K d (9 : Nat) (.ref tp) ∧ (∀ H, SqT K H tp [.int (KxH.lenOf 9 : Nat), .ref f]) ∧ mg "answer_stop_count" = some (.ref f)
  e_10 : ∃ tp f, KDi K d (10 : Nat) (.ref tp) ∧ (∀ H, SqT K H tp [.int (KxH.lenOf 10 : Nat), .ref f]) ∧ mg "answer_acceptance" = some (.ref f)
  e_11 : ∃ tp f, KDi K d (11 : Nat) (.ref tp) ∧ (∀ H, SqT K H tp [.int (KxH.lenOf 11 : Nat), .ref f]) ∧ mg "answer_expected_size" = some (.ref f)
  e_12 : ∃ tp f, KDi K d (12 : Nat) (.ref tp) ∧ (∀ H, SqT K H tp [.int (KxH.lenOf 12 : Nat), .ref f]) ∧ mg "answer_stop_probability" = some (.ref f)
  e_13 : ∃ tp f, KDi K d (13 : Nat) (.ref tp) ∧ (∀ H, SqT K H tp [.int (KxH.lenOf 13 : Nat), .ref f]) ∧ mg "answer_errors" = some (.ref f)
  e_14 : ∃ tp f, KDi K d (14 : Nat) (.ref tp) ∧ (∀ H, SqT K H tp [.int (KxH.lenOf 14 : Nat), .ref f]) ∧ mg "answer_plan_cost" = some (.ref f)
  e_15 : ∃ tp f, KDi K d (15 : Nat) (.ref tp) ∧ (∀ H, SqT K H tp [.int (KxH.lenOf 15 : Nat), .ref f]) ∧ mg "answer_least_cost" = some (.ref f)
  e_16 : ∃ tp f, KDi K d (16 : Nat) (.ref tp) ∧ (∀ H, SqT K H tp [.int (KxH.lenOf 16 : Nat), .ref f]) ∧ mg "answer_unbiased" = some (.ref f)
  e_17 : ∃ tp f, KDi K d (17 : Nat) (.ref tp) ∧ (∀ H, SqT K H tp [.int (KxH.lenOf 17 : Nat), .ref f]) ∧ mg "answer_best_two_stage" = some (.ref f)
  e_18 : ∃ tp f, KDi K d (18 : Nat) (.ref tp) ∧ (∀ H, SqT K H tp [.int (KxH.lenOf 18 : Nat), .ref f]) ∧ mg "answer_successes" = some (.ref f)
  e_19 : ∃ tp f, KDi K d (19 : Nat) (.ref tp) ∧ (∀ H, SqT K H tp [.int (KxH.lenOf 19 : Nat), .ref f]) ∧ mg "answer_row" = some (.ref f)
  e_20 : ∃ tp f, KDi K d (20 : Nat) (.ref tp) ∧ (∀ H, SqT K H tp [.int (KxH.lenOf 20 : Nat), .ref f]) ∧ mg "answer_summary" = some (.ref f)
end St
set_option Elab.async false
set_option linter.all false
set_option maxRecDepth 100000
set_option maxHeartbeats 2000000
/-! W23: from what the top has left to the promise of answers; the request and the answer. -/
namespace St
open PySem PySem.Spec PyProof.Rows L2 NdefX LamX KxF
open PySem.W (WData Codec)
def lvl : Nat := 13
section
variable {K : PySem.W.Frag} {h : Heap} {mg : Str → Option Value}
theorem ans_of (X : K.In h) (G : h.Ns mainGlobals mg) {st : Stmt} {ps : List Str} {fa f : Addr} {x : Str} {oc kV doc pm cd ct : Value} {od an : Option Addr} {sl : Array (Option Value)} (m : mg x = some (.ref fa)) (a : PySem.W.nsIn K mainGlobals x = some (some (.ref f)))
    (l : K.lookup f = some ⟨oc, od, .func (PySem.W.fnOf x x (C8.fnArgs st) (C8.fnBody st) (C8.fnScope st) .none kV doc pm an cd ct), sl⟩) (c : PySem.W.codeIn K cd x = true)
    (b : ∀ (kV doc pm : Value) (an : Option Addr) (cdv ct : Value) (us : List Value), us.length = ps.length → bindArgs (PySem.W.fnOf x x (C8.fnArgs st) (C8.fnBody st) (C8.fnScope st) .none kV doc pm an cdv ct) ⟨us, []⟩ = pure (ps.zip us)) :
    ∃ fd, (∀ (s : Shared) (us : List Value), us.length = ps.length → BindsTo s fd ⟨us, []⟩ (ps.zip us)) ∧ C8.Fun K x x st fa fd := by
  have e := m.symm.trans (PySem.W.mg_of X G a)
  cases e
  exact ⟨_, fun s us hu => .of_eq (b _ _ _ _ _ _ us hu), ⟨oc, od, .none, kV, doc, pm, an, cd, ct, sl, rfl, l, c⟩⟩
end
/-- a list of whole numbers that are not below 0 -/
theorem nats_of : ∀ {l : List Int} {b : Int}, l.all (Codec.inInt 0 b) = true → ∃ m : List Nat, l = KxH.zints m ∧ ∀ x ∈ m, (x : Int) ≤ b
  | [], _, _ => ⟨[], rfl, fun _ h => absurd h (by simp)⟩
  | z :: l, b, h => by
    rw [List.all_cons, Bool.and_eq_true] at h
    obtain ⟨m, e, k⟩ := nats_of h.2
    have hz : 0 ≤ z ∧ z ≤ b := Codec.inInt_iff.mp h.1
    refine ⟨z.toNat :: m, ?_, fun x hx => ?_⟩
    · rw [e]
      show z :: KxH.zints m = ((z.toNat : Nat) : Int) :: KxH.zints m
      rw [Int.toNat_of_nonneg hz.1]
    · rcases List.mem_cons.mp hx with y | y
      · rw [y, Int.toNat_of_nonneg hz.1]
        exact hz.2
      · exact k x y
theorem nats_ints (m : List Nat) : (KxH.zints m).map V.int = nats m := by
  unfold KxH.zints nats
  rw [List.map_map]
  rfl
theorem start {K : PySem.W.Frag} {T : List NTab} {H : Hp} {xs : List V} {a : Codec.denoteAll PySem.Challenge.rw_stopearly_s01_answers.args} (hT : TabsN T H) (hwi : Codec.withinAll PySem.Challenge.rw_stopearly_s01_answers.args a = true) (hask : Codec.app PySem.Challenge.rw_stopearly_s01_answers.args PySem.Challenge.rw_stopearly_s01_answers.asked a = true)
    (hx : DwAll K H xs (Codec.encAll PySem.Challenge.rw_stopearly_s01_answers.args a)) : sp_answers K T xs H (fun v H' => Dw K H' v (PySem.Challenge.rw_stopearly_s01_answers.ret.enc (Codec.app PySem.Challenge.rw_stopearly_s01_answers.args PySem.Challenge.rw_stopearly_s01_answers.f a))) (fun _ _ _ => False) := by
  cases hx with
  | cons h1 h2 =>
    cases h2
    cases h1 with
    | lst hs ha =>
      have e := L2.ints_dw a.1 _ ha
      subst e
      have q : ((Codec.inLen 0 1800 a.1 && a.1.all (Codec.inInt 0 4294967295)) && true) = true := hwi
      rw [Bool.and_eq_true, Bool.and_eq_true] at q
      obtain ⟨m, em, hm⟩ := nats_of q.1.2
      have hask : PyKxd7.answers_asked a.1 = true := hask
      have ef : Codec.app PySem.Challenge.rw_stopearly_s01_answers.args PySem.Challenge.rw_stopearly_s01_answers.f a = PyKxd7.answers a.1 := rfl
      rw [em] at hask
      obtain ⟨cs, h1, h2, h3, h4⟩ := KxH.asked_eq hask
      rw [ef, em, h3]
      refine ⟨_, cs, rfl, ?_, h1, fun c hc x hx => ?_, h4, hT, fun H' p hp => .lst (L2.SqL.of hp) (L2.dw_ints _)⟩
      · rw [em, nats_ints, h2] at hs
        exact hs
      · have hx2 : x ∈ m := by
          rw [h2]
          exact List.mem_flatMap.mpr ⟨c, hc, .tail _ hx⟩
        have := hm x hx2
        omega
/-- tables of code objects that are empty -/
theorem tabs_new {T : List NTab} {H : Hp} (h : ∀ p ∈ T, H p.1 = some (.tbl #[])) : TabsN T H := fun p hp => ⟨#[], h p hp, trivial, fun _ _ e => by cases e⟩
end St
set_option Elab.async false
set_option linter.all false
set_option maxRecDepth 100000
set_option maxHeartbeats 2000000
/-! W24: all defs, one behind another. -/
namespace St
open PySem PySem.Spec PyProof.Rows L2 NdefX LamX KxF
/-- a table is told once -/
theorem uniq : ∀ {T : List NTab}, (T.map (·.1)).Nodup → ∀ {t : Addr} {nm : Nat → Nat → Str}, (t, nm) ∈ T → ∀ p ∈ T, p.1 = t → p.2 = nm
  | [], _, _, _, h, _, _, _ => by cases h
  | q :: T, hn, t, nm, h, p, hp, e => by
    rw [List.map_cons, List.nodup_cons] at hn
    rcases List.mem_cons.mp h with z | z
    · rcases List.mem_cons.mp hp with y | y
      · rw [y, ← z]
      · exact absurd (List.mem_map.mpr ⟨p, y, by rw [e, ← z]⟩) hn.1
    · rcases List.mem_cons.mp hp with y | y
      · exact absurd (List.mem_map.mpr ⟨(t, nm), z, by rw [← y, e]⟩) hn.1
      · exact uniq hn.2 z p y e
theorem Top.walk {P : Program} {w : World} {K : PySem.W.Frag} {mg : Str → Option Value} {base : Heap} {CI CP CS CT d c1 c2 c3 c4 c5 c6 c7 t1 t2 t3 t4 t5 t6 t7 fa : Addr} {fd : FuncData} (X : Top K mg CI CP CS CT d c1 c2 c3 c4 c5 c6 c7) (F : C8.Fun K "answers" "answers" s_answers fa fd)
    (hn : ([t1, t2, t3, t4, t5, t6, t7] : List Addr).Nodup) (TB1 : TabB base mg c1 t1) (TB2 : TabB base mg c2 t2) (TB3 : TabB base mg c3 t3) (TB4 : TabB base mg c4 t4) (TB5 : TabB base mg c5 t5) (TB6 : TabB base mg c6 t6) (TB7 : TabB base mg c7 t7) :
    FnOk P w K mg base C8.CX0 lvl fa fd ["calls"] (sp_answers K [(t1, nm_single), (t2, nm_two_stage), (t3, nm_like), (t4, nm_dc), (t5, nm_es), (t6, nm_sc), (t7, nm_pc)]) := by
  have hnT : ((([(t1, nm_single), (t2, nm_two_stage), (t3, nm_like), (t4, nm_dc), (t5, nm_es), (t6, nm_sc), (t7, nm_pc)] : List NTab)).map (·.1)).Nodup := hn
  generalize hT : ([(t1, nm_single), (t2, nm_two_stage), (t3, nm_like), (t4, nm_dc), (t5, nm_es), (t6, nm_sc), (t7, nm_pc)] : List NTab) = T at *
  have m1 : (t1, nm_single) ∈ T := by rw [← hT]; exact .head _
  have u1 := uniq hnT m1
  have m2 : (t2, nm_two_stage) ∈ T := by rw [← hT]; exact .tail _ (.head _)
  have u2 := uniq hnT m2
  have m3 : (t3, nm_like) ∈ T := by rw [← hT]; exact .tail _ (.tail _ (.head _))
  have u3 := uniq hnT m3
  have m4 : (t4, nm_dc) ∈ T := by rw [← hT]; exact .tail _ (.tail _ (.tail _ (.head _)))
  have u4 := uniq hnT m4
  have m5 : (t5, nm_es) ∈ T := by rw [← hT]; exact .tail _ (.tail _ (.tail _ (.tail _ (.head _))))
  have u5 := uniq hnT m5
  have m6 : (t6, nm_sc) ∈ T := by rw [← hT]; exact .tail _ (.tail _ (.tail _ (.tail _ (.tail _ (.head _)))))
  have u6 := uniq hnT m6
  have m7 : (t7, nm_pc) ∈ T := by rw [← hT]; exact .tail _ (.tail _ (.tail _ (.tail _ (.tail _ (.tail _ (.head _))))))
  have u7 := uniq hnT m7
  have gl := X.gl
  have is_within : Cal0 P w K mg base 1 "is_within" sp_is_within := c_is_within X.f_is_within
  have is_horizon : Cal0 P w K mg base 2 "is_horizon" sp_is_horizon := c_is_horizon gl X.f_is_horizon is_within
  have is_divisor : Cal0 P w K mg base 2 "is_divisor" sp_is_divisor := c_is_divisor gl X.f_is_divisor is_within
  have is_probability : Cal0 P w K mg base 3 "is_probability" sp_is_probability := c_is_probability X.f_is_probability is_within is_divisor
  have are_two_probabilities : Cal0 P w K mg base 3 "are_two_probabilities" sp_are_two_probabilities := c_are_two_probabilities X.f_are_two_probabilities is_divisor
  have is_bound : Cal0 P w K mg base 3 "is_bound" sp_is_bound := c_is_bound gl X.f_is_bound is_within is_divisor
  have are_two_bounds : Cal0 P w K mg base 4 "are_two_bounds" sp_are_two_bounds := c_are_two_bounds X.f_are_two_bounds is_bound
  have are_two_stages : Cal0 P w K mg base 2 "are_two_stages" sp_are_two_stages := c_are_two_stages X.f_are_two_stages is_within
  have gcd : Cal0 P w K mg base 1 "greatest_common_divisor" sp_gcd := c_gcd X.f_greatest_common_divisor
  have lowest_terms : Cal0 P w K mg base 2 "lowest_terms" sp_lowest_terms := c_lowest_terms X.f_lowest_terms gcd
  have powers : Cal0 P w K mg base 1 "powers" sp_powers := c_powers gl X.f_powers
  have rows_by : Cal0 P w K mg base 3 "rows_by" (sp_rows_by P w K mg base) := c_rows_by gl X.f_rows_by
  have last_decision : Cal0 P w K mg base 1 "last_decision" sp_last_decision := c_last_decision gl X.f_last_decision
  have single_rows : Cal0 P w K mg base 4 "single_rows" (sp_single_rows T) := c_single_rows gl X.f_single_rows TB1 m1 u1 last_decision rows_by
  have new_rows : Cal0 P w K mg base 5 "new_rows" (sp_new_rows T) := c_new_rows X.f_new_rows single_rows
  have two_stage_rows : Cal0 P w K mg base 4 "two_stage_rows" (sp_two_stage_rows T) := c_two_stage_rows gl X.f_two_stage_rows TB2 m2 u2 last_decision rows_by
  have likelihood_rows : Cal0 P w K mg base 4 "likelihood_rows" (sp_likelihood_rows K T) := c_likelihood_rows gl X.f_likelihood_rows TB3 m3 u3 powers rows_by
  have curtailed_decision : Cal0 P w K mg base 1 "curtailed_decision" sp_curtailed_decision := c_curtailed_decision gl X.f_curtailed_decision
  have curtailed_rows : Cal0 P w K mg base 2 "curtailed_rows" sp_curtailed_rows := c_curtailed_rows gl X.f_curtailed_rows curtailed_decision
  have next_counts : Cal0 P w K mg base 1 "next_counts" (sp_next_counts K) := c_next_counts gl X.f_next_counts
  have counts_behind : Cal0 P w K mg base 2 "counts_behind" sp_counts_behind := c_counts_behind gl X.f_counts_behind next_counts
  have path_counts : Cal0 P w K mg base 3 "path_counts" sp_path_counts := c_path_counts X.f_path_counts counts_behind
  have stops : Cal0 P w K mg base 4 "stops" sp_stops := c_stops gl X.f_stops path_counts
  have joint_weights : Cal0 P w K mg base 2 "joint_weights" sp_joint_weights := c_joint_weights gl X.f_joint_weights powers
  have stopping : Cal0 P w K mg base 1 "stopping" sp_stopping := c_stopping gl X.f_stopping
  have best_row : Cal0 P w K mg base 2 "best_row" (sp_best_row K CP) := c_best_row gl X.TP X.f_best_row stopping
  have best_rows : Cal0 P w K mg base 3 "best_rows" (sp_best_rows CP) := c_best_rows gl X.TP X.f_best_rows joint_weights best_row
  have optimal_rows : Cal0 P w K mg base 4 "optimal_rows" (sp_optimal_rows CP) := c_optimal_rows X.f_optimal_rows best_rows
  have Problem := k_Problem (P := P) (w := w) (base := base) X.TP X.i_Problem
  have is_problem := c_is_problem gl X.TP X.f_is_problem is_within is_probability are_two_probabilities
  have horizon := m_horizon (P := P) (w := w) (base := base) gl X.TI X.m_Instance_horizon
  have has_point := m_has_point X.TI X.m_Instance_has_point horizon
  have replace_plan := m_replace_plan gl X.TI X.m_Instance_replace_plan stops
  have a0 := c_answer_create (T := T) gl X.TI X.f_answer_create is_horizon new_rows
  have a1 := c_answer_set_decision (T := T) gl X.TI X.f_answer_set_decision horizon has_point is_within
  have a2 := c_answer_single (T := T) gl X.TI X.f_answer_single is_within single_rows horizon replace_plan
  have a3 := c_answer_likelihood (T := T) gl X.TI X.f_answer_likelihood are_two_probabilities are_two_bounds likelihood_rows horizon replace_plan
  have a4 := c_answer_two_stage (T := T) gl X.TI X.f_answer_two_stage are_two_stages two_stage_rows horizon replace_plan
  have a5 := c_answer_curtail (T := T) X.TI X.f_answer_curtail curtailed_rows replace_plan
  have a6 := c_answer_optimal (T := T) gl X.TP X.f_answer_optimal Problem is_problem optimal_rows horizon replace_plan
  have a7 := c_answer_decision (T := T) gl X.TI X.f_answer_decision has_point
  have a8 := c_answer_paths (T := T) gl X.TI X.f_answer_paths has_point path_counts
  have a9 := c_answer_stop_count (T := T) gl X.TI X.f_answer_stop_count stops
  have expected_total := c_expected_total gl X.f_expected_total powers stops
  have expected_value := c_expected_value gl X.f_expected_value expected_total powers lowest_terms
  have decision_chance := c_decision_chance gl X.f_decision_chance TB4 m4 u4 expected_value
  have expected_size := c_expected_size X.f_expected_size TB5 m5 u5 expected_value
  have stop_chance := c_stop_chance gl X.f_stop_chance TB6 m6 u6 expected_value
  have cost_scale := c_cost_scale X.TP X.f_cost_scale powers
  have least_cost := c_least_cost X.f_least_cost best_rows cost_scale lowest_terms
  have plan_cost := c_plan_cost gl X.TP X.f_plan_cost TB7 m7 u7 expected_total cost_scale lowest_terms
  have unbiased_estimate := c_unbiased_estimate gl X.f_unbiased_estimate path_counts counts_behind lowest_terms
  have is_stage_size := c_is_stage_size (P := P) (w := w) (base := base) gl X.f_is_stage_size is_within
  have is_trial_count := c_is_trial_count (P := P) (w := w) (base := base) gl X.f_is_trial_count is_within
  have are_weights := c_are_weights gl X.f_are_weights is_within
  have next_weights : Cal0 P w K mg base 1 "next_weights" (sp_next_weights K) := c_next_weights gl X.f_next_weights
  have success_weights := c_success_weights gl X.f_success_weights next_weights
  have rejecting : Cal0 P w K mg base 1 "rejecting" (sp_rejecting K) := c_rejecting gl X.f_rejecting
  have Search := k_Search X.TS X.i_Search powers success_weights
  have keeps_bounds := m_keeps_bounds X.TS X.m_Search_keeps_bounds rejecting
  have first_kept := m_first_kept gl X.TS X.m_Search_first_kept keeps_bounds
  have size := m_size (P := P) (w := w) (base := base) gl X.TS X.m_Search_size
  have first_stages : Cal0 P w K mg base 1 "first_stages" sp_first_stages := c_first_stages gl X.f_first_stages
  have best_two_stage := c_best_two_stage X.TS gl X.f_best_two_stage Search size first_kept first_stages lowest_terms
  have histories : Cal0 P w K mg base 1 "histories" sp_histories := c_histories gl X.f_histories
  have rests : Cal0 P w K mg base 1 "rests" sp_rests := c_rests gl X.f_rests
  have Treatments := k_Treatments X.TT X.i_Treatments rests
  have next_values := m_next_values (P := P) (w := w) (mg := mg) (base := base) X.TT X.m_Treatments_next_values
  have first_values := c_first_values X.TT gl X.f_first_values histories next_values
  have successes := c_successes X.TT gl X.f_successes Treatments first_values lowest_terms
  have a10 := c_answer_acceptance (T := T) gl X.TI X.f_answer_acceptance is_probability decision_chance
  have a11 := c_answer_expected_size (T := T) gl X.TI X.f_answer_expected_size is_probability expected_size
  have a12 := c_answer_stop_probability (T := T) gl X.TI X.f_answer_stop_probability horizon is_probability stop_chance
  have a13 := c_answer_errors (T := T) gl X.TI X.f_answer_errors are_two_probabilities decision_chance
  have a14 := c_answer_plan_cost (T := T) gl X.TI X.TP X.f_answer_plan_cost Problem is_problem plan_cost
  have a15 := c_answer_least_cost (T := T) gl X.TI X.TP X.f_answer_least_cost Problem is_problem least_cost horizon
  have a16 := c_answer_unbiased (T := T) gl X.TI X.f_answer_unbiased has_point unbiased_estimate
  have a17 := c_answer_best_two_stage (T := T) (C := CI) gl X.f_answer_best_two_stage are_two_probabilities is_stage_size is_probability best_two_stage
  have a18 := c_answer_successes (T := T) (C := CI) gl X.f_answer_successes is_trial_count are_weights successes
  have a19 := c_answer_row (T := T) gl X.TI X.f_answer_row horizon
  have a20 := c_answer_summary (T := T) X.TI X.f_answer_summary horizon
  have Instance := k_Instance (P := P) (w := w) (base := base) X.TI X.i_Instance
  refine ok_answers (j := 12) gl X.TI F Instance X.calls (by decide) fun i hi => ?_
  match i, hi with
  | 0, _ => obtain ⟨tp, f, h1, h2, h3⟩ := X.e_0; exact callAt_of h1 h2 h3 a0 (by decide)
  | 1, _ => obtain ⟨tp, f, h1, h2, h3⟩ := X.e_1; exact callAt_of h1 h2 h3 a1 (by decide)
  | 2, _ => obtain ⟨tp, f, h1, h2, h3⟩ := X.e_2; exact callAt_of h1 h2 h3 a2 (by decide)
  | 3, _ => obtain ⟨tp, f, h1, h2, h3⟩ := X.e_3; exact callAt_of h1 h2 h3 a3 (by decide)
  | 4, _ => obtain ⟨tp, f, h1, h2, h3⟩ := X.e_4; exact callAt_of h1 h2 h3 a4 (by decide)
  | 5, _ => obtain ⟨tp, f, h1, h2, h3⟩ := X.e_5; exact callAt_of h1 h2 h3 a5 (by decide)
  | 6, _ => obtain ⟨tp, f, h1, h2, h3⟩ := X.e_6; exact callAt_of h1 h2 h3 a6 (by decide)
  | 7, _ => obtain ⟨tp, f, h1, h2, h3⟩ := X.e_7; exact callAt_of h1 h2 h3 a7 (by decide)
  | 8, _ => obtain ⟨tp, f, h1, h2, h3⟩ := X.e_8; exact callAt_of h1 h2 h3 a8 (by decide)
  | 9, _ => obtain ⟨tp, f, h1, h2, h3⟩ := X.e_9; exact callAt_of h1 h2 h3 a9 (by decide)
  | 10, _ => obtain ⟨tp, f, h1, h2, h3⟩ := X.e_10; exact callAt_of h1 h2 h3 a10 (by decide)
  | 11, _ => obtain ⟨tp, f, h1, h2, h3⟩ := X.e_11; exact callAt_of h1 h2 h3 a11 (by decide)
  | 12, _ => obtain ⟨tp, f, h1, h2, h3⟩ := X.e_12; exact callAt_of h1 h2 h3 a12 (by decide)
  | 13, _ => obtain ⟨tp, f, h1, h2, h3⟩ := X.e_13; exact callAt_of h1 h2 h3 a13 (by decide)
  | 14, _ => obtain ⟨tp, f, h1, h2, h3⟩ := X.e_14; exact callAt_of h1 h2 h3 a14 (by decide)
  | 15, _ => obtain ⟨tp, f, h1, h2, h3⟩ := X.e_15; exact callAt_of h1 h2 h3 a15 (by decide)
  | 16, _ => obtain ⟨tp, f, h1, h2, h3⟩ := X.e_16; exact callAt_of h1 h2 h3 a16 (by decide)
  | 17, _ => obtain ⟨tp, f, h1, h2, h3⟩ := X.e_17; exact callAt_of h1 h2 h3 a17 (by decide)
  | 18, _ => obtain ⟨tp, f, h1, h2, h3⟩ := X.e_18; exact callAt_of h1 h2 h3 a18 (by decide)
  | 19, _ => obtain ⟨tp, f, h1, h2, h3⟩ := X.e_19; exact callAt_of h1 h2 h3 a19 (by decide)
  | 20, _ => obtain ⟨tp, f, h1, h2, h3⟩ := X.e_20; exact callAt_of h1 h2 h3 a20 (by decide)
  | i + 21, hi => omega
end St
open PySem PySem.W PyProof.Rows
set_option maxRecDepth 100000 in
set_option maxHeartbeats 0 in
theorem PySem.Challenge.cw_stopearly_s01_answers_holds : PySem.Challenge.rw_stopearly_s01_answers.Holds := by
  w_on; k_headS; (case hw => exact ⟨[.list [.int 20]], by decide +kernel, by decide +kernel⟩)
  k_fillS
  refine St.walk_specT (r := PySem.Challenge.rw_stopearly_s01_answers) (k := St.lvl) (CX := fun _ => C8.CX0) (ps := ["calls"]) (sp := fun _ K => St.sp_answers K [(131, St.nm_single), (145, St.nm_two_stage), (152, St.nm_like), (215, St.nm_dc), (222, St.nm_es), (229, St.nm_sc), (309, St.nm_pc)]) (cs := [(135, 131), (149, 145), (156, 152), (219, 215), (226, 222), (233, 229), (313, 309)]) (by decide +kernel) rfl rfl ⟨rfl, by decide, by decide⟩ (fun w h Y => PySem.W.kIn_of Y) ?C ?F ?S (fun _ _ _ _ _ z => z)
  case C =>
    intro p hp
    rcases List.mem_cons.mp hp with z | hp
    · subst z
      exact ⟨"single_rows", _, rfl, fun P => ⟨by kernel_rfl, by kernel_rfl⟩⟩
    rcases List.mem_cons.mp hp with z | hp
    · subst z
      exact ⟨"two_stage_rows", _, rfl, fun P => ⟨by kernel_rfl, by kernel_rfl⟩⟩
    rcases List.mem_cons.mp hp with z | hp
    · subst z
      exact ⟨"likelihood_rows", _, rfl, fun P => ⟨by kernel_rfl, by kernel_rfl⟩⟩
    rcases List.mem_cons.mp hp with z | hp
    · subst z
      exact ⟨"decision_chance", _, rfl, fun P => ⟨by kernel_rfl, by kernel_rfl⟩⟩
    rcases List.mem_cons.mp hp with z | hp
    · subst z
      exact ⟨"expected_size", _, rfl, fun P => ⟨by kernel_rfl, by kernel_rfl⟩⟩
    rcases List.mem_cons.mp hp with z | hp
    · subst z
      exact ⟨"stop_chance", _, rfl, fun P => ⟨by kernel_rfl, by kernel_rfl⟩⟩
    rcases List.mem_cons.mp hp with z | hp
    · subst z
      exact ⟨"plan_cost", _, rfl, fun P => ⟨by kernel_rfl, by kernel_rfl⟩⟩
    cases hp
  case F =>
    intro w mg fa h Y KX G hmg
    have gl : St.Glb mg := by
      refine' ⟨St.con_of KX G ?yg0, St.con_of KX G ?yg1, St.con_of KX G ?yg2, St.con_of KX G ?yg3, St.con_of KX G ?yg4, St.con_of KX G ?yg5, St.con_of KX G ?yg6, St.con_of KX G ?yg7, St.con_of KX G ?yg8, St.con_of KX G ?yg9, St.con_of KX G ?yg10, St.con_of KX G ?yg11, St.con_of KX G ?yg12, St.con_of KX G ?yg13, St.con_of KX G ?yg14, St.con_of KX G ?yg15, St.con_of KX G ?yg16, PySem.W.mg_none_of KX G ?yz0, PySem.W.mg_none_of KX G ?yz1, PySem.W.mg_none_of KX G ?yz2, PySem.W.mg_none_of KX G ?yz3, PySem.W.mg_none_of KX G ?yz4, PySem.W.mg_none_of KX G ?yz5, PySem.W.mg_none_of KX G ?yz6, PySem.W.mg_none_of KX G ?yz7⟩
      (case yg0 => k_is); (case yg1 => k_is); (case yg2 => k_is); (case yg3 => k_is); (case yg4 => k_is); (case yg5 => k_is); (case yg6 => k_is); (case yg7 => k_is); (case yg8 => k_is); (case yg9 => k_is); (case yg10 => k_is); (case yg11 => k_is); (case yg12 => k_is); (case yg13 => k_is); (case yg14 => k_is); (case yg15 => k_is); (case yg16 => k_is); (case yz0 => k_is); (case yz1 => k_is); (case yz2 => k_is); (case yz3 => k_is); (case yz4 => k_is); (case yz5 => k_is); (case yz6 => k_is); (case yz7 => k_is)
    obtain ⟨CP, TCP, i_Problem⟩ : ∃ C, St.PCls (St.kOf KX) C ∧ St.IniB (St.kOf KX) mg C "Problem" "Problem.__init__" St.s_Problem___init__ ["self", "numbers"] := by
      refine' ⟨?yProblem_C, St.PCls_of KX ⟨?yProblem_pg, ?yProblem_hd, ?yProblem_po, ?yProblem_sa⟩ ?yProblem_n0 ?yProblem_n1 ?yProblem_n2 ?yProblem_n3 ?yProblem_n4 ?yProblem_n5 ?yProblem_n6 ?yProblem_n7, St.iniB_of KX G ?yProblem_g ?yProblem_m ?yProblem_a ?yProblem_i ?yProblem_kc ?yProblem_l ?yProblem_c ?yProblem_b⟩
      (case yProblem_g => k_is); (case yProblem_m => k_is); (case yProblem_a => k_is); (case yProblem_i => k_is); (case yProblem_kc => k_is); (case yProblem_l => k_is); (case yProblem_c => k_is); (case yProblem_b => exact fun _ _ _ _ _ _ us hl => match us, hl with | [_, _], _ => rfl)
      (case yProblem_pg => k_is); (case yProblem_hd => k_is); (case yProblem_po => k_is); (case yProblem_sa => k_is); (case yProblem_n0 => k_is); (case yProblem_n1 => k_is); (case yProblem_n2 => k_is); (case yProblem_n3 => k_is); (case yProblem_n4 => k_is); (case yProblem_n5 => k_is); (case yProblem_n6 => k_is); (case yProblem_n7 => k_is)
    obtain ⟨CI, TCI, i_Instance, m_Instance_horizon, m_Instance_has_point, m_Instance_replace_plan⟩ : ∃ C, St.ICls (St.kOf KX) C ∧ St.IniB (St.kOf KX) mg C "Instance" "Instance.__init__" St.s_Instance___init__ ["self"] ∧ St.MetB (St.kOf KX) C "horizon" "Instance.horizon" St.s_Instance_horizon ["self"] ∧ St.MetB (St.kOf KX) C "has_point" "Instance.has_point" St.s_Instance_has_point ["self", "n", "s"] ∧ St.MetB (St.kOf KX) C "replace_plan" "Instance.replace_plan" St.s_Instance_replace_plan ["self", "rows"] := by
      refine' ⟨?yInstance_C, St.ICls_of KX ⟨?yInstance_pg, ?yInstance_hd, ?yInstance_po, ?yInstance_sa⟩ ?yInstance_n0, St.iniB_of KX G ?yInstance_g ?yInstance_m ?yInstance_a ?yInstance_i ?yInstance_kc ?yInstance_l ?yInstance_c ?yInstance_b, St.metB_of KX ?yInstance_a0 ?yInstance_i0 ?yInstance_l0 ?yInstance_c0 ?yInstance_k0 ?yInstance_b0, St.metB_of KX ?yInstance_a1 ?yInstance_i1 ?yInstance_l1 ?yInstance_c1 ?yInstance_k1 ?yInstance_b1, St.metB_of KX ?yInstance_a2 ?yInstance_i2 ?yInstance_l2 ?yInstance_c2 ?yInstance_k2 ?yInstance_b2⟩
      (case yInstance_g => k_is); (case yInstance_m => k_is); (case yInstance_a => k_is); (case yInstance_i => k_is); (case yInstance_kc => k_is); (case yInstance_l => k_is); (case yInstance_c => k_is); (case yInstance_b => exact fun _ _ _ _ _ _ us hl => match us, hl with | [_], _ => rfl)
      (case yInstance_pg => k_is); (case yInstance_hd => k_is); (case yInstance_po => k_is); (case yInstance_sa => k_is); (case yInstance_n0 => k_is)
      (case yInstance_a0 => k_is); (case yInstance_i0 => k_is); (case yInstance_l0 => k_is); (case yInstance_c0 => k_is); (case yInstance_k0 => k_is); (case yInstance_b0 => exact fun _ _ _ _ _ _ us hl => match us, hl with | [_], _ => rfl)
      (case yInstance_a1 => k_is); (case yInstance_i1 => k_is); (case yInstance_l1 => k_is); (case yInstance_c1 => k_is); (case yInstance_k1 => k_is); (case yInstance_b1 => exact fun _ _ _ _ _ _ us hl => match us, hl with | [_, _, _], _ => rfl)
      (case yInstance_a2 => k_is); (case yInstance_i2 => k_is); (case yInstance_l2 => k_is); (case yInstance_c2 => k_is); (case yInstance_k2 => k_is); (case yInstance_b2 => exact fun _ _ _ _ _ _ us hl => match us, hl with | [_, _], _ => rfl)
    obtain ⟨CS, TCS, i_Search, m_Search_keeps_bounds, m_Search_first_kept, m_Search_size⟩ : ∃ C, St.SCls (St.kOf KX) C ∧ St.IniB (St.kOf KX) mg C "Search" "Search.__init__" St.s_Search___init__ ["self", "chances", "bounds", "most"] ∧ St.MetB (St.kOf KX) C "keeps_bounds" "Search.keeps_bounds" St.s_Search_keeps_bounds ["self", "plan"] ∧ St.MetB (St.kOf KX) C "first_kept" "Search.first_kept" St.s_Search_first_kept ["self", "stage"] ∧ St.MetB (St.kOf KX) C "size" "Search.size" St.s_Search_size ["self", "stage"] := by
      refine' ⟨?ySearch_C, St.SCls_of KX ⟨?ySearch_pg, ?ySearch_hd, ?ySearch_po, ?ySearch_sa⟩ ?ySearch_n0 ?ySearch_n1 ?ySearch_n2 ?ySearch_n3 ?ySearch_n4, St.iniB_of KX G ?ySearch_g ?ySearch_m ?ySearch_a ?ySearch_i ?ySearch_kc ?ySearch_l ?ySearch_c ?ySearch_b, St.metB_of KX ?ySearch_a0 ?ySearch_i0 ?ySearch_l0 ?ySearch_c0 ?ySearch_k0 ?ySearch_b0, St.metB_of KX ?ySearch_a1 ?ySearch_i1 ?ySearch_l1 ?ySearch_c1 ?ySearch_k1 ?ySearch_b1, St.metB_of KX ?ySearch_a2 ?ySearch_i2 ?ySearch_l2 ?ySearch_c2 ?ySearch_k2 ?ySearch_b2⟩
      (case ySearch_g => k_is); (case ySearch_m => k_is); (case ySearch_a => k_is); (case ySearch_i => k_is); (case ySearch_kc => k_is); (case ySearch_l => k_is); (case ySearch_c => k_is); (case ySearch_b => exact fun _ _ _ _ _ _ us hl => match us, hl with | [_, _, _, _], _ => rfl)
      (case ySearch_pg => k_is); (case ySearch_hd => k_is); (case ySearch_po => k_is); (case ySearch_sa => k_is); (case ySearch_n0 => k_is); (case ySearch_n1 => k_is); (case ySearch_n2 => k_is); (case ySearch_n3 => k_is); (case ySearch_n4 => k_is)
      (case ySearch_a0 => k_is); (case ySearch_i0 => k_is); (case ySearch_l0 => k_is); (case ySearch_c0 => k_is); (case ySearch_k0 => k_is); (case ySearch_b0 => exact fun _ _ _ _ _ _ us hl => match us, hl with | [_, _], _ => rfl)
      (case ySearch_a1 => k_is); (case ySearch_i1 => k_is); (case ySearch_l1 => k_is); (case ySearch_c1 => k_is); (case ySearch_k1 => k_is); (case ySearch_b1 => exact fun _ _ _ _ _ _ us hl => match us, hl with | [_, _], _ => rfl)
      (case ySearch_a2 => k_is); (case ySearch_i2 => k_is); (case ySearch_l2 => k_is); (case ySearch_c2 => k_is); (case ySearch_k2 => k_is); (case ySearch_b2 => exact fun _ _ _ _ _ _ us hl => match us, hl with | [_, _], _ => rfl)
    obtain ⟨CT, TCT, i_Treatments, m_Treatments_next_values⟩ : ∃ C, St.TCls (St.kOf KX) C ∧ St.IniB (St.kOf KX) mg C "Treatments" "Treatments.__init__" St.s_Treatments___init__ ["self", "trials", "weights"] ∧ St.MetB (St.kOf KX) C "next_values" "Treatments.next_values" St.s_Treatments_next_values ["self", "history", "later"] := by
      refine' ⟨?yTreatments_C, St.TCls_of KX ⟨?yTreatments_pg, ?yTreatments_hd, ?yTreatments_po, ?yTreatments_sa⟩ ?yTreatments_n0 ?yTreatments_n1 ?yTreatments_n2, St.iniB_of KX G ?yTreatments_g ?yTreatments_m ?yTreatments_a ?yTreatments_i ?yTreatments_kc ?yTreatments_l ?yTreatments_c ?yTreatments_b, St.metB_of KX ?yTreatments_a0 ?yTreatments_i0 ?yTreatments_l0 ?yTreatments_c0 ?yTreatments_k0 ?yTreatments_b0⟩
      (case yTreatments_g => k_is); (case yTreatments_m => k_is); (case yTreatments_a => k_is); (case yTreatments_i => k_is); (case yTreatments_kc => k_is); (case yTreatments_l => k_is); (case yTreatments_c => k_is); (case yTreatments_b => exact fun _ _ _ _ _ _ us hl => match us, hl with | [_, _, _], _ => rfl)
      (case yTreatments_pg => k_is); (case yTreatments_hd => k_is); (case yTreatments_po => k_is); (case yTreatments_sa => k_is); (case yTreatments_n0 => k_is); (case yTreatments_n1 => k_is); (case yTreatments_n2 => k_is)
      (case yTreatments_a0 => k_is); (case yTreatments_i0 => k_is); (case yTreatments_l0 => k_is); (case yTreatments_c0 => k_is); (case yTreatments_k0 => k_is); (case yTreatments_b0 => exact fun _ _ _ _ _ _ us hl => match us, hl with | [_, _, _], _ => rfl)
    have f_greatest_common_divisor : St.DefB (St.kOf KX) mg "greatest_common_divisor" St.s_greatest_common_divisor ["first", "second"] := by
      refine' St.defB_of KX G ?ya ?yl ?yc ?yk ?yb
      (case ya => k_is); (case yl => k_is); (case yc => k_is); (case yk => k_is); (case yb => exact fun _ _ _ _ _ _ us hl => match us, hl with | [_, _], _ => rfl)
    have f_lowest_terms : St.DefB (St.kOf KX) mg "lowest_terms" St.s_lowest_terms ["numerator", "denominator"] := by
      refine' St.defB_of KX G ?ya ?yl ?yc ?yk ?yb
      (case ya => k_is); (case yl => k_is); (case yc => k_is); (case yk => k_is); (case yb => exact fun _ _ _ _ _ _ us hl => match us, hl with | [_, _], _ => rfl)
    have f_powers : St.DefB (St.kOf KX) mg "powers" St.s_powers ["base", "most"] := by
      refine' St.defB_of KX G ?ya ?yl ?yc ?yk ?yb
      (case ya => k_is); (case yl => k_is); (case yc => k_is); (case yk => k_is); (case yb => exact fun _ _ _ _ _ _ us hl => match us, hl with | [_, _], _ => rfl)
    have f_is_within : St.DefB (St.kOf KX) mg "is_within" St.s_is_within ["number", "least", "greatest"] := by
      refine' St.defB_of KX G ?ya ?yl ?yc ?yk ?yb
      (case ya => k_is); (case yl => k_is); (case yc => k_is); (case yk => k_is); (case yb => exact fun _ _ _ _ _ _ us hl => match us, hl with | [_, _, _], _ => rfl)
    have f_is_horizon : St.DefB (St.kOf KX) mg "is_horizon" St.s_is_horizon ["number"] := by
      refine' St.defB_of KX G ?ya ?yl ?yc ?yk ?yb
      (case ya => k_is); (case yl => k_is); (case yc => k_is); (case yk => k_is); (case yb => exact fun _ _ _ _ _ _ us hl => match us, hl with | [_], _ => rfl)
    have f_is_divisor : St.DefB (St.kOf KX) mg "is_divisor" St.s_is_divisor ["number"] := by
      refine' St.defB_of KX G ?ya ?yl ?yc ?yk ?yb
      (case ya => k_is); (case yl => k_is); (case yc => k_is); (case yk => k_is); (case yb => exact fun _ _ _ _ _ _ us hl => match us, hl with | [_], _ => rfl)
    have f_is_probability : St.DefB (St.kOf KX) mg "is_probability" St.s_is_probability ["p", "divisor"] := by
      refine' St.defB_of KX G ?ya ?yl ?yc ?yk ?yb
      (case ya => k_is); (case yl => k_is); (case yc => k_is); (case yk => k_is); (case yb => exact fun _ _ _ _ _ _ us hl => match us, hl with | [_, _], _ => rfl)
    have f_are_two_probabilities : St.DefB (St.kOf KX) mg "are_two_probabilities" St.s_are_two_probabilities ["p0", "p1", "divisor"] := by
      refine' St.defB_of KX G ?ya ?yl ?yc ?yk ?yb
      (case ya => k_is); (case yl => k_is); (case yc => k_is); (case yk => k_is); (case yb => exact fun _ _ _ _ _ _ us hl => match us, hl with | [_, _, _], _ => rfl)
    have f_is_bound : St.DefB (St.kOf KX) mg "is_bound" St.s_is_bound ["number", "divisor"] := by
      refine' St.defB_of KX G ?ya ?yl ?yc ?yk ?yb
      (case ya => k_is); (case yl => k_is); (case yc => k_is); (case yk => k_is); (case yb => exact fun _ _ _ _ _ _ us hl => match us, hl with | [_, _], _ => rfl)
    have f_are_two_bounds : St.DefB (St.kOf KX) mg "are_two_bounds" St.s_are_two_bounds ["low", "low_divisor", "high", "high_divisor"] := by
      refine' St.defB_of KX G ?ya ?yl ?yc ?yk ?yb
      (case ya => k_is); (case yl => k_is); (case yc => k_is); (case yk => k_is); (case yb => exact fun _ _ _ _ _ _ us hl => match us, hl with | [_, _, _, _], _ => rfl)
    have f_are_two_stages : St.DefB (St.kOf KX) mg "are_two_stages" St.s_are_two_stages ["horizon", "first", "first_limit", "limit"] := by
      refine' St.defB_of KX G ?ya ?yl ?yc ?yk ?yb
      (case ya => k_is); (case yl => k_is); (case yc => k_is); (case yk => k_is); (case yb => exact fun _ _ _ _ _ _ us hl => match us, hl with | [_, _, _, _], _ => rfl)
    have f_is_problem : St.DefB (St.kOf KX) mg "is_problem" St.s_is_problem ["problem"] := by
      refine' St.defB_of KX G ?ya ?yl ?yc ?yk ?yb
      (case ya => k_is); (case yl => k_is); (case yc => k_is); (case yk => k_is); (case yb => exact fun _ _ _ _ _ _ us hl => match us, hl with | [_], _ => rfl)
    have f_is_stage_size : St.DefB (St.kOf KX) mg "is_stage_size" St.s_is_stage_size ["number"] := by
      refine' St.defB_of KX G ?ya ?yl ?yc ?yk ?yb
      (case ya => k_is); (case yl => k_is); (case yc => k_is); (case yk => k_is); (case yb => exact fun _ _ _ _ _ _ us hl => match us, hl with | [_], _ => rfl)
    have f_is_trial_count : St.DefB (St.kOf KX) mg "is_trial_count" St.s_is_trial_count ["number"] := by
      refine' St.defB_of KX G ?ya ?yl ?yc ?yk ?yb
      (case ya => k_is); (case yl => k_is); (case yc => k_is); (case yk => k_is); (case yb => exact fun _ _ _ _ _ _ us hl => match us, hl with | [_], _ => rfl)
    have f_are_weights : St.DefB (St.kOf KX) mg "are_weights" St.s_are_weights ["numbers"] := by
      refine' St.defB_of KX G ?ya ?yl ?yc ?yk ?yb
      (case ya => k_is); (case yl => k_is); (case yc => k_is); (case yk => k_is); (case yb => exact fun _ _ _ _ _ _ us hl => match us, hl with | [_], _ => rfl)
    have f_joint_weights : St.DefB (St.kOf KX) mg "joint_weights" St.s_joint_weights ["horizon", "prior", "p", "divisor"] := by
      refine' St.defB_of KX G ?ya ?yl ?yc ?yk ?yb
      (case ya => k_is); (case yl => k_is); (case yc => k_is); (case yk => k_is); (case yb => exact fun _ _ _ _ _ _ us hl => match us, hl with | [_, _, _, _], _ => rfl)
    have f_stopping : St.DefB (St.kOf KX) mg "stopping" St.s_stopping ["accepting", "rejecting"] := by
      refine' St.defB_of KX G ?ya ?yl ?yc ?yk ?yb
      (case ya => k_is); (case yl => k_is); (case yc => k_is); (case yk => k_is); (case yb => exact fun _ _ _ _ _ _ us hl => match us, hl with | [_, _], _ => rfl)
    have f_best_row : St.DefB (St.kOf KX) mg "best_row" St.s_best_row ["problem", "weights0", "weights1", "later"] := by
      refine' St.defB_of KX G ?ya ?yl ?yc ?yk ?yb
      (case ya => k_is); (case yl => k_is); (case yc => k_is); (case yk => k_is); (case yb => exact fun _ _ _ _ _ _ us hl => match us, hl with | [_, _, _, _], _ => rfl)
    have f_best_rows : St.DefB (St.kOf KX) mg "best_rows" St.s_best_rows ["horizon", "problem"] := by
      refine' St.defB_of KX G ?ya ?yl ?yc ?yk ?yb
      (case ya => k_is); (case yl => k_is); (case yc => k_is); (case yk => k_is); (case yb => exact fun _ _ _ _ _ _ us hl => match us, hl with | [_, _], _ => rfl)
    have f_optimal_rows : St.DefB (St.kOf KX) mg "optimal_rows" St.s_optimal_rows ["horizon", "problem"] := by
      refine' St.defB_of KX G ?ya ?yl ?yc ?yk ?yb
      (case ya => k_is); (case yl => k_is); (case yc => k_is); (case yk => k_is); (case yb => exact fun _ _ _ _ _ _ us hl => match us, hl with | [_, _], _ => rfl)
    have f_cost_scale : St.DefB (St.kOf KX) mg "cost_scale" St.s_cost_scale ["horizon", "problem"] := by
      refine' St.defB_of KX G ?ya ?yl ?yc ?yk ?yb
      (case ya => k_is); (case yl => k_is); (case yc => k_is); (case yk => k_is); (case yb => exact fun _ _ _ _ _ _ us hl => match us, hl with | [_, _], _ => rfl)
    have f_least_cost : St.DefB (St.kOf KX) mg "least_cost" St.s_least_cost ["horizon", "problem"] := by
      refine' St.defB_of KX G ?ya ?yl ?yc ?yk ?yb
      (case ya => k_is); (case yl => k_is); (case yc => k_is); (case yk => k_is); (case yb => exact fun _ _ _ _ _ _ us hl => match us, hl with | [_, _], _ => rfl)
    have f_plan_cost : St.DefT (St.kOf KX) mg "plan_cost" St.s_plan_cost ["rows", "problem"] 313 := by
      refine' St.defT_of KX G ?ya ?yl ?yc ?yk ?yb
      (case ya => k_is); (case yl => k_is); (case yc => k_is); (case yk => k_is); (case yb => exact fun _ _ _ _ _ _ us hl => match us, hl with | [_, _], _ => rfl)
    have f_answer_create : St.DefB (St.kOf KX) mg "answer_create" St.s_answer_create ["instance", "numbers"] := by
      refine' St.defB_of KX G ?ya ?yl ?yc ?yk ?yb
      (case ya => k_is); (case yl => k_is); (case yc => k_is); (case yk => k_is); (case yb => exact fun _ _ _ _ _ _ us hl => match us, hl with | [_, _], _ => rfl)
    have f_answer_set_decision : St.DefB (St.kOf KX) mg "answer_set_decision" St.s_answer_set_decision ["instance", "numbers"] := by
      refine' St.defB_of KX G ?ya ?yl ?yc ?yk ?yb
      (case ya => k_is); (case yl => k_is); (case yc => k_is); (case yk => k_is); (case yb => exact fun _ _ _ _ _ _ us hl => match us, hl with | [_, _], _ => rfl)
    have f_answer_single : St.DefB (St.kOf KX) mg "answer_single" St.s_answer_single ["instance", "numbers"] := by
      refine' St.defB_of KX G ?ya ?yl ?yc ?yk ?yb
      (case ya => k_is); (case yl => k_is); (case yc => k_is); (case yk => k_is); (case yb => exact fun _ _ _ _ _ _ us hl => match us, hl with | [_, _], _ => rfl)
    have f_answer_likelihood : St.DefB (St.kOf KX) mg "answer_likelihood" St.s_answer_likelihood ["instance", "numbers"] := by
      refine' St.defB_of KX G ?ya ?yl ?yc ?yk ?yb
      (case ya => k_is); (case yl => k_is); (case yc => k_is); (case yk => k_is); (case yb => exact fun _ _ _ _ _ _ us hl => match us, hl with | [_, _], _ => rfl)
    have f_answer_two_stage : St.DefB (St.kOf KX) mg "answer_two_stage" St.s_answer_two_stage ["instance", "numbers"] := by
      refine' St.defB_of KX G ?ya ?yl ?yc ?yk ?yb
      (case ya => k_is); (case yl => k_is); (case yc => k_is); (case yk => k_is); (case yb => exact fun _ _ _ _ _ _ us hl => match us, hl with | [_, _], _ => rfl)
    have f_answer_curtail : St.DefB (St.kOf KX) mg "answer_curtail" St.s_answer_curtail ["instance", "numbers"] := by
      refine' St.defB_of KX G ?ya ?yl ?yc ?yk ?yb
      (case ya => k_is); (case yl => k_is); (case yc => k_is); (case yk => k_is); (case yb => exact fun _ _ _ _ _ _ us hl => match us, hl with | [_, _], _ => rfl)
    have f_answer_optimal : St.DefB (St.kOf KX) mg "answer_optimal" St.s_answer_optimal ["instance", "numbers"] := by
      refine' St.defB_of KX G ?ya ?yl ?yc ?yk ?yb
      (case ya => k_is); (case yl => k_is); (case yc => k_is); (case yk => k_is); (case yb => exact fun _ _ _ _ _ _ us hl => match us, hl with | [_, _], _ => rfl)
    have f_answer_decision : St.DefB (St.kOf KX) mg "answer_decision" St.s_answer_decision ["instance", "numbers"] := by
      refine' St.defB_of KX G ?ya ?yl ?yc ?yk ?yb
      (case ya => k_is); (case yl => k_is); (case yc => k_is); (case yk => k_is); (case yb => exact fun _ _ _ _ _ _ us hl => match us, hl with | [_, _], _ => rfl)
    have f_answer_paths : St.DefB (St.kOf KX) mg "answer_paths" St.s_answer_paths ["instance", "numbers"] := by
      refine' St.defB_of KX G ?ya ?yl ?yc ?yk ?yb
      (case ya => k_is); (case yl => k_is); (case yc => k_is); (case yk => k_is); (case yb => exact fun _ _ _ _ _ _ us hl => match us, hl with | [_, _], _ => rfl)
    have f_answer_stop_count : St.DefB (St.kOf KX) mg "answer_stop_count" St.s_answer_stop_count ["instance", "numbers"] := by
      refine' St.defB_of KX G ?ya ?yl ?yc ?yk ?yb
      (case ya => k_is); (case yl => k_is); (case yc => k_is); (case yk => k_is); (case yb => exact fun _ _ _ _ _ _ us hl => match us, hl with | [_, _], _ => rfl)
    have f_answer_acceptance : St.DefB (St.kOf KX) mg "answer_acceptance" St.s_answer_acceptance ["instance", "numbers"] := by
      refine' St.defB_of KX G ?ya ?yl ?yc ?yk ?yb
      (case ya => k_is); (case yl => k_is); (case yc => k_is); (case yk => k_is); (case yb => exact fun _ _ _ _ _ _ us hl => match us, hl with | [_, _], _ => rfl)
    have f_answer_expected_size : St.DefB (St.kOf KX) mg "answer_expected_size" St.s_answer_expected_size ["instance", "numbers"] := by
      refine' St.defB_of KX G ?ya ?yl ?yc ?yk ?yb
      (case ya => k_is); (case yl => k_is); (case yc => k_is); (case yk => k_is); (case yb => exact fun _ _ _ _ _ _ us hl => match us, hl with | [_, _], _ => rfl)
    have f_answer_stop_probability : St.DefB (St.kOf KX) mg "answer_stop_probability" St.s_answer_stop_probability ["instance", "numbers"] := by
      refine' St.defB_of KX G ?ya ?yl ?yc ?yk ?yb
      (case ya => k_is); (case yl => k_is); (case yc => k_is); (case yk => k_is); (case yb => exact fun _ _ _ _ _ _ us hl => match us, hl with | [_, _], _ => rfl)
    have f_answer_errors : St.DefB (St.kOf KX) mg "answer_errors" St.s_answer_errors ["instance", "numbers"] := by
      refine' St.defB_of KX G ?ya ?yl ?yc ?yk ?yb
      (case ya => k_is); (case yl => k_is); (case yc => k_is); (case yk => k_is); (case yb => exact fun _ _ _ _ _ _ us hl => match us, hl with | [_, _], _ => rfl)
    have f_answer_plan_cost : St.DefB (St.kOf KX) mg "answer_plan_cost" St.s_answer_plan_cost ["instance", "numbers"] := by
      refine' St.defB_of KX G ?ya ?yl ?yc ?yk ?yb
      (case ya => k_is); (case yl => k_is); (case yc => k_is); (case yk => k_is); (case yb => exact fun _ _ _ _ _ _ us hl => match us, hl with | [_, _], _ => rfl)
    have f_answer_least_cost : St.DefB (St.kOf KX) mg "answer_least_cost" St.s_answer_least_cost ["instance", "numbers"] := by
      refine' St.defB_of KX G ?ya ?yl ?yc ?yk ?yb
      (case ya => k_is); (case yl => k_is); (case yc => k_is); (case yk => k_is); (case yb => exact fun _ _ _ _ _ _ us hl => match us, hl with | [_, _], _ => rfl)
    have f_answer_unbiased : St.DefB (St.kOf KX) mg "answer_unbiased" St.s_answer_unbiased ["instance", "numbers"] := by
      refine' St.defB_of KX G ?ya ?yl ?yc ?yk ?yb
      (case ya => k_is); (case yl => k_is); (case yc => k_is); (case yk => k_is); (case yb => exact fun _ _ _ _ _ _ us hl => match us, hl with | [_, _], _ => rfl)
    have f_answer_best_two_stage : St.DefB (St.kOf KX) mg "answer_best_two_stage" St.s_answer_best_two_stage ["instance", "numbers"] := by
      refine' St.defB_of KX G ?ya ?yl ?yc ?yk ?yb
      (case ya => k_is); (case yl => k_is); (case yc => k_is); (case yk => k_is); (case yb => exact fun _ _ _ _ _ _ us hl => match us, hl with | [_, _], _ => rfl)
    have f_answer_successes : St.DefB (St.kOf KX) mg "answer_successes" St.s_answer_successes ["instance", "numbers"] := by
      refine' St.defB_of KX G ?ya ?yl ?yc ?yk ?yb
      (case ya => k_is); (case yl => k_is); (case yc => k_is); (case yk => k_is); (case yb => exact fun _ _ _ _ _ _ us hl => match us, hl with | [_, _], _ => rfl)
    have f_answer_row : St.DefB (St.kOf KX) mg "answer_row" St.s_answer_row ["instance", "numbers"] := by
      refine' St.defB_of KX G ?ya ?yl ?yc ?yk ?yb
      (case ya => k_is); (case yl => k_is); (case yc => k_is); (case yk => k_is); (case yb => exact fun _ _ _ _ _ _ us hl => match us, hl with | [_, _], _ => rfl)
    have f_answer_summary : St.DefB (St.kOf KX) mg "answer_summary" St.s_answer_summary ["instance", "numbers"] := by
      refine' St.defB_of KX G ?ya ?yl ?yc ?yk ?yb
      (case ya => k_is); (case yl => k_is); (case yc => k_is); (case yk => k_is); (case yb => exact fun _ _ _ _ _ _ us hl => match us, hl with | [_, _], _ => rfl)
    have f_rows_by : St.DefB (St.kOf KX) mg "rows_by" St.s_rows_by ["horizon", "decide"] := by
      refine' St.defB_of KX G ?ya ?yl ?yc ?yk ?yb
      (case ya => k_is); (case yl => k_is); (case yc => k_is); (case yk => k_is); (case yb => exact fun _ _ _ _ _ _ us hl => match us, hl with | [_, _], _ => rfl)
    have f_last_decision : St.DefB (St.kOf KX) mg "last_decision" St.s_last_decision ["s", "limit"] := by
      refine' St.defB_of KX G ?ya ?yl ?yc ?yk ?yb
      (case ya => k_is); (case yl => k_is); (case yc => k_is); (case yk => k_is); (case yb => exact fun _ _ _ _ _ _ us hl => match us, hl with | [_, _], _ => rfl)
    have f_single_rows : St.DefT (St.kOf KX) mg "single_rows" St.s_single_rows ["horizon", "limit"] 135 := by
      refine' St.defT_of KX G ?ya ?yl ?yc ?yk ?yb
      (case ya => k_is); (case yl => k_is); (case yc => k_is); (case yk => k_is); (case yb => exact fun _ _ _ _ _ _ us hl => match us, hl with | [_, _], _ => rfl)
    have f_new_rows : St.DefB (St.kOf KX) mg "new_rows" St.s_new_rows ["horizon"] := by
      refine' St.defB_of KX G ?ya ?yl ?yc ?yk ?yb
      (case ya => k_is); (case yl => k_is); (case yc => k_is); (case yk => k_is); (case yb => exact fun _ _ _ _ _ _ us hl => match us, hl with | [_], _ => rfl)
    have f_two_stage_rows : St.DefT (St.kOf KX) mg "two_stage_rows" St.s_two_stage_rows ["horizon", "first", "first_limit", "limit"] 149 := by
      refine' St.defT_of KX G ?ya ?yl ?yc ?yk ?yb
      (case ya => k_is); (case yl => k_is); (case yc => k_is); (case yk => k_is); (case yb => exact fun _ _ _ _ _ _ us hl => match us, hl with | [_, _, _, _], _ => rfl)
    have f_likelihood_rows : St.DefT (St.kOf KX) mg "likelihood_rows" St.s_likelihood_rows ["horizon", "chances", "bounds"] 156 := by
      refine' St.defT_of KX G ?ya ?yl ?yc ?yk ?yb
      (case ya => k_is); (case yl => k_is); (case yc => k_is); (case yk => k_is); (case yb => exact fun _ _ _ _ _ _ us hl => match us, hl with | [_, _, _], _ => rfl)
    have f_curtailed_decision : St.DefB (St.kOf KX) mg "curtailed_decision" St.s_curtailed_decision ["decision", "failure", "success"] := by
      refine' St.defB_of KX G ?ya ?yl ?yc ?yk ?yb
      (case ya => k_is); (case yl => k_is); (case yc => k_is); (case yk => k_is); (case yb => exact fun _ _ _ _ _ _ us hl => match us, hl with | [_, _, _], _ => rfl)
    have f_curtailed_rows : St.DefB (St.kOf KX) mg "curtailed_rows" St.s_curtailed_rows ["rows"] := by
      refine' St.defB_of KX G ?ya ?yl ?yc ?yk ?yb
      (case ya => k_is); (case yl => k_is); (case yc => k_is); (case yk => k_is); (case yb => exact fun _ _ _ _ _ _ us hl => match us, hl with | [_], _ => rfl)
    have f_next_weights : St.DefB (St.kOf KX) mg "next_weights" St.s_next_weights ["weights", "success", "failure"] := by
      refine' St.defB_of KX G ?ya ?yl ?yc ?yk ?yb
      (case ya => k_is); (case yl => k_is); (case yc => k_is); (case yk => k_is); (case yb => exact fun _ _ _ _ _ _ us hl => match us, hl with | [_, _, _], _ => rfl)
    have f_success_weights : St.DefB (St.kOf KX) mg "success_weights" St.s_success_weights ["p", "divisor", "most"] := by
      refine' St.defB_of KX G ?ya ?yl ?yc ?yk ?yb
      (case ya => k_is); (case yl => k_is); (case yc => k_is); (case yk => k_is); (case yb => exact fun _ _ _ _ _ _ us hl => match us, hl with | [_, _, _], _ => rfl)
    have f_rejecting : St.DefB (St.kOf KX) mg "rejecting" St.s_rejecting ["weights", "plan"] := by
      refine' St.defB_of KX G ?ya ?yl ?yc ?yk ?yb
      (case ya => k_is); (case yl => k_is); (case yc => k_is); (case yk => k_is); (case yb => exact fun _ _ _ _ _ _ us hl => match us, hl with | [_, _], _ => rfl)
    have f_first_stages : St.DefB (St.kOf KX) mg "first_stages" St.s_first_stages ["most"] := by
      refine' St.defB_of KX G ?ya ?yl ?yc ?yk ?yb
      (case ya => k_is); (case yl => k_is); (case yc => k_is); (case yk => k_is); (case yb => exact fun _ _ _ _ _ _ us hl => match us, hl with | [_], _ => rfl)
    have f_best_two_stage : St.DefB (St.kOf KX) mg "best_two_stage" St.s_best_two_stage ["chances", "bounds", "most"] := by
      refine' St.defB_of KX G ?ya ?yl ?yc ?yk ?yb
      (case ya => k_is); (case yl => k_is); (case yc => k_is); (case yk => k_is); (case yb => exact fun _ _ _ _ _ _ us hl => match us, hl with | [_, _, _], _ => rfl)
    have f_histories : St.DefB (St.kOf KX) mg "histories" St.s_histories ["used"] := by
      refine' St.defB_of KX G ?ya ?yl ?yc ?yk ?yb
      (case ya => k_is); (case yl => k_is); (case yc => k_is); (case yk => k_is); (case yb => exact fun _ _ _ _ _ _ us hl => match us, hl with | [_], _ => rfl)
    have f_rests : St.DefB (St.kOf KX) mg "rests" St.s_rests ["weight", "trials"] := by
      refine' St.defB_of KX G ?ya ?yl ?yc ?yk ?yb
      (case ya => k_is); (case yl => k_is); (case yc => k_is); (case yk => k_is); (case yb => exact fun _ _ _ _ _ _ us hl => match us, hl with | [_, _], _ => rfl)
    have f_first_values : St.DefB (St.kOf KX) mg "first_values" St.s_first_values ["trials", "treatments"] := by
      refine' St.defB_of KX G ?ya ?yl ?yc ?yk ?yb
      (case ya => k_is); (case yl => k_is); (case yc => k_is); (case yk => k_is); (case yb => exact fun _ _ _ _ _ _ us hl => match us, hl with | [_, _], _ => rfl)
    have f_successes : St.DefB (St.kOf KX) mg "successes" St.s_successes ["trials", "weights"] := by
      refine' St.defB_of KX G ?ya ?yl ?yc ?yk ?yb
      (case ya => k_is); (case yl => k_is); (case yc => k_is); (case yk => k_is); (case yb => exact fun _ _ _ _ _ _ us hl => match us, hl with | [_, _], _ => rfl)
    have f_next_counts : St.DefB (St.kOf KX) mg "next_counts" St.s_next_counts ["decisions", "counts"] := by
      refine' St.defB_of KX G ?ya ?yl ?yc ?yk ?yb
      (case ya => k_is); (case yl => k_is); (case yc => k_is); (case yk => k_is); (case yb => exact fun _ _ _ _ _ _ us hl => match us, hl with | [_, _], _ => rfl)
    have f_counts_behind : St.DefB (St.kOf KX) mg "counts_behind" St.s_counts_behind ["rows", "beginning"] := by
      refine' St.defB_of KX G ?ya ?yl ?yc ?yk ?yb
      (case ya => k_is); (case yl => k_is); (case yc => k_is); (case yk => k_is); (case yb => exact fun _ _ _ _ _ _ us hl => match us, hl with | [_, _], _ => rfl)
    have f_path_counts : St.DefB (St.kOf KX) mg "path_counts" St.s_path_counts ["rows"] := by
      refine' St.defB_of KX G ?ya ?yl ?yc ?yk ?yb
      (case ya => k_is); (case yl => k_is); (case yc => k_is); (case yk => k_is); (case yb => exact fun _ _ _ _ _ _ us hl => match us, hl with | [_], _ => rfl)
    have f_stops : St.DefB (St.kOf KX) mg "stops" St.s_stops ["rows"] := by
      refine' St.defB_of KX G ?ya ?yl ?yc ?yk ?yb
      (case ya => k_is); (case yl => k_is); (case yc => k_is); (case yk => k_is); (case yb => exact fun _ _ _ _ _ _ us hl => match us, hl with | [_], _ => rfl)
    have f_expected_total : St.DefB (St.kOf KX) mg "expected_total" St.s_expected_total ["rows", "p", "divisor", "worth"] := by
      refine' St.defB_of KX G ?ya ?yl ?yc ?yk ?yb
      (case ya => k_is); (case yl => k_is); (case yc => k_is); (case yk => k_is); (case yb => exact fun _ _ _ _ _ _ us hl => match us, hl with | [_, _, _, _], _ => rfl)
    have f_expected_value : St.DefB (St.kOf KX) mg "expected_value" St.s_expected_value ["rows", "p", "divisor", "worth"] := by
      refine' St.defB_of KX G ?ya ?yl ?yc ?yk ?yb
      (case ya => k_is); (case yl => k_is); (case yc => k_is); (case yk => k_is); (case yb => exact fun _ _ _ _ _ _ us hl => match us, hl with | [_, _, _, _], _ => rfl)
    have f_decision_chance : St.DefT (St.kOf KX) mg "decision_chance" St.s_decision_chance ["rows", "p", "divisor", "wanted"] 219 := by
      refine' St.defT_of KX G ?ya ?yl ?yc ?yk ?yb
      (case ya => k_is); (case yl => k_is); (case yc => k_is); (case yk => k_is); (case yb => exact fun _ _ _ _ _ _ us hl => match us, hl with | [_, _, _, _], _ => rfl)
    have f_expected_size : St.DefT (St.kOf KX) mg "expected_size" St.s_expected_size ["rows", "p", "divisor"] 226 := by
      refine' St.defT_of KX G ?ya ?yl ?yc ?yk ?yb
      (case ya => k_is); (case yl => k_is); (case yc => k_is); (case yk => k_is); (case yb => exact fun _ _ _ _ _ _ us hl => match us, hl with | [_, _, _], _ => rfl)
    have f_stop_chance : St.DefT (St.kOf KX) mg "stop_chance" St.s_stop_chance ["rows", "p", "divisor", "wanted"] 233 := by
      refine' St.defT_of KX G ?ya ?yl ?yc ?yk ?yb
      (case ya => k_is); (case yl => k_is); (case yc => k_is); (case yk => k_is); (case yb => exact fun _ _ _ _ _ _ us hl => match us, hl with | [_, _, _, _], _ => rfl)
    have f_unbiased_estimate : St.DefB (St.kOf KX) mg "unbiased_estimate" St.s_unbiased_estimate ["rows", "n", "s"] := by
      refine' St.defB_of KX G ?ya ?yl ?yc ?yk ?yb
      (case ya => k_is); (case yl => k_is); (case yc => k_is); (case yk => k_is); (case yb => exact fun _ _ _ _ _ _ us hl => match us, hl with | [_, _, _], _ => rfl)
    obtain ⟨d, hcalls, e_0, e_1, e_2, e_3, e_4, e_5, e_6, e_7, e_8, e_9, e_10, e_11, e_12, e_13, e_14, e_15, e_16, e_17, e_18, e_19, e_20⟩ : ∃ d, St.Con0 mg "CALLS" (.ref d) ∧ (∃ tp f, St.KDi (St.kOf KX) d (0 : Nat) (.ref tp) ∧ (∀ H, L2.SqT (St.kOf KX) H tp [.int (KxH.lenOf 0 : Nat), .ref f]) ∧ mg "answer_create" = some (.ref f)) ∧ (∃ tp f, St.KDi (St.kOf KX) d (1 : Nat) (.ref tp) ∧ (∀ H, L2.SqT (St.kOf KX) H tp [.int (KxH.lenOf 1 : Nat), .ref f]) ∧ mg "answer_set_decision" = some (.ref f)) ∧ (∃ tp f, St.KDi (St.kOf KX) d (2 : Nat) (.ref tp) ∧ (∀ H, L2.SqT (St.kOf KX) H tp [.int (KxH.lenOf 2 : Nat), .ref f]) ∧ mg "answer_single" = some (.ref f)) ∧ (∃ tp f, St.KDi (St.kOf KX) d (3 : Nat) (.ref tp) ∧ (∀ H, L2.SqT (St.kOf KX) H tp [.int (KxH.lenOf 3 : Nat), .ref f]) ∧ mg "answer_likelihood" = some (.ref f)) ∧ (∃ tp f, St.KDi (St.kOf KX) d (4 : Nat) (.ref tp) ∧ (∀ H, L2.SqT (St.kOf KX) H tp [.int (KxH.lenOf 4 : Nat), .ref f]) ∧ mg "answer_two_stage" = some (.ref f)) ∧ (∃ tp f, St.KDi (St.kOf KX) d (5 : Nat) (.ref tp) ∧ (∀ H, L2.SqT (St.kOf KX) H tp [.int (KxH.lenOf 5 : Nat), .ref f]) ∧ mg "answer_curtail" = some (.ref f)) ∧ (∃ tp f, St.KDi (St.kOf KX) d (6 : Nat) (.ref tp) ∧ (∀ H, L2.SqT (St.kOf KX) H tp [.int (KxH.lenOf 6 : Nat), .ref f]) ∧ mg "answer_optimal" = some (.ref f)) ∧ (∃ tp f, St.KDi (St.kOf KX) d (7 : Nat) (.ref tp) ∧ (∀ H, L2.SqT (St.kOf KX) H tp [.int (KxH.lenOf 7 : Nat), .ref f]) ∧ mg "answer_decision" = some (.ref f)) ∧ (∃ tp f, St.KDi (St.kOf KX) d (8 : Nat) (.ref tp) ∧ (∀ H, L2.SqT (St.kOf KX) H tp [.int (KxH.lenOf 8 : Nat), .ref f]) ∧ mg "answer_paths" = some (.ref f)) ∧ (∃ tp f, St.KDi (St.kOf KX) d (9 : Nat) (.ref tp) ∧ (∀ H, L2.SqT (St.kOf KX) H tp [.int (KxH.lenOf 9 : Nat), .ref f]) ∧ mg "answer_stop_count" = some (.ref f)) ∧ (∃ tp f, St.KDi (St.kOf KX) d (10 : Nat) (.ref tp) ∧ (∀ H, L2.SqT (St.kOf KX) H tp [.int (KxH.lenOf 10 : Nat), .ref f]) ∧ mg "answer_acceptance" = some (.ref f)) ∧ (∃ tp f, St.KDi (St.kOf KX) d (11 : Nat) (.ref tp) ∧ (∀ H, L2.SqT (St.kOf KX) H tp [.int (KxH.lenOf 11 : Nat), .ref f]) ∧ mg "answer_expected_size" = some (.ref f)) ∧ (∃ tp f, St.KDi (St.kOf KX) d (12 : Nat) (.ref tp) ∧ (∀ H, L2.SqT (St.kOf KX) H tp [.int (KxH.lenOf 12 : Nat), .ref f]) ∧ mg "answer_stop_probability" = some (.ref f)) ∧ (∃ tp f, St.KDi (St.kOf KX) d (13 : Nat) (.ref tp) ∧ (∀ H, L2.SqT (St.kOf KX) H tp [.int (KxH.lenOf 13 : Nat), .ref f]) ∧ mg "answer_errors" = some (.ref f)) ∧ (∃ tp f, St.KDi (St.kOf KX) d (14 : Nat) (.ref tp) ∧ (∀ H, L2.SqT (St.kOf KX) H tp [.int (KxH.lenOf 14 : Nat), .ref f]) ∧ mg "answer_plan_cost" = some (.ref f)) ∧ (∃ tp f, St.KDi (St.kOf KX) d (15 : Nat) (.ref tp) ∧ (∀ H, L2.SqT (St.kOf KX) H tp [.int (KxH.lenOf 15 : Nat), .ref f]) ∧ mg "answer_least_cost" = some (.ref f)) ∧ (∃ tp f, St.KDi (St.kOf KX) d (16 : Nat) (.ref tp) ∧ (∀ H, L2.SqT (St.kOf KX) H tp [.int (KxH.lenOf 16 : Nat), .ref f]) ∧ mg "answer_unbiased" = some (.ref f)) ∧ (∃ tp f, St.KDi (St.kOf KX) d (17 : Nat) (.ref tp) ∧ (∀ H, L2.SqT (St.kOf KX) H tp [.int (KxH.lenOf 17 : Nat), .ref f]) ∧ mg "answer_best_two_stage" = some (.ref f)) ∧ (∃ tp f, St.KDi (St.kOf KX) d (18 : Nat) (.ref tp) ∧ (∀ H, L2.SqT (St.kOf KX) H tp [.int (KxH.lenOf 18 : Nat), .ref f]) ∧ mg "answer_successes" = some (.ref f)) ∧ (∃ tp f, St.KDi (St.kOf KX) d (19 : Nat) (.ref tp) ∧ (∀ H, L2.SqT (St.kOf KX) H tp [.int (KxH.lenOf 19 : Nat), .ref f]) ∧ mg "answer_row" = some (.ref f)) ∧ (∃ tp f, St.KDi (St.kOf KX) d (20 : Nat) (.ref tp) ∧ (∀ H, L2.SqT (St.kOf KX) H tp [.int (KxH.lenOf 20 : Nat), .ref f]) ∧ mg "answer_summary" = some (.ref f)) := by
      refine' ⟨?yd, St.conR_of KX G ?ya, ⟨?yp0, ?yf0, St.kdi_of KX ?yl0 ?yk0 ?yq0, St.sqt_of KX (n := 1) ?yt0, PySem.W.mg_of KX G ?ye0⟩, ⟨?yp1, ?yf1, St.kdi_of KX ?yl1 ?yk1 ?yq1, St.sqt_of KX (n := 3) ?yt1, PySem.W.mg_of KX G ?ye1⟩, ⟨?yp2, ?yf2, St.kdi_of KX ?yl2 ?yk2 ?yq2, St.sqt_of KX (n := 1) ?yt2, PySem.W.mg_of KX G ?ye2⟩, ⟨?yp3, ?yf3, St.kdi_of KX ?yl3 ?yk3 ?yq3, St.sqt_of KX (n := 7) ?yt3, PySem.W.mg_of KX G ?ye3⟩, ⟨?yp4, ?yf4, St.kdi_of KX ?yl4 ?yk4 ?yq4, St.sqt_of KX (n := 3) ?yt4, PySem.W.mg_of KX G ?ye4⟩, ⟨?yp5, ?yf5, St.kdi_of KX ?yl5 ?yk5 ?yq5, St.sqt_of KX (n := 0) ?yt5, PySem.W.mg_of KX G ?ye5⟩, ⟨?yp6, ?yf6, St.kdi_of KX ?yl6 ?yk6 ?yq6, St.sqt_of KX (n := 8) ?yt6, PySem.W.mg_of KX G ?ye6⟩, ⟨?yp7, ?yf7, St.kdi_of KX ?yl7 ?yk7 ?yq7, St.sqt_of KX (n := 2) ?yt7, PySem.W.mg_of KX G ?ye7⟩, ⟨?yp8, ?yf8, St.kdi_of KX ?yl8 ?yk8 ?yq8, St.sqt_of KX (n := 2) ?yt8, PySem.W.mg_of KX G ?ye8⟩, ⟨?yp9, ?yf9, St.kdi_of KX ?yl9 ?yk9 ?yq9, St.sqt_of KX (n := 0) ?yt9, PySem.W.mg_of KX G ?ye9⟩, ⟨?yp10, ?yf10, St.kdi_of KX ?yl10 ?yk10 ?yq10, St.sqt_of KX (n := 2) ?yt10, PySem.W.mg_of KX G ?ye10⟩, ⟨?yp11, ?yf11, St.kdi_of KX ?yl11 ?yk11 ?yq11, St.sqt_of KX (n := 2) ?yt11, PySem.W.mg_of KX G ?ye11⟩, ⟨?yp12, ?yf12, St.kdi_of KX ?yl12 ?yk12 ?yq12, St.sqt_of KX (n := 3) ?yt12, PySem.W.mg_of KX G ?ye12⟩, ⟨?yp13, ?yf13, St.kdi_of KX ?yl13 ?yk13 ?yq13, St.sqt_of KX (n := 3) ?yt13, PySem.W.mg_of KX G ?ye13⟩, ⟨?yp14, ?yf14, St.kdi_of KX ?yl14 ?yk14 ?yq14, St.sqt_of KX (n := 8) ?yt14, PySem.W.mg_of KX G ?ye14⟩, ⟨?yp15, ?yf15, St.kdi_of KX ?yl15 ?yk15 ?yq15, St.sqt_of KX (n := 8) ?yt15, PySem.W.mg_of KX G ?ye15⟩, ⟨?yp16, ?yf16, St.kdi_of KX ?yl16 ?yk16 ?yq16, St.sqt_of KX (n := 2) ?yt16, PySem.W.mg_of KX G ?ye16⟩, ⟨?yp17, ?yf17, St.kdi_of KX ?yl17 ?yk17 ?yq17, St.sqt_of KX (n := 8) ?yt17, PySem.W.mg_of KX G ?ye17⟩, ⟨?yp18, ?yf18, St.kdi_of KX ?yl18 ?yk18 ?yq18, St.sqt_of KX (n := 5) ?yt18, PySem.W.mg_of KX G ?ye18⟩, ⟨?yp19, ?yf19, St.kdi_of KX ?yl19 ?yk19 ?yq19, St.sqt_of KX (n := 1) ?yt19, PySem.W.mg_of KX G ?ye19⟩, ⟨?yp20, ?yf20, St.kdi_of KX ?yl20 ?yk20 ?yq20, St.sqt_of KX (n := 0) ?yt20, PySem.W.mg_of KX G ?ye20⟩⟩
      (case ya => k_is)
      (case yl0 => k_is); (case yk0 => kernel_rfl); (case yq0 => rfl); (case yt0 => k_is); (case ye0 => k_is)
      (case yl1 => k_is); (case yk1 => kernel_rfl); (case yq1 => rfl); (case yt1 => k_is); (case ye1 => k_is)
      (case yl2 => k_is); (case yk2 => kernel_rfl); (case yq2 => rfl); (case yt2 => k_is); (case ye2 => k_is)
      (case yl3 => k_is); (case yk3 => kernel_rfl); (case yq3 => rfl); (case yt3 => k_is); (case ye3 => k_is)
      (case yl4 => k_is); (case yk4 => kernel_rfl); (case yq4 => rfl); (case yt4 => k_is); (case ye4 => k_is)
      (case yl5 => k_is); (case yk5 => kernel_rfl); (case yq5 => rfl); (case yt5 => k_is); (case ye5 => k_is)
      (case yl6 => k_is); (case yk6 => kernel_rfl); (case yq6 => rfl); (case yt6 => k_is); (case ye6 => k_is)
      (case yl7 => k_is); (case yk7 => kernel_rfl); (case yq7 => rfl); (case yt7 => k_is); (case ye7 => k_is)
      (case yl8 => k_is); (case yk8 => kernel_rfl); (case yq8 => rfl); (case yt8 => k_is); (case ye8 => k_is)
      (case yl9 => k_is); (case yk9 => kernel_rfl); (case yq9 => rfl); (case yt9 => k_is); (case ye9 => k_is)
      (case yl10 => k_is); (case yk10 => kernel_rfl); (case yq10 => rfl); (case yt10 => k_is); (case ye10 => k_is)
      (case yl11 => k_is); (case yk11 => kernel_rfl); (case yq11 => rfl); (case yt11 => k_is); (case ye11 => k_is)
      (case yl12 => k_is); (case yk12 => kernel_rfl); (case yq12 => rfl); (case yt12 => k_is); (case ye12 => k_is)
      (case yl13 => k_is); (case yk13 => kernel_rfl); (case yq13 => rfl); (case yt13 => k_is); (case ye13 => k_is)
      (case yl14 => k_is); (case yk14 => kernel_rfl); (case yq14 => rfl); (case yt14 => k_is); (case ye14 => k_is)
      (case yl15 => k_is); (case yk15 => kernel_rfl); (case yq15 => rfl); (case yt15 => k_is); (case ye15 => k_is)
      (case yl16 => k_is); (case yk16 => kernel_rfl); (case yq16 => rfl); (case yt16 => k_is); (case ye16 => k_is)
      (case yl17 => k_is); (case yk17 => kernel_rfl); (case yq17 => rfl); (case yt17 => k_is); (case ye17 => k_is)
      (case yl18 => k_is); (case yk18 => kernel_rfl); (case yq18 => rfl); (case yt18 => k_is); (case ye18 => k_is)
      (case yl19 => k_is); (case yk19 => kernel_rfl); (case yq19 => rfl); (case yt19 => k_is); (case ye19 => k_is)
      (case yl20 => k_is); (case yk20 => kernel_rfl); (case yq20 => rfl); (case yt20 => k_is); (case ye20 => k_is)
    obtain ⟨fd, hb, F⟩ : ∃ fd, (∀ (s : Shared) (us : List Value), us.length = (["calls"] : List Str).length → BindsTo s fd ⟨us, []⟩ ((["calls"] : List Str).zip us)) ∧ C8.Fun (St.kOf KX) "answers" "answers" St.s_answers fa fd := by
      refine' St.ans_of KX G hmg ?ya ?yl ?yc ?yb
      (case ya => k_is); (case yl => k_is); (case yc => k_is); (case yb => exact fun _ _ _ _ _ _ us hl => match us, hl with | [_], _ => rfl)
    have top : St.Top (St.kOf KX) mg CI CP CS CT d 135 149 156 219 226 233 313 := ⟨gl, TCI, TCP, TCS, TCT, hcalls, i_Problem, i_Instance, m_Instance_horizon, m_Instance_has_point, m_Instance_replace_plan, i_Search, m_Search_keeps_bounds, m_Search_first_kept, m_Search_size, i_Treatments, m_Treatments_next_values, f_greatest_common_divisor, f_lowest_terms, f_powers, f_is_within, f_is_horizon, f_is_divisor, f_is_probability, f_are_two_probabilities, f_is_bound, f_are_two_bounds, f_are_two_stages, f_is_problem, f_is_stage_size, f_is_trial_count, f_are_weights, f_joint_weights, f_stopping, f_best_row, f_best_rows, f_optimal_rows, f_cost_scale, f_least_cost, f_plan_cost, f_answer_create, f_answer_set_decision, f_answer_single, f_answer_likelihood, f_answer_two_stage, f_answer_curtail, f_answer_optimal, f_answer_decision, f_answer_paths, f_answer_stop_count, f_answer_acceptance, f_answer_expected_size, f_answer_stop_probability, f_answer_errors, f_answer_plan_cost, f_answer_least_cost, f_answer_unbiased, f_answer_best_two_stage, f_answer_successes, f_answer_row, f_answer_summary, f_rows_by, f_last_decision, f_single_rows, f_new_rows, f_two_stage_rows, f_likelihood_rows, f_curtailed_decision, f_curtailed_rows, f_next_weights, f_success_weights, f_rejecting, f_first_stages, f_best_two_stage, f_histories, f_rests, f_first_values, f_successes, f_next_counts, f_counts_behind, f_path_counts, f_stops, f_expected_total, f_expected_value, f_decision_chance, f_expected_size, f_stop_chance, f_unbiased_estimate, e_0, e_1, e_2, e_3, e_4, e_5, e_6, e_7, e_8, e_9, e_10, e_11, e_12, e_13, e_14, e_15, e_16, e_17, e_18, e_19, e_20⟩
    exact ⟨fd, hb, fun base KB GB TB => top.walk F (by decide) (TB (135, 131) (by decide)) (TB (149, 145) (by decide)) (TB (156, 152) (by decide)) (TB (219, 215) (by decide)) (TB (226, 222) (by decide)) (TB (233, 229) (by decide)) (TB (313, 309) (by decide))⟩
  case S =>
    intro w H xs a hO hwi hask hx
    refine St.start (St.tabs_new fun p hp => ?_) hwi hask hx
    rcases List.mem_cons.mp hp with z | hp
    · subst z
      exact hO (135, 131) (by decide)
    rcases List.mem_cons.mp hp with z | hp
    · subst z
      exact hO (149, 145) (by decide)
    rcases List.mem_cons.mp hp with z | hp
    · subst z
      exact hO (156, 152) (by decide)
    rcases List.mem_cons.mp hp with z | hp
    · subst z
      exact hO (219, 215) (by decide)
    rcases List.mem_cons.mp hp with z | hp
    · subst z
      exact hO (226, 222) (by decide)
    rcases List.mem_cons.mp hp with z | hp
    · subst z
      exact hO (233, 229) (by decide)
    rcases List.mem_cons.mp hp with z | hp
    · subst z
      exact hO (313, 309) (by decide)
    cases hp
