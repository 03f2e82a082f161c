import PyProof.Rows.All
import Wide.All
import OpenK.AllK
import Wide.FinOn
import PyProof.EqAt
import PyProof.EqKinds
import PyProof.TupleCall
import Open.SpecLaws
import KE.OsGo
import HandS.ForSpec
import HandS.Comp
import HandS.Iter
import HandS.Walk
import HandS.Wide
import PySem.Challenge.RW_meanpairs_s06_greedy_averaging
set_option Elab.async false
set_option linter.all false
set_option maxRecDepth 100000
set_option maxHeartbeats 2000000
namespace MP
open Ks604 (Rational)


theorem make_pos {n : Int} {d : Nat} (h : 0 < d) : Rational.make n d = ⟨n / ((Nat.gcd n.natAbs d : Nat) : Int), d / Nat.gcd n.natAbs d⟩ := by
  unfold Rational.make
  rw [if_neg (by omega)]

theorem make_mul (n : Int) {d k : Nat} (hd : 0 < d) (hk : 0 < k) : Rational.make (n * (k : Int)) (d * k) = Rational.make n d := by
  have hdk : 0 < d * k := Nat.mul_pos hd hk
  rw [make_pos hdk, make_pos hd]
  have e1 : (n * (k : Int)).natAbs = n.natAbs * k := by rw [Int.natAbs_mul, Int.natAbs_natCast]
  rw [e1, Nat.gcd_mul_right]
  have hg : 0 < Nat.gcd n.natAbs d := Nat.gcd_pos_of_pos_right _ hd
  have e2 : n * (k : Int) / ((Nat.gcd n.natAbs d * k : Nat) : Int) = n / ((Nat.gcd n.natAbs d : Nat) : Int) := by
    rw [Int.natCast_mul]
    exact Int.mul_ediv_mul_of_pos_left _ _ (by omega)
  have e3 : d * k / (Nat.gcd n.natAbs d * k) = d / Nat.gcd n.natAbs d := Nat.mul_div_mul_right _ _ hk
  rw [e2, e3]

/-- what make gives, in products -/
theorem make_parts (n : Int) {d : Nat} (hd : 0 < d) : ∃ g : Nat, 0 < g ∧ (Rational.make n d).num * (g : Int) = n ∧ (Rational.make n d).den * g = d ∧ 0 < (Rational.make n d).den ∧ Nat.gcd (Rational.make n d).num.natAbs (Rational.make n d).den = 1 := by
  have hg : 0 < Nat.gcd n.natAbs d := Nat.gcd_pos_of_pos_right _ hd
  have hdv : ((Nat.gcd n.natAbs d : Nat) : Int) ∣ n := Int.ofNat_dvd_left.mpr (Nat.gcd_dvd_left _ _)
  refine ⟨Nat.gcd n.natAbs d, hg, ?_, ?_, ?_, ?_⟩
  · rw [make_pos hd]
    exact Int.ediv_mul_cancel hdv
  · rw [make_pos hd]
    exact Nat.div_mul_cancel (Nat.gcd_dvd_right _ _)
  · rw [make_pos hd]
    exact Nat.div_pos (Nat.le_of_dvd hd (Nat.gcd_dvd_right _ _)) hg
  · rw [make_pos hd]
    show Nat.gcd (n / ((Nat.gcd n.natAbs d : Nat) : Int)).natAbs (d / Nat.gcd n.natAbs d) = 1
    have e : (n / ((Nat.gcd n.natAbs d : Nat) : Int)).natAbs = n.natAbs / Nat.gcd n.natAbs d := by
      rw [Int.natAbs_ediv_of_dvd hdv, Int.natAbs_natCast]
    rw [e]
    exact Nat.gcd_div_gcd_div_gcd_of_pos_right hd

/-- the numerator ahead of reducing -/
def meanNum (a b : Rational) : Int := a.num * b.den + b.num * a.den
def meanDen (a b : Rational) : Nat := 2 * a.den * b.den
def mean (a b : Rational) : Rational := Rational.make (meanNum a b) (meanDen a b)

theorem half : Rational.make 1 2 = ⟨1, 2⟩ := by decide

theorem meanDen_pos {a b : Rational} (ha : 0 < a.den) (hb : 0 < b.den) : 0 < meanDen a b := Nat.mul_pos (Nat.mul_pos (by decide) ha) hb

theorem mean_is {a b : Rational} (ha : 0 < a.den) (hb : 0 < b.den) : (a + b) * Rational.make 1 2 = mean a b := by
  show Rational.mul (Rational.add a b) (Rational.make 1 2) = mean a b
  rw [half]
  unfold Rational.mul Rational.add mean meanNum meanDen
  generalize hn : a.num * b.den + b.num * a.den = n
  have hd : 0 < a.den * b.den := Nat.mul_pos ha hb
  rw [Nat.mul_assoc 2 a.den b.den]
  generalize a.den * b.den = d at hd
  obtain ⟨g, hg, e1, e2, e3, _⟩ := make_parts n hd
  show Rational.make ((Rational.make n d).num * 1) ((Rational.make n d).den * 2) = _
  rw [Int.mul_one, ← make_mul _ (Nat.mul_pos e3 (by decide : 0 < 2)) hg, e1]
  congr 1
  rw [Nat.mul_right_comm, e2, Nat.mul_comm]

/-- a value on its way: behind k averages its denominator divides 2 ^ k; it is from 0 to 99 -/
structure Fine (k : Nat) (r : Rational) : Prop where
  pos : 0 < r.den
  dv : r.den ∣ 2 ^ k
  lo : 0 ≤ r.num
  hi : r.num ≤ 99 * (r.den : Int)

theorem Fine.mono {k j : Nat} {r : Rational} (h : Fine k r) (hk : k ≤ j) : Fine j r := ⟨h.pos, Nat.dvd_trans h.dv (Nat.pow_dvd_pow 2 hk), h.lo, h.hi⟩
theorem Fine.den_le {k : Nat} {r : Rational} (h : Fine k r) : r.den ≤ 2 ^ k := Nat.le_of_dvd (Nat.pow_pos (by decide)) h.dv
theorem Fine.of {n : Int} (h0 : 0 ≤ n) (h1 : n ≤ 99) : Fine 0 ⟨n, 1⟩ := ⟨Nat.one_pos, Nat.dvd_refl 1, h0, by show n ≤ 99 * ((1 : Nat) : Int); omega⟩
theorem Fine.num_lt {k : Nat} {r : Rational} (h : Fine k r) : r.num.natAbs < 2 ^ (k + 7) := by
  have h1 := h.den_le
  have h2 := h.lo
  have h3 := h.hi
  rw [Nat.pow_add]
  have : (2 : Nat) ^ 7 = 128 := by decide
  rw [this]
  have h4 : 0 < r.den := h.pos
  omega
theorem Fine.den_lt {k : Nat} {r : Rational} (h : Fine k r) : ((r.den : Int)).natAbs < 2 ^ (k + 7) := by
  have h1 := h.den_le
  rw [Nat.pow_add, Int.natAbs_natCast]
  have : (2 : Nat) ^ 7 = 128 := by decide
  rw [this]
  have h4 : 0 < r.den := h.pos
  omega

theorem Fine.mean {k : Nat} {a b : Rational} (ha : Fine k a) (hb : Fine k b) : Fine (k + 1) (mean a b) := by
  have hD := meanDen_pos ha.pos hb.pos
  obtain ⟨g, hg, e1, e2, e3, e4⟩ := make_parts (meanNum a b) hD
  have hgI : (0 : Int) < (g : Int) := by omega
  have hnum : 0 ≤ meanNum a b := by
    unfold meanNum
    exact Int.add_nonneg (Int.mul_nonneg ha.lo (by omega)) (Int.mul_nonneg hb.lo (by omega))
  have hle : meanNum a b ≤ 99 * (meanDen a b : Int) := by
    unfold meanNum meanDen
    have p1 : a.num * (b.den : Int) ≤ 99 * (a.den : Int) * (b.den : Int) := Int.mul_le_mul_of_nonneg_right ha.hi (by omega)
    have p2 : b.num * (a.den : Int) ≤ 99 * (b.den : Int) * (a.den : Int) := Int.mul_le_mul_of_nonneg_right hb.hi (by omega)
    have p3 : (99 : Int) * (b.den : Int) * (a.den : Int) = 99 * (a.den : Int) * (b.den : Int) := by
      rw [Int.mul_assoc, Int.mul_comm (b.den : Int), ← Int.mul_assoc]
    have p4 : 99 * ((2 * a.den * b.den : Nat) : Int) = 2 * (99 * (a.den : Int) * (b.den : Int)) := by
      rw [Int.natCast_mul, Int.natCast_mul]
      show 99 * (2 * (a.den : Int) * (b.den : Int)) = 2 * (99 * (a.den : Int) * (b.den : Int))
      simp only [← Int.mul_assoc]
      rfl
    omega
  refine ⟨e3, ?_, ?_, ?_⟩
  · -- the denominator divides 2 ^ (k + 1)
    obtain ⟨x, hx⟩ := ha.dv
    obtain ⟨y, hy⟩ := hb.dv
    -- N = num a * x + num b * y, N * den = num * 2 ^ (k + 1)
    have key : (a.num * x + b.num * y) * (meanDen a b : Int) = meanNum a b * ((2 ^ (k + 1) : Nat) : Int) := by
      unfold meanNum meanDen
      have hx' : ((2 ^ k : Nat) : Int) = (a.den : Int) * (x : Int) := by rw [hx, Int.natCast_mul]
      have hy' : ((2 ^ k : Nat) : Int) = (b.den : Int) * (y : Int) := by rw [hy, Int.natCast_mul]
      rw [Nat.pow_succ, Int.natCast_mul, Int.natCast_mul, Int.natCast_mul, Int.add_mul, Int.add_mul]
      have q1 : a.num * (x : Int) * ((2 : Nat) * (a.den : Int) * (b.den : Int)) = a.num * (b.den : Int) * (((2 ^ k : Nat) : Int) * ((2 : Nat) : Int)) := by
        rw [hx']
        ac_rfl
      have q2 : b.num * (y : Int) * ((2 : Nat) * (a.den : Int) * (b.den : Int)) = b.num * (a.den : Int) * (((2 ^ k : Nat) : Int) * ((2 : Nat) : Int)) := by
        rw [hy']
        ac_rfl
      rw [q1, q2]
    have key2 : (a.num * x + b.num * y) * ((MP.mean a b).den : Int) = (MP.mean a b).num * ((2 ^ (k + 1) : Nat) : Int) := by
      have e1' : meanNum a b = (MP.mean a b).num * (g : Int) := e1.symm
      have e2' : (meanDen a b : Int) = ((MP.mean a b).den : Int) * (g : Int) := by
        rw [← Int.natCast_mul]
        exact congrArg _ e2.symm
      rw [e1', e2'] at key
      have key3 : ((a.num * x + b.num * y) * ((MP.mean a b).den : Int)) * (g : Int) = ((MP.mean a b).num * ((2 ^ (k + 1) : Nat) : Int)) * (g : Int) := by
        rw [Int.mul_assoc, key]
        ac_rfl
      exact Int.eq_of_mul_eq_mul_right (by omega) key3
    have hdvd : (MP.mean a b).den ∣ (MP.mean a b).num.natAbs * 2 ^ (k + 1) := by
      have : (((MP.mean a b).den : Nat) : Int) ∣ (MP.mean a b).num * ((2 ^ (k + 1) : Nat) : Int) := ⟨_, by rw [← key2, Int.mul_comm]⟩
      have h2 := Int.ofNat_dvd_left.mp this
      rw [Int.natAbs_mul, Int.natAbs_natCast] at h2
      exact h2
    have hco : Nat.Coprime (MP.mean a b).den (MP.mean a b).num.natAbs := by
      show Nat.gcd _ _ = 1
      rw [Nat.gcd_comm]
      exact e4
    exact hco.dvd_of_dvd_mul_left hdvd
  · have : 0 ≤ (MP.mean a b).num * (g : Int) := by
      rw [show (MP.mean a b).num * (g : Int) = meanNum a b from e1]
      exact hnum
    exact Int.nonneg_of_mul_nonneg_left this hgI
  · have h1 : (MP.mean a b).num * (g : Int) ≤ (99 * ((MP.mean a b).den : Int)) * (g : Int) := by
      rw [show (MP.mean a b).num * (g : Int) = meanNum a b from e1, Int.mul_assoc, ← Int.natCast_mul, show (MP.mean a b).den * g = meanDen a b from e2]
      exact hle
    exact Int.le_of_mul_le_mul_right h1 hgI

/-! the greatest common divisor, by the rest -/
theorem gcd_step (a : Int) {b : Int} (hb : 0 < b) : Int.gcd b (a.fmod b) = Int.gcd a b := by
  rw [Int.fmod_eq_emod_of_nonneg _ (by omega), Int.gcd_comm b, Int.emod_def, show a - b * (a / b) = a + b * (-(a / b)) by rw [Int.mul_neg, Int.sub_eq_add_neg], Int.gcd_add_mul_left_left]

/-! the flat list, two by two -/
def two : List Int → List (Int × Int)
  | i :: j :: r => (i, j) :: two r
  | _ => []
def natP (p : Int × Int) : Nat × Nat := (p.1.toNat, p.2.toNat)
def isIx (i c : Int) : Bool := decide (0 ≤ i ∧ i < c)
def pairOk (c : Int) (p : Int × Int) : Bool := !(decide (p.1 = p.2) || !isIx p.1 c || !isIx p.2 c)
def pairsOk (ns : List Int) (c : Int) : Bool := decide (ns.length % 2 = 0 ∧ ns.length ≤ 40) && (two ns).all (pairOk c)

theorem two_length : ∀ ns : List Int, (two ns).length = ns.length / 2
  | [] => rfl
  | [_] => by
    show 0 = 1 / 2
    decide
  | i :: j :: r => by
    show (two r).length + 1 = (r.length + 1 + 1) / 2
    rw [two_length r]
    omega
theorem two_get : ∀ (ns : List Int) (k : Nat) (x y : Int), ns[2 * k]? = some x → ns[2 * k + 1]? = some y → (two ns)[k]? = some (x, y)
  | [], _, _, _, h, _ => by simp at h
  | [_], 0, _, _, _, h => by simp at h
  | [_], k + 1, _, _, h, _ => by simp at h
  | i :: j :: r, 0, x, y, h, h2 => by
    have e1 : i = x := Option.some.inj h
    have e2 : j = y := Option.some.inj h2
    rw [← e1, ← e2]
    rfl
  | i :: j :: r, k + 1, x, y, h, h2 => two_get r k x y h h2
theorem two_mem : ∀ {ns : List Int} {p : Int × Int}, p ∈ two ns → p.1 ∈ ns ∧ p.2 ∈ ns
  | [], p, h => by cases h
  | [_], p, h => by cases h
  | i :: j :: r, p, h => by
    rcases List.mem_cons.mp h with e | h
    · subst e
      exact ⟨List.mem_cons_self, List.mem_cons_of_mem _ List.mem_cons_self⟩
    · obtain ⟨a, b⟩ := two_mem h
      exact ⟨List.mem_cons_of_mem _ (List.mem_cons_of_mem _ a), List.mem_cons_of_mem _ (List.mem_cons_of_mem _ b)⟩

theorem pairOk_nat {c : Nat} {i j : Int} (hi : 0 ≤ i) (hj : 0 ≤ j) : (c ≤ i.toNat ∨ c ≤ j.toNat ∨ i.toNat = j.toNat) ↔ pairOk c (i, j) = false := by
  unfold pairOk isIx
  simp only [Bool.not_eq_false', Bool.or_eq_true, decide_eq_true_eq, Bool.not_eq_true', decide_eq_false_iff_not]
  omega

theorem parse_is (c : Nat) : ∀ ns : List Int, (∀ x ∈ ns, 0 ≤ x) → Ks606.parsePairs c (ns.map Int.toNat) = if ns.length % 2 = 0 ∧ (two ns).all (pairOk c) = true then some ((two ns).map natP) else none
  | [], _ => rfl
  | [x], _ => by
    show none = _
    rw [if_neg]
    intro h
    have := h.1
    simp at this
  | i :: j :: r, h => by
    have hi : 0 ≤ i := h i List.mem_cons_self
    have hj : 0 ≤ j := h j (List.mem_cons_of_mem _ List.mem_cons_self)
    have ih := parse_is c r fun x hx => h x (List.mem_cons_of_mem _ (List.mem_cons_of_mem _ hx))
    show (if c ≤ i.toNat ∨ c ≤ j.toNat ∨ i.toNat = j.toNat then none else (Ks606.parsePairs c (r.map Int.toNat)).map fun pairs => (i.toNat, j.toNat) :: pairs) = _
    have hlen : (i :: j :: r).length % 2 = 0 ↔ r.length % 2 = 0 := by
      simp only [List.length_cons]
      omega
    have hall : (two (i :: j :: r)).all (pairOk c) = true ↔ (pairOk c (i, j) = true ∧ (two r).all (pairOk c) = true) := by
      show (pairOk c (i, j) && (two r).all (pairOk c)) = true ↔ _
      rw [Bool.and_eq_true]
    by_cases hp : pairOk c (i, j) = true
    · have hn : ¬ (c ≤ i.toNat ∨ c ≤ j.toNat ∨ i.toNat = j.toNat) := by
        rw [pairOk_nat hi hj, hp]
        exact Bool.noConfusion
      rw [if_neg hn, ih]
      by_cases hr : r.length % 2 = 0 ∧ (two r).all (pairOk c) = true
      · rw [if_pos hr, if_pos ⟨hlen.mpr hr.1, hall.mpr ⟨hp, hr.2⟩⟩]
        rfl
      · rw [if_neg hr, if_neg fun z => hr ⟨hlen.mp z.1, (hall.mp z.2).2⟩]
        rfl
    · have hp' : pairOk c (i, j) = false := by simpa using hp
      rw [if_pos ((pairOk_nat hi hj).mpr hp'), if_neg fun z => hp (hall.mp z.2).1]

/-- what withPairs does, by the flat list -/
theorem withPairs_is (c : Nat) {ns : List Int} (h : ∀ x ∈ ns, 0 ≤ x) (k : List (Nat × Nat) → Ks606.Result) :
    Ks606.withPairs c (ns.map Int.toNat) k = if pairsOk ns c = true then k ((two ns).map natP) else Ks606.number (-22) := by
  unfold Ks606.withPairs
  rw [parse_is c ns h]
  unfold pairsOk
  by_cases h1 : ns.length % 2 = 0 ∧ (two ns).all (pairOk c) = true
  · rw [if_pos h1]
    show (if 20 < ((two ns).map natP).length then Ks606.number (-22) else k ((two ns).map natP)) = _
    rw [List.length_map, two_length]
    by_cases h2 : ns.length ≤ 40
    · rw [if_neg (by omega), if_pos]
      rw [h1.2, Bool.and_true]
      exact decide_eq_true ⟨h1.1, h2⟩
    · rw [if_pos (by omega), if_neg]
      rw [h1.2, Bool.and_true]
      exact fun z => h2 (of_decide_eq_true z).2
  · rw [if_neg h1, if_neg]
    intro z
    rw [Bool.and_eq_true] at z
    exact h1 ⟨(of_decide_eq_true z.1).1, z.2⟩

/-! the values -/
abbrev Vals := List Rational
def ofI (n : Int) : Rational := ⟨n, 1⟩
def initial (ns : List Int) : Vals := ns.map ofI
def valuesOk (ns : List Int) : Bool := decide (1 ≤ ns.length ∧ ns.length ≤ 8) && ns.all fun x => decide (0 ≤ x ∧ x ≤ 99)

theorem map_ofNat {ns : List Int} (h : ∀ x ∈ ns, 0 ≤ x) : (ns.map Int.toNat).map Rational.ofNat = initial ns := by
  unfold initial
  rw [List.map_map]
  refine List.map_congr_left fun x hx => ?_
  show (⟨((x.toNat : Nat) : Int), 1⟩ : Rational) = ⟨x, 1⟩
  rw [Int.toNat_of_nonneg (h x hx)]

theorem withValues_is {ns : List Int} (h : ∀ x ∈ ns, 0 ≤ x) (k : Vals → Ks606.Result) :
    Ks606.withValues (ns.map Int.toNat) k = if valuesOk ns = true then k (initial ns) else Ks606.number (-22) := by
  unfold Ks606.withValues
  rw [map_ofNat h, List.length_map]
  have e : ((ns.map Int.toNat).any fun x => decide (99 < x)) = true ↔ (ns.all fun x => decide (0 ≤ x ∧ x ≤ 99)) = false := by
    rw [List.any_eq_true, ← Bool.not_eq_true, List.all_eq_true]
    constructor
    · rintro ⟨x, hx, hd⟩ z
      obtain ⟨y, hy, rfl⟩ := List.mem_map.mp hx
      have a := of_decide_eq_true hd
      have b := of_decide_eq_true (z y hy)
      omega
    · intro z
      apply Classical.byContradiction
      intro w
      apply z
      intro x hx
      refine decide_eq_true ⟨h x hx, ?_⟩
      apply Classical.byContradiction
      intro q
      exact w ⟨x.toNat, List.mem_map.mpr ⟨x, hx, rfl⟩, decide_eq_true (by omega)⟩
  unfold valuesOk
  by_cases h1 : 1 ≤ ns.length ∧ ns.length ≤ 8
  · cases h2 : ns.all fun x => decide (0 ≤ x ∧ x ≤ 99) with
    | true =>
      rw [if_neg, if_pos]
      · rw [Bool.and_true]
        exact decide_eq_true h1
      · rintro (z | z | z)
        · omega
        · have z : 8 < ns.length := z
          omega
        · rw [e, h2] at z
          cases z
    | false =>
      rw [if_pos (.inr (.inr (e.mpr h2))), if_neg]
      rw [Bool.and_false]
      exact Bool.noConfusion
  · rw [if_pos, if_neg]
    · rw [decide_eq_false h1, Bool.false_and]
      exact Bool.noConfusion
    · by_cases h2 : ns.length < 1
      · exact .inl h2
      · refine .inr (.inl ?_)
        show 8 < ns.length
        omega

/-! the averages -/
def FineAll (k : Nat) (vs : Vals) : Prop := ∀ r ∈ vs, Fine k r
def avg (vs : Vals) (p : Int × Int) : Vals := Ks606.average vs p.1.toNat p.2.toNat
def after (vs : Vals) (ps : List (Int × Int)) : Vals := ps.foldl avg vs
theorem after_is : ∀ (ps : List (Int × Int)) (vs : Vals), Ks606.averageAll vs (ps.map natP) = after vs ps
  | [], _ => rfl
  | p :: r, vs => after_is r (avg vs p)
theorem avg_length (vs : Vals) (p : Int × Int) : (avg vs p).length = vs.length := by
  show ((vs.set _ _).set _ _).length = _
  rw [List.length_set, List.length_set]
theorem after_length : ∀ (ps : List (Int × Int)) (vs : Vals), (after vs ps).length = vs.length
  | [], _ => rfl
  | p :: r, vs => (after_length r (avg vs p)).trans (avg_length vs p)
theorem avg_at {vs : Vals} {p : Int × Int} {a b : Rational} (ha : vs[p.1.toNat]? = some a) (hb : vs[p.2.toNat]? = some b) (pa : 0 < a.den) (pb : 0 < b.den) :
    avg vs p = (vs.set p.1.toNat (mean a b)).set p.2.toNat (mean a b) := by
  have e1 : Ks606.valueAt vs p.1.toNat = a := by
    unfold Ks606.valueAt
    rw [List.getD_eq_getElem?_getD, ha]
    rfl
  have e2 : Ks606.valueAt vs p.2.toNat = b := by
    unfold Ks606.valueAt
    rw [List.getD_eq_getElem?_getD, hb]
    rfl
  show (vs.set _ ((Ks606.valueAt vs p.1.toNat + Ks606.valueAt vs p.2.toNat) * Rational.make 1 2)).set _ ((Ks606.valueAt vs p.1.toNat + Ks606.valueAt vs p.2.toNat) * Rational.make 1 2) = _
  rw [e1, e2, mean_is pa pb]
theorem mem_set_or {α : Type} {l : List α} {i : Nat} {x y : α} (h : y ∈ l.set i x) : y ∈ l ∨ y = x := List.mem_or_eq_of_mem_set h
theorem avg_fine {k : Nat} {vs : Vals} {p : Int × Int} {a b : Rational} (h : FineAll k vs) (ha : vs[p.1.toNat]? = some a) (hb : vs[p.2.toNat]? = some b) : FineAll (k + 1) (avg vs p) := by
  have fa := h a (List.mem_of_getElem? ha)
  have fb := h b (List.mem_of_getElem? hb)
  rw [avg_at ha hb fa.pos fb.pos]
  intro r hr
  rcases mem_set_or hr with hr | rfl
  · rcases mem_set_or hr with hr | rfl
    · exact (h r hr).mono (Nat.le_succ _)
    · exact Fine.mean fa fb
  · exact Fine.mean fa fb
theorem initial_fine {ns : List Int} (h : valuesOk ns = true) : FineAll 0 (initial ns) := by
  unfold valuesOk at h
  rw [Bool.and_eq_true, List.all_eq_true] at h
  intro r hr
  obtain ⟨x, hx, rfl⟩ := List.mem_map.mp hr
  have q := of_decide_eq_true (h.2 x hx)
  exact Fine.of q.1 q.2
/-- a pair that is allowed names two values -/
theorem pair_at {c : Nat} {ns : List Int} {p : Int × Int} (h : pairsOk ns c = true) (hp : p ∈ two ns) : 0 ≤ p.1 ∧ p.1 < c ∧ 0 ≤ p.2 ∧ p.2 < c := by
  unfold pairsOk at h
  rw [Bool.and_eq_true, List.all_eq_true] at h
  have q := h.2 p hp
  unfold pairOk isIx at q
  simp only [Bool.not_eq_true', Bool.or_eq_false_iff, decide_eq_false_iff_not, Bool.not_eq_false', decide_eq_true_eq] at q
  omega
theorem after_fine {c : Nat} : ∀ (ps : List (Int × Int)) (vs : Vals) (k : Nat), vs.length = c → FineAll k vs → (∀ p ∈ ps, 0 ≤ p.1 ∧ p.1 < c ∧ 0 ≤ p.2 ∧ p.2 < c) → FineAll (k + ps.length) (after vs ps)
  | [], _, _, _, h, _ => h
  | p :: r, vs, k, hl, h, hp => by
    have q := hp p List.mem_cons_self
    have l1 : p.1.toNat < vs.length := by omega
    have l2 : p.2.toNat < vs.length := by omega
    have h1 := avg_fine h (List.getElem?_eq_getElem l1) (List.getElem?_eq_getElem l2)
    have ih := after_fine r (avg vs p) (k + 1) (by rw [avg_length]; exact hl) h1 fun z hz => hp z (List.mem_cons_of_mem _ hz)
    rw [List.length_cons, show k + (r.length + 1) = k + 1 + r.length by omega]
    exact ih
theorem take_more {α : Type} : ∀ {l : List α} {i : Nat} {x : α}, l[i]? = some x → l.take (i + 1) = l.take i ++ [x]
  | [], i, x, h => by simp at h
  | a :: l, 0, x, h => by
    have e : a = x := Option.some.inj h
    subst e
    rfl
  | a :: l, i + 1, x, h => by
    have ih := take_more (l := l) (i := i) (x := x) h
    show a :: l.take (i + 1) = a :: l.take i ++ [x]
    rw [ih]
    rfl
theorem after_more {vs : Vals} {ps : List (Int × Int)} {i : Nat} {p : Int × Int} (h : ps[i]? = some p) : after vs (ps.take (i + 1)) = avg (after vs (ps.take i)) p := by
  unfold after
  rw [take_more h, List.foldl_append]
  rfl

/-! what is answered -/
def flat (vs : Vals) : List Int := vs.flatMap fun q => [q.num, (q.den : Int)]
def eq01 (vs : Vals) : Int := if Ks606.areEqual vs = true then 1 else 0
def applyM (ns ps : List Int) : List Int := if valuesOk ns = true ∧ pairsOk ps ns.length = true then eq01 (after (initial ns) (two ps)) :: flat (after (initial ns) (two ps)) else [-22]

theorem apply_is {ns ps : List Int} (hn : ∀ x ∈ ns, 0 ≤ x) (hp : ∀ x ∈ ps, 0 ≤ x) : PyKs606.apply_averages ns ps = applyM ns ps := by
  show Ks606Neutral.integers (Ks606.withValues (ns.map Int.toNat) _) = _
  rw [withValues_is hn]
  by_cases h1 : valuesOk ns = true
  · rw [if_pos h1]
    show Ks606Neutral.integers (Ks606.withPairs (initial ns).length (ps.map Int.toNat) _) = _
    rw [withPairs_is _ hp]
    have e : (initial ns).length = ns.length := List.length_map ..
    rw [e]
    by_cases h2 : pairsOk ps ns.length = true
    · have r : applyM ns ps = _ := if_pos ⟨h1, h2⟩
      rw [r, if_pos h2, after_is]
      rfl
    · have r : applyM ns ps = _ := if_neg fun z => h2 z.2
      rw [r, if_neg h2]
      rfl
  · have r : applyM ns ps = _ := if_neg fun z => h1 z.1
    rw [r, if_neg h1]
    rfl

def unit (c i : Int) : List Int := (List.range c.toNat).map fun (j : Nat) => if (j : Int) = i then 1 else 0
def influenceM (c i : Int) (ps : List Int) : List Int :=
  if 1 ≤ c ∧ c ≤ 8 then (if 0 ≤ i ∧ i < c then (if pairsOk ps c = true then c :: flat (after (initial (unit c i)) (two ps)) else [-22]) else [-2]) else [-22]

theorem withCount_is {c : Int} (hc : 0 ≤ c) (k : Unit → Ks606.Result) : Ks606.withCount c.toNat k = if 1 ≤ c ∧ c ≤ 8 then k () else Ks606.number (-22) := by
  unfold Ks606.withCount
  by_cases h : 1 ≤ c ∧ c ≤ 8
  · have n : ¬ (c.toNat < 1 ∨ Ks606.maxValues < c.toNat) := by
      rintro (z | z)
      · omega
      · have z : 8 < c.toNat := z
        omega
    rw [if_pos h, if_neg n]
  · have n : c.toNat < 1 ∨ Ks606.maxValues < c.toNat := by
      by_cases h2 : c.toNat < 1
      · exact .inl h2
      · refine .inr ?_
        show 8 < c.toNat
        omega
    rw [if_neg h, if_pos n]
theorem unit_is {c i : Int} (hi : 0 ≤ i) : Ks606.unitValues c.toNat i.toNat = initial (unit c i) := by
  unfold Ks606.unitValues initial unit
  rw [List.map_map]
  refine List.map_congr_left fun x _ => ?_
  show (if x = i.toNat then Rational.one else Rational.zero) = ofI (if (x : Int) = i then 1 else 0)
  by_cases h : (x : Int) = i
  · rw [if_pos h, if_pos (by omega)]
    rfl
  · rw [if_neg h, if_neg (by omega)]
    rfl
theorem unit_length (c i : Int) : (unit c i).length = c.toNat := by
  unfold unit
  rw [List.length_map, List.length_range]
theorem unit_fine (c i : Int) : FineAll 0 (initial (unit c i)) := by
  intro r hr
  obtain ⟨x, hx, rfl⟩ := List.mem_map.mp hr
  obtain ⟨j, _, rfl⟩ := List.mem_map.mp hx
  refine Fine.of ?_ ?_
  · split <;> decide
  · split <;> decide
theorem influence_is {c i : Int} {ps : List Int} (hc : 0 ≤ c) (hi : 0 ≤ i) (hp : ∀ x ∈ ps, 0 ≤ x) : PyKs606.influence c i ps = influenceM c i ps := by
  show Ks606Neutral.integers (Ks606.withCount c.toNat _) = _
  rw [withCount_is hc]
  unfold influenceM
  by_cases h1 : 1 ≤ c ∧ c ≤ 8
  · rw [if_pos h1, if_pos h1]
    show Ks606Neutral.integers (if c.toNat ≤ i.toNat then Ks606.number (-2) else Ks606.withPairs c.toNat (ps.map Int.toNat) _) = _
    by_cases h2 : 0 ≤ i ∧ i < c
    · have n : ¬ c.toNat ≤ i.toNat := by omega
      rw [if_neg n, if_pos h2, withPairs_is _ hp, Int.toNat_of_nonneg hc]
      by_cases h3 : pairsOk ps c = true
      · rw [if_pos h3, if_pos h3]
        show ((c.toNat : Nat) : Int) :: flat (Ks606.averageAll (Ks606.unitValues c.toNat i.toNat) _) = _
        rw [after_is, unit_is hi, Int.toNat_of_nonneg hc]
      · rw [if_neg h3, if_neg h3]
        rfl
    · have n : c.toNat ≤ i.toNat := by omega
      rw [if_pos n, if_neg h2]
      rfl
  · rw [if_neg h1, if_neg h1]
    rfl

/-! operation 3 -/
def eqAt (c : Int) (ps : List Int) (j : Nat) : Int := eq01 (after (initial (unit c j)) (two ps))
def alwaysM (c : Int) (ps : List Int) : List Int :=
  if 1 ≤ c ∧ c ≤ 8 then (if pairsOk ps c = true then [if ((List.range c.toNat).all fun (j : Nat) => Ks606.areEqual (after (initial (unit c j)) (two ps))) = true then 1 else 0] else [-22]) else [-22]
theorem always_is {c : Int} {ps : List Int} (hc : 0 ≤ c) (hp : ∀ x ∈ ps, 0 ≤ x) : PyKs606.always_equalizes c ps = alwaysM c ps := by
  show Ks606Neutral.integers (Ks606.withCount c.toNat _) = _
  rw [withCount_is hc]
  unfold alwaysM
  by_cases h1 : 1 ≤ c ∧ c ≤ 8
  · rw [if_pos h1, if_pos h1]
    show Ks606Neutral.integers (Ks606.withPairs c.toNat (ps.map Int.toNat) _) = _
    rw [withPairs_is _ hp, Int.toNat_of_nonneg hc]
    by_cases h3 : pairsOk ps c = true
    · rw [if_pos h3, if_pos h3]
      have e : (fun i => Ks606.areEqual (Ks606.influence c.toNat i ((two ps).map natP))) = fun (j : Nat) => Ks606.areEqual (after (initial (unit c j)) (two ps)) := by
        funext j
        unfold Ks606.influence
        have z := unit_is (c := c) (i := (j : Int)) (by omega)
        rw [Int.toNat_natCast] at z
        rw [after_is, z]
      show [if ((List.range c.toNat).all fun i => Ks606.areEqual (Ks606.influence c.toNat i ((two ps).map natP))) = true then (1 : Int) else 0] = _
      rw [e]
    · rw [if_neg h3, if_neg h3]
      rfl
  · rw [if_neg h1, if_neg h1]
    rfl
theorem eqAt_le (c : Int) (ps : List Int) (j : Nat) : eqAt c ps j = 0 ∨ eqAt c ps j = 1 := by
  unfold eqAt eq01
  split
  · exact .inr rfl
  · exact .inl rfl
theorem min_is {c m : Int} {ps : List Int} (h1 : m ∈ (List.range c.toNat).map (eqAt c ps)) (h2 : ∀ y ∈ (List.range c.toNat).map (eqAt c ps), m ≤ y) :
    m = if ((List.range c.toNat).all fun (j : Nat) => Ks606.areEqual (after (initial (unit c j)) (two ps))) = true then 1 else 0 := by
  obtain ⟨j, hj, rfl⟩ := List.mem_map.mp h1
  by_cases h : ((List.range c.toNat).all fun (j : Nat) => Ks606.areEqual (after (initial (unit c j)) (two ps))) = true
  · rw [if_pos h]
    have z := List.all_eq_true.mp h j hj
    unfold eqAt eq01
    rw [if_pos z]
  · rw [if_neg h]
    have : ∃ (i : Nat), i ∈ List.range c.toNat ∧ ¬ Ks606.areEqual (after (initial (unit c i)) (two ps)) = true := by
      apply Classical.byContradiction
      intro n
      apply h
      rw [List.all_eq_true]
      intro i hi
      apply Classical.byContradiction
      intro z
      exact n ⟨i, hi, z⟩
    obtain ⟨i, hi, ni⟩ := this
    have le := h2 _ (List.mem_map.mpr ⟨i, hi, rfl⟩)
    have e0 : eqAt c ps i = 0 := by
      unfold eqAt eq01
      rw [if_neg ni]
    rw [e0] at le
    rcases eqAt_le c ps j with z | z
    · exact z
    · omega

/-! operation 4 -/
def planLayer (n d : Nat) : List Int := (List.range n).flatMap fun (i : Nat) => if i / d % 2 = 0 then [(i : Int), (i : Int) + (d : Int)] else []
def planTo (n : Nat) : Nat → List Int
  | 0 => []
  | k + 1 => planTo n k ++ planLayer n (2 ^ k)
theorem planLayer_more (i d : Nat) : planLayer (i + 1) d = planLayer i d ++ (if i / d % 2 = 0 then [(i : Int), (i : Int) + (d : Int)] else []) := by
  unfold planLayer
  rw [List.range_succ, List.flatMap_append, List.flatMap_cons, List.flatMap_nil, List.append_nil]
theorem planLayer_length (d : Nat) : ∀ i : Nat, (planLayer i d).length ≤ 2 * i
  | 0 => Nat.le_refl _
  | i + 1 => by
    rw [planLayer_more, List.length_append]
    have := planLayer_length d i
    split
    · show _ + 2 ≤ _
      omega
    · show _ + 0 ≤ _
      omega
theorem planTo_length (n : Nat) : ∀ k : Nat, (planTo n k).length ≤ 2 * n * k
  | 0 => Nat.zero_le _
  | k + 1 => by
    show (planTo n k ++ planLayer n (2 ^ k)).length ≤ _
    rw [List.length_append, Nat.mul_succ]
    have := planTo_length n k
    have := planLayer_length (2 ^ k) n
    omega
def hasPlan (c : Int) : Prop := c = 1 ∨ c = 2 ∨ c = 4 ∨ c = 8
instance (c : Int) : Decidable (hasPlan c) := inferInstanceAs (Decidable (c = 1 ∨ c = 2 ∨ c = 4 ∨ c = 8))
def planM (c : Int) : List Int := if 1 ≤ c ∧ c ≤ 8 then (if hasPlan c then PyKs606.plan c else [-33]) else [-22]
theorem plan_is {c : Int} (hc : 0 ≤ c) : PyKs606.plan c = planM c := by
  by_cases h : 1 ≤ c ∧ c ≤ 8
  · have : c = 1 ∨ c = 2 ∨ c = 3 ∨ c = 4 ∨ c = 5 ∨ c = 6 ∨ c = 7 ∨ c = 8 := by omega
    rcases this with rfl | rfl | rfl | rfl | rfl | rfl | rfl | rfl <;> decide
  · unfold planM
    rw [if_neg h]
    show Ks606Neutral.integers (Ks606.withCount c.toNat _) = _
    rw [withCount_is hc, if_neg h]
    rfl
theorem level_le {n k : Nat} (hn : n ≤ 8) (hk : k = 0 ∨ 2 ^ (k - 1) < n) : k ≤ 3 := by
  apply Classical.byContradiction
  intro h
  have h1 : (2 : Nat) ^ 3 ≤ 2 ^ (k - 1) := Nat.pow_le_pow_right (by decide) (by omega)
  have h2 : (2 : Nat) ^ 3 = 8 := by decide
  omega
theorem plan_end {n k : Nat} (hn : n = 1 ∨ n = 2 ∨ n = 4 ∨ n = 8) (h1 : n ≤ 2 ^ k) (h2 : k = 0 ∨ 2 ^ (k - 1) < n) : (((planTo n k).length / 2 : Nat) : Int) :: planTo n k = PyKs606.plan (n : Int) := by
  have h3 := level_le (show n ≤ 8 by omega) h2
  have hk : k = 0 ∨ k = 1 ∨ k = 2 ∨ k = 3 := by omega
  rcases hn with rfl | rfl | rfl | rfl <;> rcases hk with rfl | rfl | rfl | rfl <;> revert h1 h2 <;> decide +kernel


/-! operations 5 and 6: numbers of any size -/
structure Wid (n : Nat) (r : Rational) : Prop where
  pos : 0 < r.den
  num : r.num.natAbs < 2 ^ n
  den : ((r.den : Int)).natAbs < 2 ^ n
theorem Wid.mono {n m : Nat} {r : Rational} (h : Wid n r) (hm : n ≤ m) : Wid m r :=
  ⟨h.pos, Nat.lt_of_lt_of_le h.num (Nat.pow_le_pow_right (by decide) hm), Nat.lt_of_lt_of_le h.den (Nat.pow_le_pow_right (by decide) hm)⟩
theorem Wid.n_pos {n : Nat} {r : Rational} (h : Wid n r) : 0 < n := by
  have h1 := h.pos
  have h2 := h.den
  rw [Int.natAbs_natCast] at h2
  cases n with
  | zero =>
    have e : (2 : Nat) ^ 0 = 1 := rfl
    omega
  | succ n => exact Nat.succ_pos n
theorem Fine.wid {k : Nat} {r : Rational} (h : Fine k r) : Wid (k + 7) r := ⟨h.pos, h.num_lt, h.den_lt⟩
theorem wid_zero : Wid 1 ⟨0, 1⟩ := ⟨by decide, by decide, by decide⟩
theorem mul_lt_pow {i j : Int} {a b : Nat} (ha : i.natAbs < 2 ^ a) (hb : j.natAbs < 2 ^ b) : (i * j).natAbs < 2 ^ (a + b) := by
  rw [Int.natAbs_mul, Nat.pow_add]
  exact Nat.mul_lt_mul'' ha hb
theorem make_wid {n : Int} {d N : Nat} (hd : 0 < d) (hn : n.natAbs < 2 ^ N) (hm : ((d : Nat) : Int).natAbs < 2 ^ N) : Wid N (Rational.make n d) := by
  obtain ⟨g, hg, e1, e2, e3, _⟩ := make_parts n hd
  refine ⟨e3, ?_, ?_⟩
  · have : n.natAbs = (Rational.make n d).num.natAbs * g := by
      rw [← e1, Int.natAbs_mul, Int.natAbs_natCast, e1]
    have h2 : (Rational.make n d).num.natAbs * 1 ≤ (Rational.make n d).num.natAbs * g := Nat.mul_le_mul_left _ hg
    omega
  · have h2 : (Rational.make n d).den * 1 ≤ (Rational.make n d).den * g := Nat.mul_le_mul_left _ hg
    rw [Int.natAbs_natCast] at hm ⊢
    omega
def addNum (a b : Rational) : Int := a.num * b.den + b.num * a.den
def absI (i : Int) : Int := if i < 0 then -i else i
theorem absI_natAbs (i : Int) : (absI i).natAbs = i.natAbs := by
  unfold absI
  split <;> omega
def absNum (a b : Rational) : Int := absI (a.num * b.den - b.num * a.den)
def absd (a b : Rational) : Rational := Rational.make (absNum a b) (a.den * b.den)
theorem den_mul {n m : Nat} {a b : Rational} (ha : Wid n a) (hb : Wid m b) : (((a.den * b.den : Nat)) : Int).natAbs < 2 ^ (n + m) := by
  rw [Int.natCast_mul]
  exact mul_lt_pow ha.den hb.den
theorem two_pow_more (k : Nat) : 2 ^ (k + 1) = 2 ^ k + 2 ^ k := by
  rw [Nat.pow_succ]
  omega
theorem addNum_lt {n m : Nat} {a b : Rational} (ha : Wid n a) (hb : Wid m b) : (addNum a b).natAbs < 2 ^ (n + m + 1) := by
  have h1 := mul_lt_pow ha.num hb.den
  have h2 := mul_lt_pow hb.num ha.den
  rw [Nat.add_comm m n] at h2
  rw [two_pow_more]
  unfold addNum
  omega
theorem absNum_lt {n m : Nat} {a b : Rational} (ha : Wid n a) (hb : Wid m b) : (absNum a b).natAbs < 2 ^ (n + m + 1) := by
  have h1 := mul_lt_pow ha.num hb.den
  have h2 := mul_lt_pow hb.num ha.den
  rw [Nat.add_comm m n] at h2
  rw [two_pow_more]
  unfold absNum
  rw [absI_natAbs]
  omega
theorem add_wid {n m : Nat} {a b : Rational} (ha : Wid n a) (hb : Wid m b) : Wid (n + m + 1) (Rational.add a b) :=
  make_wid (Nat.mul_pos ha.pos hb.pos) (addNum_lt ha hb) (Nat.lt_of_lt_of_le (den_mul ha hb) (Nat.pow_le_pow_right (by decide) (Nat.le_succ _)))
theorem absd_wid {n m : Nat} {a b : Rational} (ha : Wid n a) (hb : Wid m b) : Wid (n + m + 1) (absd a b) :=
  make_wid (Nat.mul_pos ha.pos hb.pos) (absNum_lt ha hb) (Nat.lt_of_lt_of_le (den_mul ha hb) (Nat.pow_le_pow_right (by decide) (Nat.le_succ _)))
/-- the program's mean: the sum, then its half -/
theorem half_is {a b : Rational} (ha : 0 < a.den) (hb : 0 < b.den) : Rational.make (Rational.add a b).num (2 * (Rational.add a b).den) = mean a b := by
  rw [← mean_is ha hb]
  show _ = Rational.mul (Rational.add a b) (Rational.make 1 2)
  rw [half]
  unfold Rational.mul
  rw [Int.mul_one, Nat.mul_comm]
theorem mean_wid {n : Nat} {a b : Rational} (ha : Wid n a) (hb : Wid n b) : 0 < (mean a b).den := by
  have hD := meanDen_pos ha.pos hb.pos
  obtain ⟨_, _, _, _, e, _⟩ := make_parts (meanNum a b) hD
  exact e
/-- a square, as the program makes it -/
def sq (r : Rational) : Rational := ⟨r.num * r.num, r.den * r.den⟩
theorem sq_wid {n : Nat} {r : Rational} (h : Wid n r) : Wid (n + n) (sq r) := by
  refine ⟨Nat.mul_pos h.pos h.pos, mul_lt_pow h.num h.num, ?_⟩
  exact den_mul h h
theorem add_sq {t r : Rational} (ht : 0 < t.den) (hr : 0 < r.den) : Rational.add t (sq r) = t + r * r := by
  show _ = Rational.add t (Rational.mul r r)
  unfold Rational.mul
  have hD : 0 < r.den * r.den := Nat.mul_pos hr hr
  obtain ⟨g, hg, e1, e2, e3, _⟩ := make_parts (r.num * r.num) hD
  generalize hm : Rational.make (r.num * r.num) (r.den * r.den) = m at e1 e2 e3
  unfold Rational.add sq
  show Rational.make (t.num * ((r.den * r.den : Nat) : Int) + r.num * r.num * (t.den : Int)) (t.den * (r.den * r.den)) = _
  rw [← e1, ← e2, ← make_mul _ (Nat.mul_pos ht e3) hg]
  congr 1
  · rw [Int.natCast_mul, Int.add_mul]
    congr 1
    · ac_rfl
    · ac_rfl
  · ac_rfl
def sqs (vs : Vals) : Rational := vs.foldl (fun t r => Rational.add t (sq r)) ⟨0, 1⟩
theorem sqs_more {vs : Vals} {i : Nat} {r : Rational} (h : vs[i]? = some r) : sqs (vs.take (i + 1)) = Rational.add (sqs (vs.take i)) (sq r) := by
  unfold sqs
  rw [take_more h, List.foldl_append]
  rfl
theorem sqs_wid {n : Nat} : ∀ (vs : Vals) (t : Rational) (m : Nat), Wid m t → (∀ r ∈ vs, Wid n r) → Wid (m + vs.length * (2 * n + 1)) (vs.foldl (fun t r => Rational.add t (sq r)) t)
  | [], t, m, h, _ => by
    show Wid (m + 0 * (2 * n + 1)) t
    exact h.mono (by omega)
  | r :: l, t, m, h, hv => by
    have h1 := add_wid h (sq_wid (hv r List.mem_cons_self))
    have ih := sqs_wid l _ _ h1 fun z hz => hv z (List.mem_cons_of_mem _ hz)
    refine ih.mono ?_
    rw [List.length_cons, Nat.succ_mul l.length]
    omega
theorem sqs_is {n : Nat} : ∀ (vs : Vals) (t : Rational), 0 < t.den → (∀ r ∈ vs, Wid n r) → vs.foldl (fun t r => Rational.add t (sq r)) t = vs.foldl (fun total x => total + x * x) t
  | [], _, _, _ => rfl
  | r :: l, t, ht, hv => by
    have hr := hv r List.mem_cons_self
    have e := add_sq ht hr.pos
    have p : 0 < (t + r * r).den := by
      rw [← e]
      obtain ⟨_, _, _, _, z, _⟩ := make_parts (t.num * ((sq r).den : Int) + (sq r).num * (t.den : Int)) (Nat.mul_pos ht (show 0 < (sq r).den from Nat.mul_pos hr.pos hr.pos))
      exact z
    rw [List.foldl_cons, List.foldl_cons, e]
    exact sqs_is l _ p fun z hz => hv z (List.mem_cons_of_mem _ hz)
theorem sqs_spec {n : Nat} {vs : Vals} (h : ∀ r ∈ vs, Wid n r) : sqs vs = Ks606.sumOfSquares vs := sqs_is vs ⟨0, 1⟩ (by decide) h

/-! the smallest and the largest -/
def rle (a b : Rational) : Prop := a.num * (b.den : Int) ≤ b.num * (a.den : Int)
theorem rle_trans {a b c : Rational} (ha : 0 < a.den) (hb : 0 < b.den) (hc : 0 < c.den) (h1 : rle a b) (h2 : rle b c) : rle a c := by
  unfold rle at *
  have p1 : a.num * (b.den : Int) * (c.den : Int) ≤ b.num * (a.den : Int) * (c.den : Int) := Int.mul_le_mul_of_nonneg_right h1 (by omega)
  have p2 : b.num * (c.den : Int) * (a.den : Int) ≤ c.num * (b.den : Int) * (a.den : Int) := Int.mul_le_mul_of_nonneg_right h2 (by omega)
  have e1 : b.num * (a.den : Int) * (c.den : Int) = b.num * (c.den : Int) * (a.den : Int) := by ac_rfl
  have e2 : a.num * (b.den : Int) * (c.den : Int) = a.num * (c.den : Int) * (b.den : Int) := by ac_rfl
  have e3 : c.num * (b.den : Int) * (a.den : Int) = c.num * (a.den : Int) * (b.den : Int) := by ac_rfl
  refine Int.le_of_mul_le_mul_right (a := (b.den : Int)) ?_ (by omega)
  omega
def smin (best x : Rational) : Rational := if Rational.lt x best = true then x else best
def smax (best x : Rational) : Rational := if Rational.lt best x = true then x else best
theorem rle_refl (a : Rational) : rle a a := Int.le_refl _
theorem lt_rle {a b : Rational} (h : Rational.lt a b = true) : rle a b := by
  have := of_decide_eq_true h
  unfold rle
  omega
theorem rle_step {s l x : Rational} (hs : 0 < s.den) (hl : 0 < l.den) (hx : 0 < x.den) (h : rle s l) : rle (smin s x) (smax l x) := by
  unfold smin smax
  split
  · next h1 =>
    split
    · exact rle_refl x
    · exact rle_trans hx hs hl (lt_rle h1) h
  · split
    · next h2 => exact rle_trans hs hl hx h (lt_rle h2)
    · exact h
theorem smin_or (s x : Rational) : smin s x = s ∨ smin s x = x := by
  unfold smin
  split
  · exact .inr rfl
  · exact .inl rfl
theorem smax_or (s x : Rational) : smax s x = s ∨ smax s x = x := by
  unfold smax
  split
  · exact .inr rfl
  · exact .inl rfl
def sminAll (vs : Vals) (r0 : Rational) : Rational := vs.foldl smin r0
def smaxAll (vs : Vals) (r0 : Rational) : Rational := vs.foldl smax r0
theorem sminAll_more {vs : Vals} {i : Nat} {r r0 : Rational} (h : vs[i]? = some r) : sminAll (vs.take (i + 1)) r0 = smin (sminAll (vs.take i) r0) r := by
  unfold sminAll
  rw [take_more h, List.foldl_append]
  rfl
theorem smaxAll_more {vs : Vals} {i : Nat} {r r0 : Rational} (h : vs[i]? = some r) : smaxAll (vs.take (i + 1)) r0 = smax (smaxAll (vs.take i) r0) r := by
  unfold smaxAll
  rw [take_more h, List.foldl_append]
  rfl
/-- the program's difference of the smallest and the largest is the specification's -/
theorem spread_is {s l : Rational} (h : rle s l) : absd s l = l - s := by
  show _ = Rational.add l (Rational.neg s)
  unfold absd absNum Rational.add Rational.neg
  have e : absI (s.num * (l.den : Int) - l.num * (s.den : Int)) = l.num * (s.den : Int) + -s.num * (l.den : Int) := by
    unfold rle at h
    unfold absI
    rw [Int.neg_mul]
    split <;> omega
  rw [e, Nat.mul_comm]
def spreadM (ns ps : List Int) : List Int :=
  if valuesOk ns = true ∧ pairsOk ps ns.length = true then 0 :: flat [Ks606.largest (after (initial ns) (two ps)) - Ks606.smallest (after (initial ns) (two ps)), Ks606.sumOfSquares (after (initial ns) (two ps))] else [-22]
theorem spread_law {ns ps : List Int} (hn : ∀ x ∈ ns, 0 ≤ x) (hp : ∀ x ∈ ps, 0 ≤ x) : PyKs606.spread ns ps = spreadM ns ps := by
  show Ks606Neutral.integers (Ks606.withValues (ns.map Int.toNat) _) = _
  rw [withValues_is hn]
  by_cases h1 : valuesOk ns = true
  · rw [if_pos h1]
    show Ks606Neutral.integers (Ks606.withPairs (initial ns).length (ps.map Int.toNat) _) = _
    rw [withPairs_is _ hp]
    have e : (initial ns).length = ns.length := List.length_map ..
    rw [e]
    by_cases h2 : pairsOk ps ns.length = true
    · have r : spreadM ns ps = _ := if_pos ⟨h1, h2⟩
      rw [r, if_pos h2, after_is]
      rfl
    · have r : spreadM ns ps = _ := if_neg fun z => h2 z.2
      rw [r, if_neg h2]
      rfl
  · have r : spreadM ns ps = _ := if_neg fun z => h1 z.1
    rw [r, if_neg h1]
    rfl

/-! the best pair -/
theorem difference_is {vs : Vals} {p : Nat × Nat} {a b : Rational} (ha : vs[p.1]? = some a) (hb : vs[p.2]? = some b) (pa : 0 < a.den) (pb : 0 < b.den) : Ks606.difference vs p = absd a b := by
  have e1 : Ks606.valueAt vs p.1 = a := by
    unfold Ks606.valueAt
    rw [List.getD_eq_getElem?_getD, ha]
    rfl
  have e2 : Ks606.valueAt vs p.2 = b := by
    unfold Ks606.valueAt
    rw [List.getD_eq_getElem?_getD, hb]
    rfl
  have hD : 0 < a.den * b.den := Nat.mul_pos pa pb
  show (if Rational.lt (Ks606.valueAt vs p.1 - Ks606.valueAt vs p.2) Rational.zero then Rational.zero - (Ks606.valueAt vs p.1 - Ks606.valueAt vs p.2) else (Ks606.valueAt vs p.1 - Ks606.valueAt vs p.2)) = _
  rw [e1, e2]
  have es : a - b = Rational.make (a.num * (b.den : Int) - b.num * (a.den : Int)) (a.den * b.den) := by
    show Rational.make (a.num * (b.den : Int) + -b.num * (a.den : Int)) (a.den * b.den) = _
    rw [Int.neg_mul]
    rfl
  rw [es]
  unfold absd absNum
  generalize a.num * (b.den : Int) - b.num * (a.den : Int) = n
  generalize a.den * b.den = d at hD
  obtain ⟨g, hg, f1, f2, f3, _⟩ := make_parts n hD
  generalize hm : Rational.make n d = m at f1 f2 f3
  have hgI : (0 : Int) < (g : Int) := by omega
  have lt0 : Rational.lt m Rational.zero = decide (n < 0) := by
    show decide (m.num * ((1 : Nat) : Int) < 0 * (m.den : Int)) = _
    rw [Bool.eq_iff_iff, decide_eq_true_eq, decide_eq_true_eq]
    constructor
    · intro h
      have h : m.num < 0 := by omega
      rw [← f1]
      exact Int.mul_neg_of_neg_of_pos h hgI
    · intro h
      apply Classical.byContradiction
      intro z
      have z : 0 ≤ m.num := by omega
      have := Int.mul_nonneg z (Int.le_of_lt hgI)
      omega
  rw [lt0]
  by_cases hn : n < 0
  · rw [if_pos (decide_eq_true hn)]
    unfold absI
    rw [if_pos hn]
    show Rational.make (0 * (m.den : Int) + -m.num * ((1 : Nat) : Int)) (1 * m.den) = _
    rw [← f1, ← f2, ← Int.neg_mul, make_mul _ f3 hg, Nat.one_mul]
    congr 1
    omega
  · rw [if_neg (fun z => hn (of_decide_eq_true z))]
    unfold absI
    rw [if_neg hn, hm]
def bo (vs : Vals) : Option (Nat × Nat) → Nat × Nat → Option (Nat × Nat)
  | none, p => some p
  | some q, p => if Rational.lt (Ks606.difference vs q) (Ks606.difference vs p) = true then some p else some q
def bestOf (vs : Vals) (ps : List (Nat × Nat)) : Option (Nat × Nat) := ps.foldl (bo vs) none
theorem bo_some (vs : Vals) : ∀ (ps : List (Nat × Nat)) (q : Nat × Nat), ps.foldl (bo vs) (some q) = some (ps.foldl (fun best pair => if Rational.lt (Ks606.difference vs best) (Ks606.difference vs pair) then pair else best) q)
  | [], _ => rfl
  | p :: r, q => by
    rw [List.foldl_cons, List.foldl_cons]
    have e : bo vs (some q) p = some (if Rational.lt (Ks606.difference vs q) (Ks606.difference vs p) then p else q) := by
      show (if Rational.lt (Ks606.difference vs q) (Ks606.difference vs p) = true then some p else some q) = _
      split
      · rfl
      · rfl
    rw [e]
    exact bo_some vs r _
theorem best_is (vs : Vals) : Ks606.bestPair vs = bestOf vs (Ks606.allPairs vs.length) := by
  unfold Ks606.bestPair bestOf
  split
  · next h =>
    rw [h]
    rfl
  · next first rest h =>
    rw [h]
    exact (bo_some vs rest first).symm
def rowP (n i : Nat) : List (Nat × Nat) := (List.range (n - (i + 1))).map fun k => (i, i + 1 + k)
def allTo (n i : Nat) : List (Nat × Nat) := (List.range i).flatMap (rowP n)
theorem allTo_more (n i : Nat) : allTo n (i + 1) = allTo n i ++ rowP n i := by
  unfold allTo
  rw [List.range_succ, List.flatMap_append, List.flatMap_cons, List.flatMap_nil, List.append_nil]
theorem rowP_length (n i : Nat) : (rowP n i).length = n - (i + 1) := by
  unfold rowP
  rw [List.length_map, List.length_range]
theorem rowP_get {n i k : Nat} (h : k < n - (i + 1)) : (rowP n i)[k]? = some (i, i + 1 + k) := by
  unfold rowP
  rw [List.getElem?_map, List.getElem?_range h]
  rfl
theorem allPairs_is {n : Nat} (h : n ≤ 8) : Ks606.allPairs n = allTo n n := by
  have : n = 0 ∨ n = 1 ∨ n = 2 ∨ n = 3 ∨ n = 4 ∨ n = 5 ∨ n = 6 ∨ n = 7 ∨ n = 8 := by omega
  rcases this with rfl | rfl | rfl | rfl | rfl | rfl | rfl | rfl | rfl <;> decide +kernel
theorem bestOf_more {vs : Vals} {ps : List (Nat × Nat)} (p : Nat × Nat) : bestOf vs (ps ++ [p]) = bo vs (bestOf vs ps) p := by
  unfold bestOf
  rw [List.foldl_append]
  rfl
theorem bo_mem {vs : Vals} {o : Option (Nat × Nat)} {p q : Nat × Nat} (h : bo vs o p = some q) : o = some q ∨ q = p := by
  cases o with
  | none => exact .inr (Option.some.inj h).symm
  | some z =>
    have h : (if Rational.lt (Ks606.difference vs z) (Ks606.difference vs p) = true then some p else some z) = some q := h
    split at h
    · exact .inr (Option.some.inj h).symm
    · exact .inl h
theorem foldl_bo_mem {vs : Vals} : ∀ (ps : List (Nat × Nat)) (o : Option (Nat × Nat)) (q : Nat × Nat), ps.foldl (bo vs) o = some q → o = some q ∨ q ∈ ps
  | [], _, _, h => .inl h
  | p :: r, o, q, h => by
    rw [List.foldl_cons] at h
    rcases foldl_bo_mem r _ q h with e | e
    · rcases bo_mem e with e | e
      · exact .inl e
      · exact .inr (e ▸ List.mem_cons_self)
    · exact .inr (List.mem_cons_of_mem _ e)
theorem best_range {vs : Vals} {p : Nat × Nat} (h : Ks606.bestPair vs = some p) : p.1 < p.2 ∧ p.2 < vs.length := by
  rw [best_is] at h
  rcases foldl_bo_mem _ _ _ h with e | e
  · cases e
  · unfold Ks606.allPairs at e
    obtain ⟨i, hi, e⟩ := List.mem_flatMap.mp e
    obtain ⟨j, hj, rfl⟩ := List.mem_map.mp e
    obtain ⟨hj, hd⟩ := List.mem_filter.mp hj
    exact ⟨of_decide_eq_true hd, List.mem_range.mp hj⟩
def bestI : Option (Nat × Nat) → List Int
  | none => []
  | some p => [(p.1 : Int), (p.2 : Int)]
theorem bestI_length (o : Option (Nat × Nat)) : (bestI o).length ≤ 2 := by
  cases o with
  | none => exact Nat.zero_le _
  | some p => exact Nat.le_refl _
theorem bestI_ok {vs : Vals} : pairsOk (bestI (Ks606.bestPair vs)) vs.length = true := by
  cases h : Ks606.bestPair vs with
  | none => rfl
  | some p =>
    have q := best_range h
    unfold pairsOk
    rw [Bool.and_eq_true]
    refine ⟨decide_eq_true ⟨show 2 % 2 = 0 by decide, show 2 ≤ 40 by decide⟩, ?_⟩
    show (pairOk _ ((p.1 : Int), (p.2 : Int)) && true) = true
    rw [Bool.and_true]
    unfold pairOk isIx
    simp only [Bool.not_eq_true', Bool.or_eq_false_iff, decide_eq_false_iff_not, Bool.not_eq_false', decide_eq_true_eq]
    omega
def gstep (vs : Vals) : Vals := after vs (two (bestI (Ks606.bestPair vs)))
def gre : Nat → Vals → Vals
  | 0, vs => vs
  | n + 1, vs => gstep (gre n vs)
theorem gre_front : ∀ (n : Nat) (vs : Vals), gre (n + 1) vs = gre n (gstep vs)
  | 0, _ => rfl
  | n + 1, vs => by
    show gstep (gre (n + 1) vs) = gstep (gre n (gstep vs))
    rw [gre_front n vs]
theorem gre_still {vs : Vals} (h : gstep vs = vs) : ∀ n : Nat, gre n vs = vs
  | 0 => rfl
  | n + 1 => by
    show gstep (gre n vs) = vs
    rw [gre_still h n, h]
theorem gre_is : ∀ (n : Nat) (vs : Vals), Ks606.greedyAveraging n vs = gre n vs
  | 0, _ => rfl
  | n + 1, vs => by
    rw [gre_front]
    unfold Ks606.greedyAveraging
    split
    · next h =>
      have e : gstep vs = vs := by
        unfold gstep
        rw [h]
        rfl
      rw [e, gre_still e]
    · next p h =>
      have e : gstep vs = Ks606.average vs p.1 p.2 := by
        unfold gstep
        rw [h]
        rfl
      rw [e, gre_is n]
theorem gstep_length (vs : Vals) : (gstep vs).length = vs.length := after_length _ _
theorem gre_length : ∀ (n : Nat) (vs : Vals), (gre n vs).length = vs.length
  | 0, _ => rfl
  | n + 1, vs => (gstep_length _).trans (gre_length n vs)
theorem gstep_fine {k : Nat} {vs : Vals} (h : FineAll k vs) : FineAll (k + 1) (gstep vs) := by
  have z := after_fine (c := vs.length) (two (bestI (Ks606.bestPair vs))) vs k rfl h fun p hp => pair_at bestI_ok hp
  have l := two_length (bestI (Ks606.bestPair vs))
  have l2 := bestI_length (Ks606.bestPair vs)
  exact fun r hr => (z r hr).mono (by omega)
theorem gre_fine : ∀ (n : Nat) {k : Nat} {vs : Vals}, FineAll k vs → FineAll (k + n) (gre n vs)
  | 0, _, _, h => h
  | n + 1, _, _, h => gstep_fine (gre_fine n h)
def greedyM (st : Int) (ns : List Int) : List Int := if valuesOk ns = true ∧ (0 ≤ st ∧ st ≤ 12) then eq01 (gre st.toNat (initial ns)) :: flat (gre st.toNat (initial ns)) else [-22]
theorem greedy_law {st : Int} {ns : List Int} (hs : 0 ≤ st) (hn : ∀ x ∈ ns, 0 ≤ x) : PyKs606.greedy_averaging st ns = greedyM st ns := by
  show Ks606Neutral.integers (Ks606.withValues (ns.map Int.toNat) _) = _
  rw [withValues_is hn]
  by_cases h1 : valuesOk ns = true
  · rw [if_pos h1]
    show Ks606Neutral.integers (if 12 < st.toNat then Ks606.number (-22) else _) = _
    by_cases h2 : 0 ≤ st ∧ st ≤ 12
    · have r : greedyM st ns = _ := if_pos ⟨h1, h2⟩
      rw [r, if_neg (show ¬ 12 < st.toNat by omega), ← gre_is]
      rfl
    · have r : greedyM st ns = _ := if_neg fun z => h2 z.2
      rw [r, if_pos (show 12 < st.toNat by omega)]
      rfl
  · have r : greedyM st ns = _ := if_neg fun z => h1 z.1
    rw [r, if_neg h1]
    rfl


theorem all_pos {ns : List Int} (h : ns.all (PySem.W.Codec.inInt 0 4294967295) = true) : ∀ x ∈ ns, 0 ≤ x := fun x hx => (PySem.W.Codec.inInt_iff.mp (List.all_eq_true.mp h x hx)).1

end MP

namespace MP
open PySem PySem.Spec PyProof.Rows L2
open Ks604 (Rational)

/-! ## The text: each def by its place at the top -/
def top (i : Nat) : Stmt := PySem.Challenge.pw_meanpairs_s06_greedy_averaging.main.body.getD i (.Pass ⟨0, 0, 0, 0⟩)
abbrev s_greatest_common_divisor : Stmt := top 19
abbrev s_in_lowest_terms : Stmt := top 18
abbrev s_added : Stmt := top 15
abbrev s_absolute_difference : Stmt := top 16
abbrev s_is_less : Stmt := top 17
abbrev s_mean : Stmt := top 14
abbrev s_split_pairs : Stmt := top 9
abbrev s_is_count : Stmt := top 7
abbrev s_values_are_allowed : Stmt := top 6
abbrev s_rationals_from : Stmt := top 10
abbrev s_values_after : Stmt := top 11
abbrev s_equality_of : Stmt := top 20
abbrev s_numbers_from : Stmt := top 21
abbrev s_is_step_count : Stmt := top 8
abbrev s_best_pair : Stmt := top 13
abbrev s_values_after_greedy : Stmt := top 12
abbrev s_greedy_averaging : Stmt := top 5

/-! ## The heap: tuples of two whole numbers, lists of such -/
abbrev tupI (x y : Int) : HO := .tup [.int x, .int y]
/-- the addresses as hold the pairs ps, one each -/
structure PairedAt (H : Hp) (as : List Addr) (ps : List (Int × Int)) : Prop where
  len : as.length = ps.length
  get : ∀ (i : Nat) (p : Int × Int), ps[i]? = some p → ∃ a, as[i]? = some a ∧ H a = some (tupI p.1 p.2)
/-- at l a list of pairs -/
def PairsAt (H : Hp) (l : Addr) (ps : List (Int × Int)) : Prop := ∃ as : List Addr, H l = some (.lst (as.map V.ref)) ∧ PairedAt H as ps
/-- all tuples stand -/
def TSame (H H' : Hp) : Prop := ∀ b xs, H b = some (.tup xs) → H' b = some (.tup xs)
theorem TSame.refl (H : Hp) : TSame H H := fun _ _ h => h
theorem TSame.trans {H H1 H2 : Hp} (a : TSame H H1) (b : TSame H1 H2) : TSame H H2 := fun c o h => b c o (a c o h)
theorem tsame {H H' : Hp} (s : Same H H') : TSame H H' := fun b xs h => s b _ h
/-- a list that is written over -/
theorem tsame_lst {H : Hp} {l : Addr} {xs ys : List V} (h : H l = some (.lst xs)) : TSame H (upd H l (.lst ys)) := fun b zs e => by
  have nb : b ≠ l := ne_of e h (by intro z; cases z)
  rw [upd_ne nb]
  exact e
theorem same_upd {H : Hp} {p : Addr} {o : HO} (h : H p = none) : Same H (upd H p o) := fun b x e => by
  rw [upd_ne (ne_of_none e h)]
  exact e
/-- what was tracked in H stands: H' tracks it, and l was not tracked in H -/
theorem same_set {H H' : Hp} {l : Addr} {o : HO} (s : Same H H') (hl : H l = none) : Same H (upd H' l o) := fun b x e => by
  rw [upd_ne (ne_of_none e hl)]
  exact s b x e
/-- what is free afterwards was free ahead -/
theorem none_of {H H' : Hp} {a : Addr} (s : Same H H') (h : H' a = none) : H a = none := by
  cases e : H a with
  | none => rfl
  | some o =>
    rw [s a o e] at h
    cases h
theorem at0 {x y : V} : atI [x, y] 0 = some x := atI_nat (xs := [x, y]) (j := 0) rfl
theorem at1 {x y : V} : atI [x, y] 1 = some y := atI_nat (xs := [x, y]) (j := 1) rfl
theorem PairedAt.nil (H : Hp) : PairedAt H [] [] := ⟨rfl, fun i p h => by simp at h⟩
theorem PairedAt.mono {H H' : Hp} {as : List Addr} {ps : List (Int × Int)} (h : PairedAt H as ps) (s : TSame H H') : PairedAt H' as ps :=
  ⟨h.len, fun i p e => let ⟨a, e1, e2⟩ := h.get i p e; ⟨a, e1, s a _ e2⟩⟩
theorem PairsAt.mono {H H' : Hp} {l : Addr} {ps : List (Int × Int)} (h : PairsAt H l ps) (s : Same H H') : PairsAt H' l ps := let ⟨as, e, p⟩ := h; ⟨as, s _ _ e, p.mono fun b xs q => s b _ q⟩
theorem PairedAt.snoc {H : Hp} {as : List Addr} {ps : List (Int × Int)} {a : Addr} {p : Int × Int} (h : PairedAt H as ps) (e : H a = some (tupI p.1 p.2)) : PairedAt H (as ++ [a]) (ps ++ [p]) := by
  refine ⟨by rw [List.length_append, List.length_append, h.len]; rfl, fun i q hq => ?_⟩
  by_cases hi : i < ps.length
  · rw [List.getElem?_append_left hi] at hq
    obtain ⟨b, e1, e2⟩ := h.get i q hq
    exact ⟨b, by rw [List.getElem?_append_left (by rw [h.len]; exact hi)]; exact e1, e2⟩
  · rw [List.getElem?_append_right (by omega)] at hq
    have hz : i - ps.length = 0 := by
      apply Classical.byContradiction
      intro z
      rw [List.getElem?_eq_none (by simp; omega)] at hq
      cases hq
    rw [hz] at hq
    have eq : p = q := Option.some.inj hq
    subst eq
    refine ⟨a, ?_, e⟩
    rw [List.getElem?_append_right (by rw [h.len]; omega), h.len, hz]
    rfl
theorem PairedAt.set {H : Hp} {as : List Addr} {ps : List (Int × Int)} {a : Addr} {p : Int × Int} (h : PairedAt H as ps) (e : H a = some (tupI p.1 p.2)) (j : Nat) : PairedAt H (as.set j a) (ps.set j p) := by
  refine ⟨by rw [List.length_set, List.length_set, h.len], fun i q hq => ?_⟩
  by_cases hj : j = i
  · subst hj
    by_cases hl : j < ps.length
    · rw [List.getElem?_set_self hl] at hq
      have eq : p = q := Option.some.inj hq
      subst eq
      exact ⟨a, List.getElem?_set_self (by rw [h.len]; exact hl), e⟩
    · rw [List.getElem?_eq_none (by rw [List.length_set]; omega)] at hq
      cases hq
  · rw [List.getElem?_set_ne hj] at hq
    obtain ⟨b, e1, e2⟩ := h.get i q hq
    exact ⟨b, by rw [List.getElem?_set_ne hj]; exact e1, e2⟩
theorem map_ref_get {as : List Addr} {i : Nat} {a : Addr} (h : as[i]? = some a) : (as.map V.ref)[i]? = some (V.ref a) := by
  rw [List.getElem?_map, h]
  rfl
theorem map_int_get {ns : List Int} {i : Nat} {a : Int} (h : ns[i]? = some a) : (ns.map V.int)[i]? = some (V.int a) := by
  rw [List.getElem?_map, h]
  rfl
theorem of_map_get {α : Type} {f : α → V} {xs : List α} {i : Nat} {y : V} (h : (xs.map f)[i]? = some y) : ∃ x, xs[i]? = some x ∧ y = f x := by
  rw [List.getElem?_map] at h
  cases e : xs[i]? with
  | none =>
    rw [e] at h
    cases h
  | some z =>
    rw [e] at h
    exact ⟨z, rfl, (Option.some.inj h).symm⟩
theorem map_ref_set (as : List Addr) (j : Nat) (a : Addr) : (as.map V.ref).set j (.ref a) = (as.set j a).map V.ref := by
  rw [List.map_set]
/-- a rational number as two whole ones -/
def pr (r : Rational) : Int × Int := (r.num, (r.den : Int))
abbrev tupR (r : Rational) : HO := tupI r.num (r.den : Int)
abbrev RatsAt (H : Hp) (l : Addr) (vs : Vals) : Prop := PairsAt H l (vs.map pr)
theorem ixN_pos {n : Nat} {i : Int} (h0 : 0 ≤ i) (h1 : i < n) : ixN n i = some i.toNat := by
  unfold ixN
  rw [if_pos h0, if_pos h1]
theorem at_pos {α : Type} {xs : List α} {i : Int} {v : α} (h0 : 0 ≤ i) (h : xs[i.toNat]? = some v) : atI xs i = some v := by
  have e : i = (i.toNat : Int) := by omega
  rw [e]
  exact atI_nat h
theorem len_lt {α : Type} {xs : List α} {n : Nat} (h : xs.length ≤ n) (hn : n ≤ 1000) : xs.length < sizeLine := small1000 (Nat.le_trans h hn)
theorem rg2 : ∀ n : Nat, n < 65 → Builtin.Range.small 0 (n : Int) 2 = true ∧ Builtin.Range.rangeSize 0 (n : Int) 2 = (((n + 1) / 2 : Nat) : Int) := by decide +kernel

/-- a comprehension's turn: a new tuple at t, its address behind the list at D -/
theorem turn_tup {H H1 : Hp} {D t : Addr} {as : List Addr} {ps : List (Int × Int)} {x y : Int} (hD : H D = none) (sm : Same H H1) (hl : H1 D = some (.lst (as.map V.ref))) (pa : PairedAt H1 as ps) (ht : H1 t = none) :
    (upd H1 t (tupI x y)) D = some (.lst (as.map V.ref)) ∧ Same H (upd (upd H1 t (tupI x y)) D (.lst (as.map V.ref ++ [.ref t]))) ∧
      ∃ bs : List Addr, (upd (upd H1 t (tupI x y)) D (.lst (as.map V.ref ++ [.ref t]))) D = some (.lst (bs.map V.ref)) ∧ PairedAt (upd (upd H1 t (tupI x y)) D (.lst (as.map V.ref ++ [.ref t]))) bs (ps ++ [(x, y)]) := by
  have nt : D ≠ t := ne_of_none hl ht
  have e1 : (upd H1 t (tupI x y)) D = some (.lst (as.map V.ref)) := by
    rw [upd_ne nt]
    exact hl
  refine ⟨e1, same_set (sm.trans (same_upd ht)) hD, as ++ [t], ?_, ?_⟩
  · rw [upd_same, List.map_append]
    rfl
  · refine (pa.mono ((tsame (same_upd ht)).trans (tsame_lst e1))).snoc (a := t) (p := (x, y)) ?_
    rw [upd_ne nt.symm, upd_same]

/-! ## What stands at the top -/
structure Def (K : PySem.W.Frag) (mg : Str → Option Value) (name : Str) (st : Stmt) (ps : List Str) (f : Addr) (fd : FuncData) : Prop where
  F : Fun K name name st f fd
  b : Binds K fd ps []
  g : mg name = some (.ref f)
def IntAt (mg : Str → Option Value) (name : Str) (i : Int) : Prop := ∃ t, mg name = some (.int i t)
def TupAt (K : PySem.W.Frag) (mg : Str → Option Value) (name : Str) (xs : List V) : Prop := ∃ a, mg name = some (.ref a) ∧ ∀ H, SqT K H a xs

section
variable {P : Program} {w : World} {K : PySem.W.Frag} {mg : Str → Option Value} {base : Heap}

structure Txt (K : PySem.W.Frag) (mg : Str → Option Value) : Prop where
  b_len : mg "len" = none
  b_range : mg "range" = none
  b_all : mg "all" = none
  b_list : mg "list" = none
  b_abs : mg "abs" = none
  c_MOST_VALUES : IntAt mg "MOST_VALUES" (8)
  c_LARGEST_VALUE : IntAt mg "LARGEST_VALUE" (99)
  c_MOST_STEPS : IntAt mg "MOST_STEPS" (12)
  c_OUTSIDE_LIMITS : IntAt mg "OUTSIDE_LIMITS" (-22)
  d_greatest_common_divisor : ∃ f fd, Def K mg "greatest_common_divisor" s_greatest_common_divisor ["larger", "smaller"] f fd
  d_in_lowest_terms : ∃ f fd, Def K mg "in_lowest_terms" s_in_lowest_terms ["numerator", "denominator"] f fd
  d_added : ∃ f fd, Def K mg "added" s_added ["first", "second"] f fd
  d_absolute_difference : ∃ f fd, Def K mg "absolute_difference" s_absolute_difference ["first", "second"] f fd
  d_is_less : ∃ f fd, Def K mg "is_less" s_is_less ["first", "second"] f fd
  d_mean : ∃ f fd, Def K mg "mean" s_mean ["first", "second"] f fd
  d_split_pairs : ∃ f fd, Def K mg "split_pairs" s_split_pairs ["pairs"] f fd
  d_is_count : ∃ f fd, Def K mg "is_count" s_is_count ["count"] f fd
  d_values_are_allowed : ∃ f fd, Def K mg "values_are_allowed" s_values_are_allowed ["values"] f fd
  d_rationals_from : ∃ f fd, Def K mg "rationals_from" s_rationals_from ["integers"] f fd
  d_values_after : ∃ f fd, Def K mg "values_after" s_values_after ["rationals", "pairs"] f fd
  d_equality_of : ∃ f fd, Def K mg "equality_of" s_equality_of ["rationals"] f fd
  d_numbers_from : ∃ f fd, Def K mg "numbers_from" s_numbers_from ["rationals"] f fd
  d_is_step_count : ∃ f fd, Def K mg "is_step_count" s_is_step_count ["steps"] f fd
  d_best_pair : ∃ f fd, Def K mg "best_pair" s_best_pair ["rationals"] f fd
  d_values_after_greedy : ∃ f fd, Def K mg "values_after_greedy" s_values_after_greedy ["rationals", "steps"] f fd

/-! ### greatest_common_divisor -/
/-- two whole numbers, the second above 0 -/
def spGcd : Sp := fun vs H Q _ => ∃ a b : Int, vs = [.int a, .int b] ∧ 0 < b ∧ Q (.int ((Int.gcd a b : Nat) : Int)) H
/-- what falls in the loop -/
def gcdLeft (σ : L2.St) : Nat := match (σ[1]? : Option (Option V)) with
  | some (some (.int y)) => y.toNat
  | _ => 0
theorem iteNT {c A B : Prop} [Decidable c] (hc : ¬ c) (h : A) : if (!decide c) = true then A else B := by
  rw [decide_eq_false hc]
  exact iteT h

theorem sc_greatest_common_divisor : FnScope ["larger", "smaller", "rest"] ["larger", "smaller"] (defScope s_greatest_common_divisor) := ⟨rfl, rfl, rfl, by decide +kernel, rfl, by decide +kernel, by decide +kernel⟩
theorem ok_greatest_common_divisor {f : Addr} {fd : FuncData} {k : Nat} (D : Def K mg "greatest_common_divisor" s_greatest_common_divisor ["larger", "smaller"] f fd) (T : Txt K mg) : FnOk P w K mg base CX0 (k + 1) f fd ["larger", "smaller"] spGcd := by
  refine D.F.ok sc_greatest_common_divisor (fun vs H Q E h => ?_) (fun cdv A outer s H vs Q E hr h => ?_)
  · obtain ⟨a, b, rfl, _⟩ := h
    rfl
  · obtain ⟨a, b, rfl, hb, q⟩ := h
    refine ⟨_, pss_cons (ps_while PassesOwn.never (pt_cmpR op_ne (pv 1) pe_int (nomark _))
        (pss_cons (ps_set (i := 2) sc_greatest_common_divisor.nd rfl (.inl rfl) (pe_op op_modN (pv 0) (pv 1)))
        (pss_cons (ps_set (i := 0) sc_greatest_common_divisor.nd rfl (.inl rfl) (pv 1))
        (pss_one (ps_set (i := 1) sc_greatest_common_divisor.nd rfl (.inl rfl) (pv 2))))))
      (pss_one (ps_ret (pv 0))), ?_⟩
    refine while_by (fun σ H' => ∃ (x y : Int) (z : Option V), σ = [some (.int x), some (.int y), z] ∧ H' = H ∧ 0 ≤ y ∧ (y = 0 → 0 ≤ x) ∧ Int.gcd x y = Int.gcd a b) (fun σ _ => gcdLeft σ)
      ⟨a, b, none, rfl, rfl, by omega, fun z => by omega, rfl⟩ ?_ ?_
    · rintro σ H1 ⟨x, y, z, rfl, rfl, hy, hx, hg⟩
      refine ⟨.int y, rfl, rfl, _, rfl, ?_⟩
      by_cases hz : y = 0
      · subst hz
        refine iteNS rfl ⟨.int x, rfl, ?_⟩
        have e : ((Int.gcd a b : Nat) : Int) = x := by
          rw [← hg, Int.gcd_zero_right]
          have := hx rfl
          omega
        rw [← e]
        exact q
      · have hp : 0 < y := by omega
        refine iteNT (fun e => hz (V.int.inj e)) ?_
        refine ⟨_, rfl, _, rfl, x, y, rfl, rfl, hz, ⟨_, rfl, ⟨_, rfl, ⟨⟨y, x.fmod y, _, rfl, rfl, Int.fmod_nonneg_of_pos x hp, fun _ => hy, (gcd_step x hp).trans hg⟩, ?_⟩⟩⟩⟩
        show (x.fmod y).toNat < y.toNat
        have := Int.fmod_lt_of_pos x hp
        have := Int.fmod_nonneg_of_pos x hp
        omega
    · exact fun σ H Q Q' hq ⟨v, e, s, k, ek, q⟩ => ⟨v, e, s, k, ek, hq _ _ q⟩

/-! ### in_lowest_terms -/
/-- a numerator and a denominator; the rational number in lowest terms stands at a new place -/
def spLowest : Sp := fun vs H Q _ => ∃ (n : Int) (d : Nat) (N : Nat), vs = [.int n, .int ((d : Nat) : Int)] ∧ 0 < d ∧ 0 < N ∧ N ≤ 9000 ∧ ((d : Nat) : Int).natAbs < 2 ^ N ∧
  ∀ t, H t = none → Q (.ref t) (upd H t (tupR (Rational.make n d)))

theorem sc_in_lowest_terms : FnScope ["numerator", "denominator", "divisor"] ["numerator", "denominator"] (defScope s_in_lowest_terms) := ⟨rfl, rfl, rfl, by decide +kernel, rfl, by decide +kernel, by decide +kernel⟩
theorem ok_in_lowest_terms {f : Addr} {fd : FuncData} {k : Nat} (D : Def K mg "in_lowest_terms" s_in_lowest_terms ["numerator", "denominator"] f fd) (T : Txt K mg) : FnOk P w K mg base CX0 (k + 2) f fd ["numerator", "denominator"] spLowest := by
  refine D.F.ok sc_in_lowest_terms (fun vs H Q E h => ?_) (fun cdv A outer s H vs Q E hr h => ?_)
  · obtain ⟨n, d, N, rfl, _⟩ := h
    rfl
  · obtain ⟨n, d, N, rfl, hd, hN0, hN, wd, k1⟩ := h
    obtain ⟨fG, fdG, DG⟩ := T.d_greatest_common_divisor
    have GG : FnOk P w K mg base CX0 (k + 1) fG fdG ["larger", "smaller"] spGcd := ok_greatest_common_divisor DG T
    refine ⟨_, pss_cons (ps_set (i := 2) sc_in_lowest_terms.nd rfl (.inl rfl) (pe_call GG hr (by rfl) DG.g DG.F.kp DG.b .nil pass0 (pa_cons (pv 0) (pa_cons (pv 1) pa_nil))))
      (pss_one (ps_ret (pe_tup (pa_cons (pe_op op_fdivW (pv 0) (pv 2)) (pa_cons (pe_op op_fdivW (pv 1) (pv 2)) pa_nil))))), ?_⟩
    refine ⟨_, rfl, _, rfl, n, ((d : Nat) : Int), rfl, by omega, ?_⟩
    have hg : 0 < Nat.gcd n.natAbs d := Nat.gcd_pos_of_pos_right _ hd
    have hgle : Nat.gcd n.natAbs d ≤ d := Nat.gcd_le_right _ hd
    have wg : (((Nat.gcd n.natAbs d : Nat) : Int)).natAbs < 2 ^ N := by
      rw [Int.natAbs_natCast] at wd ⊢
      exact Nat.lt_of_le_of_lt hgle wd
    have wd2 : ∀ i : Int, CDivW i ((Int.gcd n ((d : Nat) : Int) : Nat) : Int) := fun i => wide_div (show (0 : Int) < ((Nat.gcd n.natAbs d : Nat) : Int) by omega) wg hN0 hN
    refine ⟨_, rfl, _, rfl, _, _, rfl, rfl, wd2 _, _, rfl, _, rfl, _, _, rfl, rfl, wd2 _, (by show 2 ≤ sizeLine; decide), fun t ht => ?_⟩
    have em : tupR (Rational.make n d) = .tup [.int (n / ((Nat.gcd n.natAbs d : Nat) : Int)), .int (((d : Nat) : Int) / ((Nat.gcd n.natAbs d : Nat) : Int))] := by
      have e2 : ((d : Nat) : Int) / ((Nat.gcd n.natAbs d : Nat) : Int) = ((d / Nat.gcd n.natAbs d : Nat) : Int) := (Int.natCast_ediv _ _).symm
      rw [e2, make_pos hd]
    have := k1 t ht
    rw [em] at this
    exact this

/-! ### added -/
/-- two rational numbers; their sum stands at a new place -/
def spAdded : Sp := fun vs H Q _ => ∃ (p q : Addr) (a b : Rational) (n : Nat), vs = [.ref p, .ref q] ∧ H p = some (tupR a) ∧ H q = some (tupR b) ∧ Wid n a ∧ Wid n b ∧ n ≤ 4000 ∧
  ∀ t, H t = none → Q (.ref t) (upd H t (tupR (Rational.add a b)))

theorem sc_added : FnScope ["first", "second"] ["first", "second"] (defScope s_added) := ⟨rfl, rfl, rfl, by decide +kernel, rfl, by decide +kernel, by decide +kernel⟩
theorem ok_added {f : Addr} {fd : FuncData} {k : Nat} (D : Def K mg "added" s_added ["first", "second"] f fd) (T : Txt K mg) : FnOk P w K mg base CX0 (k + 3) f fd ["first", "second"] spAdded := by
  refine D.F.ok sc_added (fun vs H Q E h => ?_) (fun cdv A outer s H vs Q E hr h => ?_)
  · obtain ⟨p, q, a, b, n, rfl, _⟩ := h
    rfl
  · obtain ⟨p, q, a, b, n, rfl, hp, hq, wa, wb, hn, k1⟩ := h
    obtain ⟨fL, fdL, DL⟩ := T.d_in_lowest_terms
    have GL : FnOk P w K mg base CX0 (k + 2) fL fdL ["numerator", "denominator"] spLowest := ok_in_lowest_terms DL T
    refine ⟨_, pss_one (ps_ret (pe_call GL hr (by rfl) DL.g DL.F.kp DL.b .nil pass0 (pa_cons (pe_op op_add (pe_op op_mulW (pe_ix ix_tup (pv 0) pe_int (fun _ _ => rfl)) (pe_ix ix_tup (pv 1) pe_int (fun _ _ => rfl))) (pe_op op_mulW (pe_ix ix_tup (pv 1) pe_int (fun _ _ => rfl)) (pe_ix ix_tup (pv 0) pe_int (fun _ _ => rfl)))) (pa_cons (pe_op op_mulW (pe_ix ix_tup (pv 0) pe_int (fun _ _ => rfl)) (pe_ix ix_tup (pv 1) pe_int (fun _ _ => rfl))) pa_nil)))), ?_⟩
    have n0 := wa.n_pos
    have nn : n + n ≤ 1000000 := by omega
    refine ⟨_, rfl, p, _, 0, _, rfl, rfl, SqT.of hp, at0, _, rfl, q, _, 1, _, rfl, rfl, SqT.of hq, at1, _, _, rfl, rfl, wide_mul wa.num wb.den n0 n0 nn, _, rfl, q, _, 0, _, rfl, rfl, SqT.of hq, at0, _, rfl, p, _, 1, _, rfl, rfl, SqT.of hp, at1, _, _, rfl, rfl, wide_mul wb.num wa.den n0 n0 nn, _, _, rfl, rfl, _, rfl, p, _, 1, _, rfl, rfl, SqT.of hp, at1, _, rfl, q, _, 1, _, rfl, rfl, SqT.of hq, at1, _, _, rfl, rfl, wide_mul wa.den wb.den n0 n0 nn, ?_⟩
    exact ⟨addNum a b, a.den * b.den, n + n, congrArg (fun z => [V.int (addNum a b), V.int z]) (Int.natCast_mul a.den b.den).symm, Nat.mul_pos wa.pos wb.pos, by omega, by omega, den_mul wa wb, fun t ht => k1 t ht⟩

/-! ### absolute_difference -/
/-- two rational numbers; how far they lie from each other stands at a new place -/
def spAbsd : Sp := fun vs H Q _ => ∃ (p q : Addr) (a b : Rational) (n : Nat), vs = [.ref p, .ref q] ∧ H p = some (tupR a) ∧ H q = some (tupR b) ∧ Wid n a ∧ Wid n b ∧ n ≤ 4000 ∧
  ∀ t, H t = none → Q (.ref t) (upd H t (tupR (absd a b)))

theorem sc_absolute_difference : FnScope ["first", "second"] ["first", "second"] (defScope s_absolute_difference) := ⟨rfl, rfl, rfl, by decide +kernel, rfl, by decide +kernel, by decide +kernel⟩
theorem ok_absolute_difference {f : Addr} {fd : FuncData} {k : Nat} (D : Def K mg "absolute_difference" s_absolute_difference ["first", "second"] f fd) (T : Txt K mg) : FnOk P w K mg base CX0 (k + 3) f fd ["first", "second"] spAbsd := by
  refine D.F.ok sc_absolute_difference (fun vs H Q E h => ?_) (fun cdv A outer s H vs Q E hr h => ?_)
  · obtain ⟨p, q, a, b, n, rfl, _⟩ := h
    rfl
  · obtain ⟨p, q, a, b, n, rfl, hp, hq, wa, wb, hn, k1⟩ := h
    obtain ⟨fL, fdL, DL⟩ := T.d_in_lowest_terms
    have GL : FnOk P w K mg base CX0 (k + 2) fL fdL ["numerator", "denominator"] spLowest := ok_in_lowest_terms DL T
    refine ⟨_, pss_one (ps_ret (pe_call GL hr (by rfl) DL.g DL.F.kp DL.b .nil pass0 (pa_cons (pe_callB call_abs (by rfl) T.b_abs (by decide +kernel) (pa_cons (pe_op op_sub (pe_op op_mulW (pe_ix ix_tup (pv 0) pe_int (fun _ _ => rfl)) (pe_ix ix_tup (pv 1) pe_int (fun _ _ => rfl))) (pe_op op_mulW (pe_ix ix_tup (pv 1) pe_int (fun _ _ => rfl)) (pe_ix ix_tup (pv 0) pe_int (fun _ _ => rfl)))) pa_nil)) (pa_cons (pe_op op_mulW (pe_ix ix_tup (pv 0) pe_int (fun _ _ => rfl)) (pe_ix ix_tup (pv 1) pe_int (fun _ _ => rfl))) pa_nil)))), ?_⟩
    have n0 := wa.n_pos
    have nn : n + n ≤ 1000000 := by omega
    refine ⟨_, rfl, p, _, 0, _, rfl, rfl, SqT.of hp, at0, _, rfl, q, _, 1, _, rfl, rfl, SqT.of hq, at1, _, _, rfl, rfl, wide_mul wa.num wb.den n0 n0 nn, _, rfl, q, _, 0, _, rfl, rfl, SqT.of hq, at0, _, rfl, p, _, 1, _, rfl, rfl, SqT.of hp, at1, _, _, rfl, rfl, wide_mul wb.num wa.den n0 n0 nn, _, _, rfl, rfl, _, rfl, _, rfl, p, _, 1, _, rfl, rfl, SqT.of hp, at1, _, rfl, q, _, 1, _, rfl, rfl, SqT.of hq, at1, _, _, rfl, rfl, wide_mul wa.den wb.den n0 n0 nn, ?_⟩
    exact ⟨absNum a b, a.den * b.den, n + n, congrArg (fun z => [V.int (absNum a b), V.int z]) (Int.natCast_mul a.den b.den).symm, Nat.mul_pos wa.pos wb.pos, by omega, by omega, den_mul wa wb, fun t ht => k1 t ht⟩

/-! ### is_less -/
/-- two rational numbers; whether the first is less -/
def spLess : Sp := fun vs H Q _ => ∃ (p q : Addr) (a b : Rational) (n : Nat), vs = [.ref p, .ref q] ∧ H p = some (tupR a) ∧ H q = some (tupR b) ∧ Wid n a ∧ Wid n b ∧ n ≤ 4000 ∧
  Q (.bl (Rational.lt a b)) H

theorem sc_is_less : FnScope ["first", "second"] ["first", "second"] (defScope s_is_less) := ⟨rfl, rfl, rfl, by decide +kernel, rfl, by decide +kernel, by decide +kernel⟩
theorem ok_is_less {f : Addr} {fd : FuncData} {k : Nat} (D : Def K mg "is_less" s_is_less ["first", "second"] f fd) (T : Txt K mg) : FnOk P w K mg base CX0 (k + 1) f fd ["first", "second"] spLess := by
  refine D.F.ok sc_is_less (fun vs H Q E h => ?_) (fun cdv A outer s H vs Q E hr h => ?_)
  · obtain ⟨p, q, a, b, n, rfl, _⟩ := h
    rfl
  · obtain ⟨p, q, a, b, n, rfl, hp, hq, wa, wb, hn, k1⟩ := h
    refine ⟨_, pss_one (ps_ret (pe_cmpR op_lt (pe_op op_mulW (pe_ix ix_tup (pv 0) pe_int (fun _ _ => rfl)) (pe_ix ix_tup (pv 1) pe_int (fun _ _ => rfl))) (pe_op op_mulW (pe_ix ix_tup (pv 1) pe_int (fun _ _ => rfl)) (pe_ix ix_tup (pv 0) pe_int (fun _ _ => rfl))) (nomark _))), ?_⟩
    have n0 := wa.n_pos
    have nn : n + n ≤ 1000000 := by omega
    exact ⟨_, rfl, p, _, 0, _, rfl, rfl, SqT.of hp, at0, _, rfl, q, _, 1, _, rfl, rfl, SqT.of hq, at1, _, _, rfl, rfl, wide_mul wa.num wb.den n0 n0 nn, _, rfl, q, _, 0, _, rfl, rfl, SqT.of hq, at0, _, rfl, p, _, 1, _, rfl, rfl, SqT.of hp, at1, _, _, rfl, rfl, wide_mul wb.num wa.den n0 n0 nn, _, _, rfl, rfl, k1⟩

/-! ### mean -/
/-- two rational numbers; their mean stands at a new place -/
def spMean : Sp := fun vs H Q _ => ∃ (p q : Addr) (a b : Rational) (n : Nat), vs = [.ref p, .ref q] ∧ H p = some (tupR a) ∧ H q = some (tupR b) ∧ Wid n a ∧ Wid n b ∧ n ≤ 2000 ∧
  ∀ H' t, Same H H' → H t = none → H' t = some (tupR (mean a b)) → Q (.ref t) H'

theorem sc_mean : FnScope ["first", "second", "total"] ["first", "second"] (defScope s_mean) := ⟨rfl, rfl, rfl, by decide +kernel, rfl, by decide +kernel, by decide +kernel⟩
theorem ok_mean {f : Addr} {fd : FuncData} {k : Nat} (D : Def K mg "mean" s_mean ["first", "second"] f fd) (T : Txt K mg) : FnOk P w K mg base CX0 (k + 4) f fd ["first", "second"] spMean := by
  refine D.F.ok sc_mean (fun vs H Q E h => ?_) (fun cdv A outer s H vs Q E hr h => ?_)
  · obtain ⟨p, q, a, b, n, rfl, _⟩ := h
    rfl
  · obtain ⟨p, q, a, b, n, rfl, hp, hq, wa, wb, hn, k1⟩ := h
    obtain ⟨fL, fdL, DL⟩ := T.d_in_lowest_terms
    obtain ⟨fA, fdA, DA⟩ := T.d_added
    have GL : FnOk P w K mg base CX0 (k + 3) fL fdL ["numerator", "denominator"] spLowest := ok_in_lowest_terms DL T
    have GA : FnOk P w K mg base CX0 (k + 3) fA fdA ["first", "second"] spAdded := ok_added DA T
    refine ⟨_, pss_cons (ps_set (i := 2) sc_mean.nd rfl (.inl rfl) (pe_call GA hr (by rfl) DA.g DA.F.kp DA.b .nil pass0 (pa_cons (pv 0) (pa_cons (pv 1) pa_nil))))
      (pss_one (ps_ret (pe_call GL hr (by rfl) DL.g DL.F.kp DL.b .nil pass0 (pa_cons (pe_ix ix_tup (pv 2) pe_int (fun _ _ => rfl)) (pa_cons (pe_op op_mulW pe_int (pe_ix ix_tup (pv 2) pe_int (fun _ _ => rfl))) pa_nil))))), ?_⟩
    refine ⟨_, rfl, _, rfl, p, q, a, b, n, rfl, hp, hq, wa, wb, by omega, fun t ht => ?_⟩
    have s1 : Same H (upd H t (tupR (Rational.add a b))) := same_upd ht
    have ws := add_wid wa wb
    have two2 : ((2 : Int)).natAbs < 2 ^ 2 := by decide
    refine ⟨_, rfl, t, _, 0, _, rfl, rfl, SqT.of upd_same, at0, _, rfl, t, _, 1, _, rfl, rfl, SqT.of upd_same, at1, 2, _, rfl, rfl, wide_mul two2 ws.den (by decide) ws.n_pos (by omega), ?_⟩
    have eD : 2 * ((Rational.add a b).den : Int) = ((2 * (Rational.add a b).den : Nat) : Int) := by
      rw [Int.natCast_mul]
      rfl
    have wD := mul_lt_pow two2 ws.den
    rw [eD] at wD
    refine ⟨(Rational.add a b).num, 2 * (Rational.add a b).den, 2 + (n + n + 1), congrArg (fun z => [V.int (Rational.add a b).num, V.int z]) eD, Nat.mul_pos (by decide) ws.pos, by omega, by omega, wD, fun u hu => ?_⟩
    refine k1 _ u (s1.trans (same_upd hu)) (none_of s1 hu) ?_
    rw [upd_same, half_is wa.pos wb.pos]

/-! ### split_pairs -/
/-- a flat list of even length; the list of its pairs stands at a new place -/
def spSplit (K : PySem.W.Frag) : Sp := fun vs H Q _ => ∃ (a : Addr) (ns : List Int), vs = [.ref a] ∧ SqL K H a (ns.map V.int) ∧ ns.length ≤ 44 ∧ ns.length % 2 = 0 ∧
  ∀ H' p, Same H H' → H p = none → PairsAt H' p (two ns) → Q (.ref p) H'

theorem sc_split_pairs : FnScope ["pairs", "k"] ["pairs"] (defScope s_split_pairs) := ⟨rfl, rfl, rfl, by decide +kernel, rfl, by decide +kernel, by decide +kernel⟩
theorem ok_split_pairs {f : Addr} {fd : FuncData} {k : Nat} (D : Def K mg "split_pairs" s_split_pairs ["pairs"] f fd) (T : Txt K mg) : FnOk P w K mg base CX0 (k + 1) f fd ["pairs"] (spSplit K) := by
  refine D.F.ok sc_split_pairs (fun vs H Q E h => ?_) (fun cdv A outer s H vs Q E hr h => ?_)
  · obtain ⟨a, ns, rfl, _⟩ := h
    rfl
  · obtain ⟨a, ns, rfl, hS, hlen, hev, q⟩ := h
    refine ⟨_, pss_one (ps_ret (pe_lc (own := [("k", 1)]) (g := gName 1) (tt := tYes) rfl sc_split_pairs.nd
        (pi_range3 (by rfl) T.b_range (pa_cons pe_int (pa_cons (pe_callB call_len_seq (by rfl) T.b_len PySem.boot_len (pa_cons (pv 0) pa_nil)) (pa_cons pe_int pa_nil))))
        (blkOk_by (own := [("k", 1)]) (N := ["pairs", "k"]) (sc := defScope s_split_pairs) (by decide +kernel)) (fun _ _ _ _ _ => pg_name (i := 1) sc_split_pairs.nd rfl (Or.inl rfl)) (fun _ _ _ _ _ => pts_nil)
        (fun _ _ _ _ _ => pe_tup (pa_cons (pe_ix (r := rIxL K) ix_list (pv 0) (pv 1) (fun _ _ => rfl)) (pa_cons (pe_ix (r := rIxL K) ix_list (pv 0) (pe_op op_add (pv 1) pe_int) (fun _ _ => rfl)) pa_nil))))), ?_⟩
    have hl : (ns.map V.int).length = ns.length := List.length_map ..
    have rg := rg2 ns.length (by omega)
    have en : (ns.length + 1) / 2 = ns.length / 2 := by omega
    refine ⟨.ref a, rfl, a, ns.map V.int, rfl, .inl hS, 0, _, 2, ns.length / 2, rfl, ⟨by decide, by decide, by rw [hl]; exact rg.1, by rw [hl, rg.2, en]⟩, fun D hD => ?_⟩
    refine lc_it walk_rangeC (fun i H' => Same H H' ∧ ∃ as : List Addr, H' D = some (.lst (as.map V.ref)) ∧ PairedAt H' as ((two ns).take i)) ?_ (fun _ _ _ _ => trivial) ?_ ?_
    · exact ⟨same_upd hD, [], upd_same, .nil _⟩
    · rintro i x H1 H1' hi ⟨sm, as, hDl, pa⟩ ⟨rfl, rfl⟩
      have h1 : 2 * i < ns.length := by omega
      have h2 : 2 * i + 1 < ns.length := by omega
      have hx : ns[2 * i]? = some ns[2 * i] := List.getElem?_eq_getElem h1
      have hy : ns[2 * i + 1]? = some ns[2 * i + 1] := List.getElem?_eq_getElem h2
      have hA := sm.seq hS
      refine ⟨rfl, _, rfl, _, rfl, a, ns.map V.int, 0 + (i : Int) * 2, _, rfl, rfl, hA, at_pos (by omega) (map_int_get (by rw [show (0 + (i : Int) * 2).toNat = 2 * i by omega]; exact hx)),
        _, rfl, _, rfl, 0 + (i : Int) * 2, 1, rfl, rfl, a, ns.map V.int, 0 + (i : Int) * 2 + 1, _, rfl, rfl, hA, at_pos (by omega) (map_int_get (by rw [show (0 + (i : Int) * 2 + 1).toNat = 2 * i + 1 by omega]; exact hy)), (by show 2 ≤ sizeLine; decide), fun t ht => ?_⟩
      have tt := turn_tup (x := ns[2 * i]) (y := ns[2 * i + 1]) hD sm hDl pa ht
      refine ⟨as.map V.ref, tt.1, ?_, ?_⟩
      · rw [List.length_map, pa.len, List.length_take]
        exact Nat.lt_of_le_of_lt (Nat.min_le_left _ _) (small1000 (by omega))
      · rw [take_more (two_get ns i _ _ hx hy)]
        exact tt.2
    · rintro H1 ⟨sm, as, hDl, pa⟩
      rw [List.take_of_length_le (by rw [two_length]; omega)] at pa
      exact q H1 D sm hD ⟨as, hDl, pa⟩

/-! ### is_count -/
def spIsCount : Sp := fun vs H Q _ => ∃ c : Int, vs = [.int c] ∧ Q (.bl (decide (1 ≤ c ∧ c ≤ 8))) H

theorem sc_is_count : FnScope ["count"] ["count"] (defScope s_is_count) := ⟨rfl, rfl, rfl, by decide +kernel, rfl, by decide +kernel, by decide +kernel⟩
theorem ok_is_count {f : Addr} {fd : FuncData} {k : Nat} (D : Def K mg "is_count" s_is_count ["count"] f fd) (T : Txt K mg) : FnOk P w K mg base CX0 (k + 1) f fd ["count"] spIsCount := by
  refine D.F.ok sc_is_count (fun vs H Q E h => ?_) (fun cdv A outer s H vs Q E hr h => ?_)
  · obtain ⟨c, rfl, _⟩ := h
    rfl
  · obtain ⟨c, rfl, q⟩ := h
    obtain ⟨t8, g8⟩ := T.c_MOST_VALUES
    refine ⟨_, pss_one (ps_ret (pe_chain op_le op_le pe_int (pv 0) (pe_glob (v := .int 8) (by rfl) g8 ⟨_, rfl⟩))), ?_⟩
    refine ⟨_, rfl, 1, c, rfl, rfl, _, rfl, ite2 (fun h1 => ⟨c, 8, rfl, rfl, ?_⟩) (fun h1 => ?_)⟩
    · have h1 := of_decide_eq_true h1
      have e : decide (1 ≤ c ∧ c ≤ 8) = decide (c ≤ 8) := by
        simp [h1]
      rw [e] at q
      exact q
    · have h1 : ¬ 1 ≤ c := fun z => h1 (decide_eq_true z)
      have e : decide (1 ≤ c ∧ c ≤ 8) = false := by
        simp [h1]
      rw [e] at q
      exact q

/-! ### values_are_allowed -/
def spValuesOk (K : PySem.W.Frag) : Sp := fun vs H Q _ => ∃ (a : Addr) (ns : List Int), vs = [.ref a] ∧ SqL K H a (ns.map V.int) ∧ ns.length ≤ 44 ∧ ∀ H', Same H H' → Q (.bl (valuesOk ns)) H'

theorem sc_values_are_allowed : FnScope ["values", "value"] ["values"] (defScope s_values_are_allowed) := ⟨rfl, rfl, rfl, by decide +kernel, rfl, by decide +kernel, by decide +kernel⟩
theorem ok_values_are_allowed {f : Addr} {fd : FuncData} {k : Nat} (D : Def K mg "values_are_allowed" s_values_are_allowed ["values"] f fd) (T : Txt K mg) : FnOk P w K mg base CX0 (k + 2) f fd ["values"] (spValuesOk K) := by
  refine D.F.ok sc_values_are_allowed (fun vs H Q E h => ?_) (fun cdv A outer s H vs Q E hr h => ?_)
  · obtain ⟨a, ns, rfl, _⟩ := h
    rfl
  · obtain ⟨a, ns, rfl, hS, hlen, q⟩ := h
    obtain ⟨t99, g99⟩ := T.c_LARGEST_VALUE
    obtain ⟨fC, fdC, DC⟩ := T.d_is_count
    have GC : FnOk P w K mg base CX0 (k + 1) fC fdC ["count"] spIsCount := ok_is_count DC T
    refine ⟨_, pss_cons (ps_if (pt_not (pt_val (pe_call GC hr (by rfl) DC.g DC.F.kp DC.b .nil pass0 (pa_cons (pe_callB call_len_seq (by rfl) T.b_len PySem.boot_len (pa_cons (pv 0) pa_nil)) pa_nil))))
          (pss_one (ps_ret pe_bl)) pss_nil)
      (pss_one (ps_ret (pe_callB (cr_all rfl) (by rfl) T.b_all (by decide +kernel) (pa_cons (pe_lc (own := [("value", 1)]) (g := gName 1) (tt := tYes) rfl sc_values_are_allowed.nd (pi_list (pv 0))
        (blkOk_by (own := [("value", 1)]) (N := ["values", "value"]) (sc := defScope s_values_are_allowed) (by decide +kernel)) (fun _ _ _ _ _ => pg_name (i := 1) sc_values_are_allowed.nd rfl (Or.inl rfl)) (fun _ _ _ _ _ => pts_nil)
        (fun _ _ _ _ _ => pe_chain op_le op_le pe_int (pv 1) (pe_glob (v := .int 99) (by rfl) g99 ⟨_, rfl⟩))) pa_nil)))), ?_⟩
    have hl : (ns.map V.int).length = ns.length := List.length_map ..
    refine ⟨_, rfl, a, _, rfl, .inl hS, _, rfl, _, rfl, ?_⟩
    rw [hl]
    by_cases hc : 1 ≤ (ns.length : Int) ∧ (ns.length : Int) ≤ 8
    · rw [decide_eq_true hc]
      refine iteF ?_
      have ev : valuesOk ns = ns.all fun x => decide (0 ≤ x ∧ x ≤ 99) := by
        unfold valuesOk
        rw [decide_eq_true (show 1 ≤ ns.length ∧ ns.length ≤ 8 by omega), Bool.true_and]
      refine ⟨.ref a, rfl, a, rfl, ⟨_, hS⟩, fun D hD => ?_⟩
      refine lc_list (K := K) (a := a) (xs := ns.map V.int) (fun i H' => Same H H' ∧ H' D = some (.lst (((ns.take i).map fun x => decide (0 ≤ x ∧ x ≤ 99)).map V.bl))) ?_ (fun i H' _ p => p.1.seq hS) ?_ ?_
      · exact ⟨same_upd hD, upd_same⟩
      · rintro i y H1 hi ⟨sm, hDl⟩
        obtain ⟨x, hx, rfl⟩ := of_map_get hi
        have key : ∃ acc, H1 D = some (.lst acc) ∧ acc.length < sizeLine ∧ (Same H (upd H1 D (.lst (acc ++ [.bl (decide (0 ≤ x ∧ x ≤ 99))]))) ∧ (upd H1 D (.lst (acc ++ [.bl (decide (0 ≤ x ∧ x ≤ 99))]))) D = some (.lst (((ns.take (i + 1)).map fun x => decide (0 ≤ x ∧ x ≤ 99)).map V.bl))) := by
          refine ⟨_, hDl, ?_, same_set sm hD, ?_⟩
          · rw [List.length_map, List.length_map, List.length_take]
            exact Nat.lt_of_le_of_lt (Nat.min_le_right _ _) (small1000 (by omega))
          · rw [upd_same, take_more hx, List.map_append, List.map_append]
            rfl
        refine ⟨rfl, _, rfl, 0, x, rfl, rfl, _, rfl, ite2 (fun h1 => ⟨x, 99, rfl, rfl, ?_⟩) (fun h1 => ?_)⟩
        · have h1 := of_decide_eq_true h1
          have e : decide (0 ≤ x ∧ x ≤ 99) = decide (x ≤ 99) := by
            simp [h1]
          rw [e] at key
          exact key
        · have h1 : ¬ 0 ≤ x := fun z => h1 (decide_eq_true z)
          have e : decide (0 ≤ x ∧ x ≤ 99) = false := by
            simp [h1]
          rw [e] at key
          exact key
      · rintro H1 ⟨sm, hDl⟩
        rw [hl, List.take_length] at hDl
        refine ⟨D, _, rfl, SqL.of hDl, ?_⟩
        have := q H1 sm
        rw [ev] at this
        rw [List.all_map]
        exact this
    · rw [decide_eq_false hc]
      refine iteT ?_
      have ev : valuesOk ns = false := by
        unfold valuesOk
        rw [decide_eq_false (show ¬ (1 ≤ ns.length ∧ ns.length ≤ 8) by omega), Bool.false_and]
      have := q H (Same.refl H)
      rw [ev] at this
      exact this

/-! ### rationals_from -/
def spRationals (K : PySem.W.Frag) : Sp := fun vs H Q _ => ∃ (a : Addr) (ns : List Int), vs = [.ref a] ∧ SqL K H a (ns.map V.int) ∧ ns.length ≤ 44 ∧
  ∀ H' p, Same H H' → H p = none → RatsAt H' p (initial ns) → Q (.ref p) H'

theorem sc_rationals_from : FnScope ["integers", "integer"] ["integers"] (defScope s_rationals_from) := ⟨rfl, rfl, rfl, by decide +kernel, rfl, by decide +kernel, by decide +kernel⟩
theorem ok_rationals_from {f : Addr} {fd : FuncData} {k : Nat} (D : Def K mg "rationals_from" s_rationals_from ["integers"] f fd) (T : Txt K mg) : FnOk P w K mg base CX0 (k + 1) f fd ["integers"] (spRationals K) := by
  refine D.F.ok sc_rationals_from (fun vs H Q E h => ?_) (fun cdv A outer s H vs Q E hr h => ?_)
  · obtain ⟨a, ns, rfl, _⟩ := h
    rfl
  · obtain ⟨a, ns, rfl, hS, hlen, q⟩ := h
    refine ⟨_, pss_one (ps_ret (pe_lc (own := [("integer", 1)]) (g := gName 1) (tt := tYes) rfl sc_rationals_from.nd (pi_list (pv 0))
        (blkOk_by (own := [("integer", 1)]) (N := ["integers", "integer"]) (sc := defScope s_rationals_from) (by decide +kernel)) (fun _ _ _ _ _ => pg_name (i := 1) sc_rationals_from.nd rfl (Or.inl rfl)) (fun _ _ _ _ _ => pts_nil)
        (fun _ _ _ _ _ => pe_tup (pa_cons (pv 1) (pa_cons pe_int pa_nil))))), ?_⟩
    have hl : (ns.map V.int).length = ns.length := List.length_map ..
    refine ⟨.ref a, rfl, a, rfl, ⟨_, hS⟩, fun D hD => ?_⟩
    refine lc_list (K := K) (a := a) (xs := ns.map V.int) (fun i H' => Same H H' ∧ ∃ as : List Addr, H' D = some (.lst (as.map V.ref)) ∧ PairedAt H' as ((initial (ns.take i)).map pr)) ?_ (fun i H' _ p => p.1.seq hS) ?_ ?_
    · exact ⟨same_upd hD, [], upd_same, .nil _⟩
    · rintro i y H1 hi ⟨sm, as, hDl, pa⟩
      obtain ⟨x, hx, rfl⟩ := of_map_get hi
      refine ⟨rfl, _, rfl, (by show 2 ≤ sizeLine; decide), fun t ht => ?_⟩
      have tt := turn_tup (x := x) (y := 1) hD sm hDl pa ht
      refine ⟨as.map V.ref, tt.1, ?_, ?_⟩
      · rw [List.length_map, pa.len, List.length_map]
        unfold initial
        rw [List.length_map, List.length_take]
        exact Nat.lt_of_le_of_lt (Nat.min_le_right _ _) (small1000 (by omega))
      · rw [take_more hx]
        unfold initial at tt ⊢
        rw [List.map_append, List.map_append]
        exact tt.2
    · rintro H1 ⟨sm, as, hDl, pa⟩
      rw [hl, List.take_length] at pa
      exact q H1 D sm hD ⟨as, hDl, pa⟩

/-! ### values_after -/
def spAfter (K : PySem.W.Frag) : Sp := fun vs H Q _ => ∃ (a b : Addr) (vs0 : Vals) (ns : List Int) (k0 : Nat), vs = [.ref a, .ref b] ∧ RatsAt H a vs0 ∧ SqL K H b (ns.map V.int) ∧ vs0.length ≤ 8 ∧ pairsOk ns vs0.length = true ∧ FineAll k0 vs0 ∧ k0 ≤ 40 ∧
  ∀ H' p, Same H H' → H p = none → RatsAt H' p (after vs0 (two ns)) → Q (.ref p) H'

theorem sc_values_after : FnScope ["rationals", "pairs", "result", "i", "j", "middle"] ["rationals", "pairs"] (defScope s_values_after) := ⟨rfl, rfl, rfl, by decide +kernel, rfl, by decide +kernel, by decide +kernel⟩
theorem ok_values_after {f : Addr} {fd : FuncData} {k : Nat} (D : Def K mg "values_after" s_values_after ["rationals", "pairs"] f fd) (T : Txt K mg) : FnOk P w K mg base CX0 (k + 5) f fd ["rationals", "pairs"] (spAfter K) := by
  refine D.F.ok sc_values_after (fun vs H Q E h => ?_) (fun cdv A outer s H vs Q E hr h => ?_)
  · obtain ⟨a, b, vs0, ns, k0, rfl, _⟩ := h
    rfl
  · obtain ⟨a, b, vs0, ns, k0, rfl, ⟨as, hA, pA⟩, hB, hlen, hok, hfine, hk0, q⟩ := h
    obtain ⟨fS, fdS, DS⟩ := T.d_split_pairs
    obtain ⟨fM, fdM, DM⟩ := T.d_mean
    have GS : FnOk P w K mg base CX0 (k + 4) fS fdS ["pairs"] (spSplit K) := ok_split_pairs DS T
    have GM : FnOk P w K mg base CX0 (k + 4) fM fdM ["first", "second"] spMean := ok_mean DM T
    refine ⟨_, pss_cons (ps_set (i := 2) sc_values_after.nd rfl (.inl rfl) (pe_callTy call_list_of (by rfl) T.b_list (by decide +kernel) (pa_cons (pv 0) pa_nil)))
      (pss_cons (ps_for PassesOwn.never rfl (pi_list (pe_call GS hr (by rfl) DS.g DS.F.kp DS.b .nil pass0 (pa_cons (pv 1) pa_nil)))
          (pg_tup rfl (pgs_cons (pg_name (i := 3) sc_values_after.nd rfl (.inl rfl)) (pgs_cons (pg_name (i := 4) sc_values_after.nd rfl (.inl rfl)) pgs_nil)))
          (pss_cons (ps_set (i := 5) sc_values_after.nd rfl (.inl rfl) (pe_call GM hr (by rfl) DM.g DM.F.kp DM.b .nil pass0 (pa_cons (pe_ix ix_list (pv 2) (pv 3) (fun _ _ => rfl)) (pa_cons (pe_ix ix_list (pv 2) (pv 4) (fun _ _ => rfl)) pa_nil))))
          (pss_cons (ps_asg (pv 5) (pg_sub (pv 2) (pv 3) set_list))
          (pss_one (ps_asg (pv 5) (pg_sub (pv 2) (pv 4) set_list))))))
      (pss_one (ps_ret (pv 2)))), ?_⟩
    have hev : ns.length % 2 = 0 := by
      unfold pairsOk at hok
      rw [Bool.and_eq_true] at hok
      exact (of_decide_eq_true hok.1).1
    have hle : ns.length ≤ 40 := by
      unfold pairsOk at hok
      rw [Bool.and_eq_true] at hok
      exact (of_decide_eq_true hok.1).2
    -- result = list(rationals)
    refine ⟨_, rfl, a, _, rfl, .inl (SqL.of hA), fun l hl => ?_⟩
    have s1 : Same H (upd H l (.lst (as.map V.ref))) := same_upd hl
    -- split_pairs(pairs)
    refine ⟨_, rfl, b, ns, rfl, s1.seq hB, by omega, hev, fun H1 p sm np hp => ?_⟩
    obtain ⟨cs, hp, pc⟩ := hp
    have nlp : l ≠ p := ne_of_none (upd_same (H := H) (a := l) (o := .lst (as.map V.ref))) np
    have hlen2 : (vs0.map pr).length = vs0.length := List.length_map ..
    refine ⟨p, rfl, ⟨_, SqL.of hp⟩, for_list (K := K) (a := p) (xs := cs.map V.ref) (fun i σ H' => ∃ y3 y4 y5 : Option V, σ = [some (.ref a), some (.ref b), some (.ref l), y3, y4, y5] ∧ Same H H' ∧ H' p = some (.lst (cs.map V.ref)) ∧ PairedAt H' cs (two ns) ∧
        ∃ bs : List Addr, H' l = some (.lst (bs.map V.ref)) ∧ PairedAt H' bs ((after vs0 ((two ns).take i)).map pr) ∧ FineAll (k0 + i) (after vs0 ((two ns).take i)))
      ⟨none, none, none, rfl, s1.trans sm, hp, pc, as, sm _ _ upd_same, pA.mono (tsame (s1.trans sm)), hfine⟩ (fun i σ H' _ ⟨_, _, _, _, _, e, _⟩ => SqL.of e) ?_ ?_⟩
    · rintro i y σ H2 hi ⟨y3, y4, y5, rfl, sH, hp2, pc2, bs, hl2, pb, fin⟩
      obtain ⟨t, ht, rfl⟩ := of_map_get hi
      have hi2 : i < (two ns).length := by
        rw [← pc2.len]
        exact (List.getElem?_eq_some_iff.mp ht).1
      have hpi : (two ns)[i]? = some (two ns)[i] := List.getElem?_eq_getElem hi2
      obtain ⟨t', ht', htup⟩ := pc2.get i _ hpi
      rw [ht] at ht'
      cases ht'
      have hpos := pair_at hok (List.mem_of_getElem? hpi)
      have step := after_more (vs := vs0) hpi
      generalize (two ns)[i] = pq at hpi htup hpos step
      obtain ⟨x, y⟩ := pq
      have hx0 : 0 ≤ x := hpos.1
      have hx1 : x < (vs0.length : Int) := hpos.2.1
      have hy0 : 0 ≤ y := hpos.2.2.1
      have hy1 : y < (vs0.length : Int) := hpos.2.2.2
      have el : (after vs0 ((two ns).take i)).length = vs0.length := after_length _ _
      have gx : (after vs0 ((two ns).take i))[x.toNat]? = some (after vs0 ((two ns).take i))[x.toNat] := List.getElem?_eq_getElem (by omega)
      have gy : (after vs0 ((two ns).take i))[y.toNat]? = some (after vs0 ((two ns).take i))[y.toNat] := List.getElem?_eq_getElem (by omega)
      generalize (after vs0 ((two ns).take i))[x.toNat] = rx at gx
      generalize (after vs0 ((two ns).take i))[y.toNat] = ry at gy
      have fx : Fine (k0 + i) rx := fin _ (List.mem_of_getElem? gx)
      have fy : Fine (k0 + i) ry := fin _ (List.mem_of_getElem? gy)
      have hi20 : i < 20 := by
        rw [two_length] at hi2
        omega
      obtain ⟨ax, eax, hax⟩ := pb.get x.toNat (pr rx) (by rw [List.getElem?_map, gx]; rfl)
      obtain ⟨ay, eay, hay⟩ := pb.get y.toNat (pr ry) (by rw [List.getElem?_map, gy]; rfl)
      have hlb : bs.length = vs0.length := by rw [pb.len, List.length_map, el]
      -- i, j = the pair
      refine ⟨t, [.int x, .int y], rfl, SqT.of htup, rfl, .int x, [.int y], rfl, .int y, [], rfl, rfl, ?_⟩
      -- middle = mean(result[i], result[j])
      refine ⟨_, rfl, _, rfl, l, _, x, _, rfl, rfl, SqL.of hl2, at_pos hx0 (map_ref_get eax), _, rfl, _, rfl, l, _, y, _, rfl, rfl, SqL.of hl2, at_pos hy0 (map_ref_get eay), ?_⟩
      refine ⟨ax, ay, rx, ry, k0 + i + 7, rfl, hax, hay, fx.wid, fy.wid, by omega, fun H3 u s3 nu hu => ?_⟩
      have nlu : l ≠ u := ne_of_none hl2 nu
      have hl3 : H3 l = some (.lst (bs.map V.ref)) := s3 _ _ hl2
      -- result[i] = middle
      refine ⟨_, rfl, _, rfl, _, rfl, l, _, x, x.toNat, rfl, rfl, hl3, ixN_pos hx0 (by rw [List.length_map, hlb]; exact hx1), ?_⟩
      -- result[j] = middle
      refine ⟨_, rfl, _, rfl, _, rfl, l, _, y, y.toNat, rfl, rfl, upd_same, ixN_pos hy0 (by rw [List.length_set, List.length_map, hlb]; exact hy1), ?_⟩
      rw [upd_upd, map_ref_set, map_ref_set]
      have ts : TSame H2 (upd H3 l (.lst (((bs.set x.toNat u).set y.toNat u).map V.ref))) := (tsame s3).trans (tsame_lst hl3)
      have hu2 : (upd H3 l (.lst (((bs.set x.toNat u).set y.toNat u).map V.ref))) u = some (tupR (mean rx ry)) := by
        rw [upd_ne nlu.symm]
        exact hu
      refine ⟨_, _, _, rfl, same_set (sH.trans s3) hl, ?_, pc2.mono ts, (bs.set x.toNat u).set y.toNat u, upd_same, ?_, ?_⟩
      · rw [upd_ne nlp.symm]
        exact s3 _ _ hp2
      · have z := ((pb.mono ts).set (p := pr (mean rx ry)) hu2 x.toNat).set (p := pr (mean rx ry)) hu2 y.toNat
        rw [← List.map_set, ← List.map_set] at z
        rw [step, avg_at (p := (x, y)) gx gy fx.pos fy.pos]
        exact z
      · rw [step]
        exact avg_fine (p := (x, y)) fin gx gy
    · rintro σ H2 ⟨y3, y4, y5, rfl, sH, hp2, pc2, bs, hl2, pb, fin⟩
      rw [List.length_map, pc2.len, List.take_length] at pb
      exact ⟨_, rfl, q H2 l sH hl ⟨bs, hl2, pb⟩⟩

/-! ### equality_of -/
theorem dpR {K : PySem.W.Frag} {H : Hp} {t : Addr} {r : Rational} (h : H t = some (tupI (pr r).1 (pr r).2)) : Dp K H (.ref t) (.tuple [.int r.num, .int (r.den : Int)]) := .tup (SqT.of h) (.cons (.int _) (.cons (.int _) .nil))
theorem shapedR (r : Rational) : SeqAt.shaped (.tuple [.int r.num, .int (r.den : Int)]) = true := by
  unfold SeqAt.shaped
  simp [PyData.canLay0, PyData.canLayAll0, PyData.depth, PyData.depthAll]
theorem eqvR (r s : Rational) : PyData.eqv (.tuple [.int r.num, .int (r.den : Int)]) (.tuple [.int s.num, .int (s.den : Int)]) = (r == s) := by
  cases r with
  | mk n d =>
    cases s with
    | mk m e =>
      show PyData.eqv (.tuple [.int n, .int (d : Int)]) (.tuple [.int m, .int (e : Int)]) = _
      rw [Bool.eq_iff_iff, beq_iff_eq]
      simp only [PyData.eqv, PyData.eqvAll, Bool.and_eq_true, beq_iff_eq, Bool.and_true]
      constructor
      · rintro ⟨h1, h2⟩
        have h2 : d = e := Int.ofNat.inj h2
        rw [h1, h2]
      · intro h
        cases h
        exact ⟨rfl, rfl⟩
def spEquality : Sp := fun vs H Q _ => ∃ (a : Addr) (vs0 : Vals), vs = [.ref a] ∧ RatsAt H a vs0 ∧ vs0 ≠ [] ∧ vs0.length ≤ 8 ∧ ∀ H', Same H H' → Q (.int (eq01 vs0)) H'

theorem sc_equality_of : FnScope ["rationals", "rational"] ["rationals"] (defScope s_equality_of) := ⟨rfl, rfl, rfl, by decide +kernel, rfl, by decide +kernel, by decide +kernel⟩
theorem ok_equality_of {f : Addr} {fd : FuncData} {k : Nat} (D : Def K mg "equality_of" s_equality_of ["rationals"] f fd) (T : Txt K mg) : FnOk P w K mg base CX0 (k + 1) f fd ["rationals"] spEquality := by
  refine D.F.ok sc_equality_of (fun vs H Q E h => ?_) (fun cdv A outer s H vs Q E hr h => ?_)
  · obtain ⟨a, vs0, rfl, _⟩ := h
    rfl
  · obtain ⟨a, vs0, rfl, ⟨as, hA, pA⟩, hne, hlen, q⟩ := h
    refine ⟨_, pss_cons (ps_if (pt_val (pe_callB (cr_all rfl) (by rfl) T.b_all (by decide +kernel) (pa_cons (pe_lc (own := [("rational", 1)]) (g := gName 1) (tt := tYes) rfl sc_equality_of.nd (pi_list (pv 0))
        (blkOk_by (own := [("rational", 1)]) (N := ["rationals", "rational"]) (sc := defScope s_equality_of) (by decide +kernel)) (fun _ _ _ _ _ => pg_name (i := 1) sc_equality_of.nd rfl (Or.inl rfl)) (fun _ _ _ _ _ => pts_nil)
        (fun _ _ _ _ _ => pe_cmpR (r := rEqD K) (op_eqD hr.units) (pv 1) (pe_ix (r := rIxL K) ix_list (pv 0) pe_int (fun _ _ => rfl)) (nomark _))) pa_nil)))
        (pss_one (ps_ret pe_int)) pss_nil) (pss_one (ps_ret pe_int)), ?_⟩
    obtain ⟨r0, rest, rfl⟩ : ∃ r0 rest, vs0 = r0 :: rest := by
      cases vs0 with
      | nil => exact absurd rfl hne
      | cons r0 rest => exact ⟨r0, rest, rfl⟩
    have lenA : as.length = (r0 :: rest).length := by rw [pA.len, List.length_map]
    obtain ⟨a0, ea0, ha0⟩ := pA.get 0 (pr r0) rfl
    refine ⟨_, rfl, a, rfl, ⟨_, SqL.of hA⟩, fun D hD => ?_⟩
    refine lc_list (K := K) (a := a) (xs := as.map V.ref) (fun i H' => Same H H' ∧ H' D = some (.lst ((((r0 :: rest).take i).map fun r => r == r0).map V.bl))) ?_ (fun i H' _ p => SqL.of (p.1 _ _ hA)) ?_ ?_
    · exact ⟨same_upd hD, upd_same⟩
    · rintro i y H1 hi ⟨sm, hDl⟩
      obtain ⟨t, ht, rfl⟩ := of_map_get hi
      have hi2 : i < (r0 :: rest).length := by
        rw [← lenA]
        exact (List.getElem?_eq_some_iff.mp ht).1
      have hri : (r0 :: rest)[i]? = some (r0 :: rest)[i] := List.getElem?_eq_getElem hi2
      generalize (r0 :: rest)[i] = r at hri
      obtain ⟨t', ht', htup⟩ := pA.get i (pr r) (by rw [List.getElem?_map, hri]; rfl)
      rw [ht] at ht'
      cases ht'
      refine ⟨rfl, _, rfl, _, rfl, a, _, 0, _, rfl, rfl, SqL.of (sm _ _ hA), at_pos (by decide) (map_ref_get ea0), _, _, dpR (sm _ _ htup), dpR (sm _ _ ha0), shapedR r, shapedR r0, ?_⟩
      rw [eqvR]
      refine ⟨_, hDl, ?_, same_set sm hD, ?_⟩
      · rw [List.length_map, List.length_map, List.length_take]
        exact Nat.lt_of_le_of_lt (Nat.min_le_right _ _) (small1000 (by omega))
      · rw [upd_same, take_more hri, List.map_append, List.map_append]
        rfl
    · rintro H1 ⟨sm, hDl⟩
      rw [List.length_map, lenA, List.take_length] at hDl
      refine ⟨D, _, rfl, SqL.of hDl, _, rfl, ?_⟩
      have e : (List.map (fun r => r == r0) (r0 :: rest)).all id = Ks606.areEqual (r0 :: rest) := by
        rw [List.all_map]
        rfl
      rw [e]
      have := q H1 sm
      unfold eq01 at this
      cases hE : Ks606.areEqual (r0 :: rest) with
      | true =>
        rw [hE] at this
        exact iteT this
      | false =>
        rw [hE] at this
        exact iteF this

/-! ### numbers_from -/
theorem flat_length (vs : Vals) : (flat vs).length = 2 * vs.length := by
  unfold flat
  induction vs with
  | nil => rfl
  | cons r l ih =>
    rw [List.flatMap_cons, List.length_append, ih, List.length_cons]
    show 2 + 2 * l.length = 2 * (l.length + 1)
    omega
theorem flat_append (vs us : Vals) : flat (vs ++ us) = flat vs ++ flat us := by
  unfold flat
  rw [List.flatMap_append]
def spNumbers : Sp := fun vs H Q _ => ∃ (a : Addr) (vs0 : Vals), vs = [.ref a] ∧ RatsAt H a vs0 ∧ vs0.length ≤ 8 ∧ ∀ H' p, Same H H' → H p = none → H' p = some (.lst ((flat vs0).map V.int)) → Q (.ref p) H'

theorem sc_numbers_from : FnScope ["rationals", "numbers", "numerator", "denominator"] ["rationals"] (defScope s_numbers_from) := ⟨rfl, rfl, rfl, by decide +kernel, rfl, by decide +kernel, by decide +kernel⟩
theorem ok_numbers_from {f : Addr} {fd : FuncData} {k : Nat} (D : Def K mg "numbers_from" s_numbers_from ["rationals"] f fd) (T : Txt K mg) : FnOk P w K mg base CX0 (k + 1) f fd ["rationals"] spNumbers := by
  refine D.F.ok sc_numbers_from (fun vs H Q E h => ?_) (fun cdv A outer s H vs Q E hr h => ?_)
  · obtain ⟨a, vs0, rfl, _⟩ := h
    rfl
  · obtain ⟨a, vs0, rfl, ⟨as, hA, pA⟩, hlen, q⟩ := h
    refine ⟨_, pss_cons (ps_set (i := 1) sc_numbers_from.nd rfl (.inl rfl) (pe_lst pa_nil))
      (pss_cons (ps_for PassesOwn.never rfl (pi_list (pv 0))
          (pg_tup rfl (pgs_cons (pg_name (i := 2) sc_numbers_from.nd rfl (.inl rfl)) (pgs_cons (pg_name (i := 3) sc_numbers_from.nd rfl (.inl rfl)) pgs_nil)))
          (pss_cons (ps_expr (pe_bm PySem.F.plainAttrs_list PySem.F.slot_list_append PySem.F.type_list_append mt_append (pv 1) (pa_cons (pv 2) pa_nil)))
          (pss_one (ps_expr (pe_bm PySem.F.plainAttrs_list PySem.F.slot_list_append PySem.F.type_list_append mt_append (pv 1) (pa_cons (pv 3) pa_nil))))))
      (pss_one (ps_ret (pv 1)))), ?_⟩
    have lenA : as.length = vs0.length := by rw [pA.len, List.length_map]
    refine ⟨Nat.zero_le _, fun o no => ?_⟩
    have s1 : Same H (upd H o (.lst [])) := same_upd no
    refine ⟨_, rfl, a, rfl, ⟨_, SqL.of (s1 _ _ hA)⟩, for_list (K := K) (a := a) (xs := as.map V.ref) (fun i σ H' => ∃ y2 y3 : Option V, σ = [some (.ref a), some (.ref o), y2, y3] ∧ Same H H' ∧ H' o = some (.lst ((flat (vs0.take i)).map V.int)))
      ⟨none, none, rfl, s1, upd_same⟩ (fun i σ H' _ ⟨_, _, _, e, _⟩ => SqL.of (e _ _ hA)) ?_ ?_⟩
    · rintro i y σ H1 hi ⟨y2, y3, rfl, sm, ho⟩
      obtain ⟨t, ht, rfl⟩ := of_map_get hi
      have hi2 : i < vs0.length := by
        rw [← lenA]
        exact (List.getElem?_eq_some_iff.mp ht).1
      have hri : vs0[i]? = some vs0[i] := List.getElem?_eq_getElem hi2
      generalize vs0[i] = r at hri
      obtain ⟨t', ht', htup⟩ := pA.get i (pr r) (by rw [List.getElem?_map, hri]; rfl)
      rw [ht] at ht'
      cases ht'
      have hfl : (flat (vs0.take i)).length ≤ 16 := by
        rw [flat_length, List.length_take]
        have := Nat.min_le_right i vs0.length
        omega
      refine ⟨t, [.int r.num, .int (r.den : Int)], rfl, SqT.of (sm _ _ htup), rfl, .int r.num, [.int (r.den : Int)], rfl, .int (r.den : Int), [], rfl, rfl, ?_⟩
      refine ⟨.ref o, rfl, .inl ⟨rfl, _, SqL.of ho⟩, _, rfl, o, _, _, rfl, rfl, ho, ?_, ?_⟩
      · rw [List.length_map]
        exact small1000 (by omega)
      · refine ⟨.ref o, rfl, .inl ⟨rfl, _, SqL.of upd_same⟩, _, rfl, o, _, _, rfl, rfl, upd_same, ?_, ?_⟩
        · rw [List.length_append, List.length_map]
          exact small1000 (by show (flat (vs0.take i)).length + 1 ≤ 1000; omega)
        · rw [upd_upd]
          refine ⟨_, _, rfl, same_set sm no, ?_⟩
          rw [upd_same, take_more hri, flat_append, List.map_append, List.append_assoc]
          rfl
    · rintro σ H1 ⟨y2, y3, rfl, sm, ho⟩
      rw [List.length_map, lenA, List.take_length] at ho
      exact ⟨_, rfl, q H1 o sm no ho⟩

/-! ### is_step_count -/
def spIsSteps : Sp := fun vs H Q _ => ∃ c : Int, vs = [.int c] ∧ Q (.bl (decide (0 ≤ c ∧ c ≤ 12))) H

theorem sc_is_step_count : FnScope ["steps"] ["steps"] (defScope s_is_step_count) := ⟨rfl, rfl, rfl, by decide +kernel, rfl, by decide +kernel, by decide +kernel⟩
theorem ok_is_step_count {f : Addr} {fd : FuncData} {k : Nat} (D : Def K mg "is_step_count" s_is_step_count ["steps"] f fd) (T : Txt K mg) : FnOk P w K mg base CX0 (k + 1) f fd ["steps"] spIsSteps := by
  refine D.F.ok sc_is_step_count (fun vs H Q E h => ?_) (fun cdv A outer s H vs Q E hr h => ?_)
  · obtain ⟨c, rfl, _⟩ := h
    rfl
  · obtain ⟨c, rfl, q⟩ := h
    obtain ⟨t12, g12⟩ := T.c_MOST_STEPS
    refine ⟨_, pss_one (ps_ret (pe_chain op_le op_le pe_int (pv 0) (pe_glob (v := .int 12) (by rfl) g12 ⟨_, rfl⟩))), ?_⟩
    refine ⟨_, rfl, 0, c, rfl, rfl, _, rfl, ite2 (fun h1 => ⟨c, 12, rfl, rfl, ?_⟩) (fun h1 => ?_)⟩
    · have h1 := of_decide_eq_true h1
      have e : decide (0 ≤ c ∧ c ≤ 12) = decide (c ≤ 12) := by
        simp [h1]
      rw [e] at q
      exact q
    · have h1 : ¬ 0 ≤ c := fun z => h1 (decide_eq_true z)
      have e : decide (0 ≤ c ∧ c ≤ 12) = false := by
        simp [h1]
      rw [e] at q
      exact q

/-! ### best_pair -/
theorem dpInts {K : PySem.W.Frag} {H : Hp} : ∀ ns : List Int, DpAll K H (ns.map V.int) (ns.map PyData.int)
  | [] => .nil
  | n :: r => .cons (.int n) (dpInts r)
theorem shapedBest (o : Option (Nat × Nat)) : SeqAt.shaped (.list ((bestI o).map PyData.int)) = true := by
  cases o with
  | none => decide
  | some p =>
    unfold SeqAt.shaped
    simp [bestI, PyData.canLay0, PyData.canLayAll0, PyData.depth, PyData.depthAll]
/-- the difference of the best pair so far -/
def gapOf (vs : Vals) : Option (Nat × Nat) → Rational
  | none => ⟨0, 1⟩
  | some q => Ks606.difference vs q
/-- at b the best pair so far, at g its difference -/
structure BestAt (H H' : Hp) (vs : Vals) (o : Option (Nat × Nat)) (m : Nat) (b g : Addr) : Prop where
  sm : Same H H'
  nb : H b = none
  hb : H' b = some (.lst ((bestI o).map V.int))
  hg : H' g = some (tupR (gapOf vs o))
  wd : Wid m (gapOf vs o)
theorem BestAt.mono {H H' H2 : Hp} {vs : Vals} {o : Option (Nat × Nat)} {m : Nat} {b g : Addr} (B : BestAt H H' vs o m b g) (s : Same H' H2) : BestAt H H2 vs o m b g :=
  ⟨B.sm.trans s, B.nb, s _ _ B.hb, s _ _ B.hg, B.wd⟩
/-- rational numbers; the best pair, or none, stands as a list at a new place -/
def spBest : Sp := fun vs H Q _ => ∃ (a : Addr) (vs0 : Vals) (n : Nat), vs = [.ref a] ∧ RatsAt H a vs0 ∧ vs0.length ≤ 8 ∧ (∀ r ∈ vs0, Wid n r) ∧ n ≤ 200 ∧
  ∀ H' p, Same H H' → H p = none → H' p = some (.lst ((bestI (Ks606.bestPair vs0)).map V.int)) → Q (.ref p) H'

theorem sc_best_pair : FnScope ["rationals", "best", "largest", "i", "j", "difference"] ["rationals"] (defScope s_best_pair) := ⟨rfl, rfl, rfl, by decide +kernel, rfl, by decide +kernel, by decide +kernel⟩
theorem ok_best_pair {f : Addr} {fd : FuncData} {k : Nat} (D : Def K mg "best_pair" s_best_pair ["rationals"] f fd) (T : Txt K mg) : FnOk P w K mg base CX0 (k + 4) f fd ["rationals"] spBest := by
  refine D.F.ok sc_best_pair (fun vs H Q E h => ?_) (fun cdv A outer s H vs Q E hr h => ?_)
  · obtain ⟨a, vs0, n, rfl, _⟩ := h
    rfl
  · obtain ⟨a, vs0, n, rfl, ⟨as, hA, pA⟩, hlen, hw, hn, q⟩ := h
    obtain ⟨fL, fdL, DL⟩ := T.d_is_less
    obtain ⟨fD, fdD, DD⟩ := T.d_absolute_difference
    have GL : FnOk P w K mg base CX0 (k + 3) fL fdL ["first", "second"] spLess := ok_is_less DL T
    have GD : FnOk P w K mg base CX0 (k + 3) fD fdD ["first", "second"] spAbsd := ok_absolute_difference DD T
    refine ⟨_, pss_cons (ps_set (i := 1) sc_best_pair.nd rfl (.inl rfl) (pe_lst pa_nil))
      (pss_cons (ps_set (i := 2) sc_best_pair.nd rfl (.inl rfl) (pe_tup (pa_cons pe_int (pa_cons pe_int pa_nil))))
      (pss_cons (ps_for PassesOwn.never rfl (pi_range1 (by rfl) T.b_range (pa_cons (pe_callB call_len_seq (by rfl) T.b_len PySem.boot_len (pa_cons (pv 0) pa_nil)) pa_nil)) (pg_name (i := 3) sc_best_pair.nd rfl (.inl rfl))
          (pss_one (ps_for PassesOwn.never rfl (pi_range2 (by rfl) T.b_range (pa_cons (pe_op op_add (pv 3) pe_int) (pa_cons (pe_callB call_len_seq (by rfl) T.b_len PySem.boot_len (pa_cons (pv 0) pa_nil)) pa_nil))) (pg_name (i := 4) sc_best_pair.nd rfl (.inl rfl))
              (pss_cons (ps_set (i := 5) sc_best_pair.nd rfl (.inl rfl) (pe_call GD hr (by rfl) DD.g DD.F.kp DD.b .nil pass0 (pa_cons (pe_ix (r := rIxL K) ix_list (pv 0) (pv 3) (fun _ _ => rfl)) (pa_cons (pe_ix (r := rIxL K) ix_list (pv 0) (pv 4) (fun _ _ => rfl)) pa_nil))))
              (pss_one (ps_if (PW.pt (pw_or (pt_cmpR (r := rEqD K) (op_eqD hr.units) (pv 1) (pe_lst pa_nil) (nomark _)) (pw_or1 (pt_val (pe_call GL hr (by rfl) DL.g DL.F.kp DL.b .nil pass0 (pa_cons (pv 2) (pa_cons (pv 5) pa_nil)))))))
                (pss_cons (ps_set (i := 1) sc_best_pair.nd rfl (.inl rfl) (pe_lst (pa_cons (pv 3) (pa_cons (pv 4) pa_nil))))
                (pss_one (ps_set (i := 2) sc_best_pair.nd rfl (.inl rfl) (pv 5)))) pss_nil))))))
      (pss_one (ps_ret (pv 1))))), ?_⟩
    have lenA : (as.map V.ref).length = vs0.length := by rw [List.length_map, pA.len, List.length_map]
    refine ⟨Nat.zero_le _, fun b0 nb0 => ?_⟩
    refine ⟨(by show 2 ≤ sizeLine; decide), fun g0 ng0 => ?_⟩
    have s1 : Same H (upd H b0 (.lst [])) := same_upd nb0
    have s2 := s1.trans (same_upd (o := .tup [.int 0, .int 1]) ng0)
    refine ⟨_, rfl, a, _, rfl, .inl (SqL.of (s2 _ _ hA)), _, rfl, by omega, by omega, ?_⟩
    refine for_range (lo := 0) (n := (((as.map V.ref).length : Nat) : Int).toNat) (fun i σ H' => ∃ (b g : Addr) (y3 y4 y5 : Option V), σ = [some (.ref a), some (.ref b), some (.ref g), y3, y4, y5] ∧ BestAt H H' vs0 (bestOf vs0 (allTo vs0.length i)) (n + n + 1) b g)
      ⟨b0, g0, none, none, none, rfl, s2, nb0, same_upd ng0 _ _ upd_same, upd_same, wid_zero.mono (by omega)⟩ ?_ ?_
    · rintro i σ H1 hi ⟨b, g, y3, y4, y5, rfl, B⟩
      have hi : i < vs0.length := by omega
      refine ⟨_, rfl, 0 + (i : Int), 1, rfl, rfl, _, rfl, a, _, rfl, .inl (SqL.of (B.sm _ _ hA)), 0 + (i : Int) + 1, _, rfl, ⟨by omega, by omega, by omega, by omega⟩, ?_⟩
      refine for_range (lo := 0 + (i : Int) + 1) (n := ((((as.map V.ref).length : Nat) : Int) - (0 + (i : Int) + 1)).toNat) (fun j σ H' => ∃ (b g : Addr) (y4 y5 : Option V), σ = [some (.ref a), some (.ref b), some (.ref g), some (.int (0 + (i : Int))), y4, y5] ∧ BestAt H H' vs0 (bestOf vs0 (allTo vs0.length i ++ (rowP vs0.length i).take j)) (n + n + 1) b g)
        ⟨b, g, _, _, rfl, by rw [List.take_zero, List.append_nil]; exact B⟩ ?_ ?_
      · clear B
        rintro j σ H2 hj ⟨b, g, y4, y5, rfl, B⟩
        have hj : j < vs0.length - (i + 1) := by omega
        have gi : vs0[i]? = some vs0[i] := List.getElem?_eq_getElem hi
        have gj : vs0[i + 1 + j]? = some (vs0[i + 1 + j]'(by omega)) := List.getElem?_eq_getElem (by omega)
        generalize vs0[i] = ri at gi
        generalize vs0[i + 1 + j]'(by omega) = rj at gj
        have wi := hw ri (List.mem_of_getElem? gi)
        have wj := hw rj (List.mem_of_getElem? gj)
        obtain ⟨ai, eai, hai⟩ := pA.get i (pr ri) (by rw [List.getElem?_map, gi]; rfl)
        obtain ⟨aj, eaj, haj⟩ := pA.get (i + 1 + j) (pr rj) (by rw [List.getElem?_map, gj]; rfl)
        have ed : Ks606.difference vs0 (i, i + 1 + j) = absd ri rj := difference_is (p := (i, i + 1 + j)) gi gj wi.pos wj.pos
        have more : bestOf vs0 (allTo vs0.length i ++ (rowP vs0.length i).take (j + 1)) = bo vs0 (bestOf vs0 (allTo vs0.length i ++ (rowP vs0.length i).take j)) (i, i + 1 + j) := by
          rw [take_more (rowP_get hj), ← List.append_assoc, bestOf_more]
        rw [more]
        generalize bestOf vs0 (allTo vs0.length i ++ (rowP vs0.length i).take j) = o at B ⊢
        -- difference = absolute_difference(rationals[i], rationals[j])
        refine ⟨_, rfl, _, rfl, a, _, 0 + (i : Int), _, rfl, rfl, SqL.of (B.sm _ _ hA), at_pos (by omega) (map_ref_get (by rw [show (0 + (i : Int)).toNat = i by omega]; exact eai)),
          _, rfl, _, rfl, a, _, 0 + (i : Int) + 1 + (j : Int), _, rfl, rfl, SqL.of (B.sm _ _ hA), at_pos (by omega) (map_ref_get (by rw [show (0 + (i : Int) + 1 + (j : Int)).toNat = i + 1 + j by omega]; exact eaj)), ?_⟩
        refine ⟨ai, aj, ri, rj, n, rfl, B.sm _ _ hai, B.sm _ _ haj, wi, wj, by omega, fun u hu => ?_⟩
        have wu : Wid (n + n + 1) (absd ri rj) := absd_wid wi wj
        have B3 := B.mono (same_upd (o := tupR (absd ri rj)) hu)
        have hu3 : (upd H2 u (tupR (absd ri rj))) u = some (tupR (absd ri rj)) := upd_same
        generalize upd H2 u (tupR (absd ri rj)) = H3 at B3 hu3 ⊢
        clear hu B
        -- best == [] or is_less(largest, difference)
        refine ⟨_, rfl, Nat.zero_le _, fun e ne => ?_⟩
        have B4 := B3.mono (same_upd (o := .lst []) ne)
        have hu4 := same_upd (o := .lst []) ne _ _ hu3
        have he4 : (upd H3 e (.lst [])) e = some (.lst []) := upd_same
        generalize upd H3 e (.lst []) = H4 at B4 hu4 he4 ⊢
        clear ne B3 hu3
        have key : ∀ z, H4 z = none → ∃ (b g : Addr) (y4 y5 : Option V), [some (.ref a), some (.ref z), some (.ref u), some (.int (0 + (i : Int))), some (.int (0 + (i : Int) + 1 + (j : Int))), some (.ref u)] = [some (V.ref a), some (.ref b), some (.ref g), some (.int (0 + (i : Int))), y4, y5] ∧
            BestAt H (upd H4 z (.lst [.int (0 + (i : Int)), .int (0 + (i : Int) + 1 + (j : Int))])) vs0 (some (i, i + 1 + j)) (n + n + 1) b g := fun z hz => by
          refine ⟨z, u, _, _, rfl, B4.sm.trans (same_upd hz), none_of B4.sm hz, ?_, ?_, ?_⟩
          · rw [upd_same, show 0 + (i : Int) = ((i : Nat) : Int) by omega, show ((i : Nat) : Int) + 1 + (j : Int) = ((i + 1 + j : Nat) : Int) by omega]
            rfl
          · show _ = some (tupR (Ks606.difference vs0 (i, i + 1 + j)))
            rw [ed]
            exact same_upd hz _ _ hu4
          · show Wid _ (Ks606.difference vs0 (i, i + 1 + j))
            rw [ed]
            exact wu
        refine ⟨_, _, .lst (SqL.of B4.hb) (dpInts _), .lst (SqL.of he4) .nil, shapedBest o, (by decide), _, rfl, ?_⟩
        cases o with
        | none => exact iteT (iteT ⟨_, rfl, _, rfl, (by show 2 ≤ sizeLine; decide), fun z hz => ⟨_, rfl, key z hz⟩⟩)
        | some p =>
          refine iteF ⟨_, rfl, _, rfl, g, u, _, _, n + n + 1, rfl, B4.hg, hu4, B4.wd, wu, by omega, _, rfl, ?_⟩
          have eb : bo vs0 (some p) (i, i + 1 + j) = if Rational.lt (gapOf vs0 (some p)) (absd ri rj) = true then some (i, i + 1 + j) else some p := by
            rw [← ed]
            rfl
          rw [eb]
          cases hlt : Rational.lt (gapOf vs0 (some p)) (absd ri rj) with
          | true =>
            rw [if_pos rfl]
            exact iteT ⟨_, rfl, _, rfl, (by show 2 ≤ sizeLine; decide), fun z hz => ⟨_, rfl, key z hz⟩⟩
          | false =>
            rw [if_neg Bool.false_ne_true]
            exact iteF ⟨b, g, _, _, rfl, B4⟩
      · rintro σ H2 ⟨b, g, y4, y5, rfl, B⟩
        rw [List.take_of_length_le (by rw [rowP_length]; omega), ← allTo_more] at B
        exact ⟨b, g, _, _, _, rfl, B⟩
    · rintro σ H1 ⟨b, g, y3, y4, y5, rfl, B⟩
      have eN : (((as.map V.ref).length : Nat) : Int).toNat = vs0.length := by omega
      rw [eN, ← allPairs_is hlen, ← best_is] at B
      exact ⟨_, rfl, q H1 b B.sm B.nb B.hb⟩

/-! ### values_after_greedy -/
/-- values and a number of steps; what stands after so many greedy averages stands at a new place -/
def spAfterGreedy : Sp := fun vs H Q _ => ∃ (a : Addr) (st : Int) (vs0 : Vals), vs = [.ref a, .int st] ∧ RatsAt H a vs0 ∧ vs0.length ≤ 8 ∧ FineAll 0 vs0 ∧ 0 ≤ st ∧ st ≤ 12 ∧
  ∀ H' p, Same H H' → H p = none → RatsAt H' p (gre st.toNat vs0) → Q (.ref p) H'

theorem sc_values_after_greedy : FnScope ["rationals", "steps", "result", "step"] ["rationals", "steps"] (defScope s_values_after_greedy) := ⟨rfl, rfl, rfl, by decide +kernel, rfl, by decide +kernel, by decide +kernel⟩
theorem ok_values_after_greedy {f : Addr} {fd : FuncData} {k : Nat} (D : Def K mg "values_after_greedy" s_values_after_greedy ["rationals", "steps"] f fd) (T : Txt K mg) : FnOk P w K mg base CX0 (k + 6) f fd ["rationals", "steps"] spAfterGreedy := by
  refine D.F.ok sc_values_after_greedy (fun vs H Q E h => ?_) (fun cdv A outer s H vs Q E hr h => ?_)
  · obtain ⟨a, st, vs0, rfl, _⟩ := h
    rfl
  · obtain ⟨a, st, vs0, rfl, ⟨as, hA, pA⟩, hlen, hf, h0, h12, q⟩ := h
    obtain ⟨fA, fdA, DA⟩ := T.d_values_after
    obtain ⟨fB, fdB, DB⟩ := T.d_best_pair
    have GA : FnOk P w K mg base CX0 (k + 5) fA fdA ["rationals", "pairs"] (spAfter K) := ok_values_after DA T
    have GB : FnOk P w K mg base CX0 (k + 5) fB fdB ["rationals"] spBest := ok_best_pair DB T
    refine ⟨_, pss_cons (ps_set (i := 2) sc_values_after_greedy.nd rfl (.inl rfl) (pe_callTy call_list_of (by rfl) T.b_list (by decide +kernel) (pa_cons (pv 0) pa_nil)))
      (pss_cons (ps_for PassesOwn.never rfl (pi_range1 (by rfl) T.b_range (pa_cons (pv 1) pa_nil)) (pg_name (i := 3) sc_values_after_greedy.nd rfl (.inl rfl))
          (pss_one (ps_set (i := 2) sc_values_after_greedy.nd rfl (.inl rfl) (pe_call GA hr (by rfl) DA.g DA.F.kp DA.b .nil pass0 (pa_cons (pv 2) (pa_cons (pe_call GB hr (by rfl) DB.g DB.F.kp DB.b .nil pass0 (pa_cons (pv 2) pa_nil)) pa_nil))))))
      (pss_one (ps_ret (pv 2)))), ?_⟩
    refine ⟨_, rfl, a, _, rfl, .inl (SqL.of hA), fun l hl => ?_⟩
    have s1 : Same H (upd H l (.lst (as.map V.ref))) := same_upd hl
    refine ⟨_, rfl, st, rfl, by omega, by omega, ?_⟩
    refine for_range (lo := 0) (n := st.toNat) (fun i σ H' => ∃ (l : Addr) (y3 : Option V), σ = [some (.ref a), some (.int st), some (.ref l), y3] ∧ Same H H' ∧ H l = none ∧ RatsAt H' l (gre i vs0))
      ⟨l, none, rfl, s1, hl, as, upd_same, pA.mono (tsame s1)⟩ ?_ ?_
    · rintro i σ H1 hi ⟨l, y3, rfl, sm, nl, hR⟩
      have hi : i < 12 := by omega
      have fi := gre_fine i hf
      have el := gre_length i vs0
      refine ⟨_, rfl, _, rfl, l, gre i vs0, 0 + i + 7, rfl, hR, by omega, fun r hr => (fi r hr).wid, by omega, fun H2 b s2 nb hb => ?_⟩
      exact ⟨l, b, gre i vs0, bestI (Ks606.bestPair (gre i vs0)), 0 + i, rfl, hR.mono s2, SqL.of hb, by omega, bestI_ok, fi, by omega, fun H3 r s3 nr hr3 => ⟨r, _, rfl, (sm.trans s2).trans s3, none_of (sm.trans s2) nr, hr3⟩⟩
    · rintro σ H1 ⟨l, y3, rfl, sm, nl, hR⟩
      exact ⟨_, rfl, q H1 l sm nl hR⟩

/-! ### greedy_averaging -/
def spGreedy (K : PySem.W.Frag) : Sp := fun vs H Q _ => ∃ (st : Int) (a : Addr) (ns : List Int), vs = [.int st, .ref a] ∧ SqL K H a (ns.map V.int) ∧ ns.length ≤ 10 ∧
  ∀ (H' : Hp) (p : Addr), H' p = some (.lst ((greedyM st ns).map V.int)) → Q (.ref p) H'

theorem sc_greedy_averaging : FnScope ["steps", "values", "averaged"] ["steps", "values"] (defScope s_greedy_averaging) := ⟨rfl, rfl, rfl, by decide +kernel, rfl, by decide +kernel, by decide +kernel⟩
theorem ok_greedy_averaging {f : Addr} {fd : FuncData} {k : Nat} (D : Def K mg "greedy_averaging" s_greedy_averaging ["steps", "values"] f fd) (T : Txt K mg) : FnOk P w K mg base CX0 (k + 7) f fd ["steps", "values"] (spGreedy K) := by
  refine D.F.ok sc_greedy_averaging (fun vs H Q E h => ?_) (fun cdv A outer s H vs Q E hr h => ?_)
  · obtain ⟨st, a, ns, rfl, _⟩ := h
    rfl
  · obtain ⟨st, a, ns, rfl, hA, hna, q⟩ := h
    obtain ⟨t22, g22⟩ := T.c_OUTSIDE_LIMITS
    obtain ⟨fV, fdV, DV⟩ := T.d_values_are_allowed
    obtain ⟨fC, fdC, DC⟩ := T.d_is_step_count
    obtain ⟨fA, fdA, DA⟩ := T.d_values_after_greedy
    obtain ⟨fR, fdR, DR⟩ := T.d_rationals_from
    obtain ⟨fE, fdE, DE⟩ := T.d_equality_of
    obtain ⟨fN, fdN, DN⟩ := T.d_numbers_from
    have GV : FnOk P w K mg base CX0 (k + 6) fV fdV ["values"] (spValuesOk K) := ok_values_are_allowed DV T
    have GC : FnOk P w K mg base CX0 (k + 6) fC fdC ["steps"] spIsSteps := ok_is_step_count DC T
    have GA : FnOk P w K mg base CX0 (k + 6) fA fdA ["rationals", "steps"] spAfterGreedy := ok_values_after_greedy DA T
    have GR : FnOk P w K mg base CX0 (k + 6) fR fdR ["integers"] (spRationals K) := ok_rationals_from DR T
    have GE : FnOk P w K mg base CX0 (k + 6) fE fdE ["rationals"] spEquality := ok_equality_of DE T
    have GN : FnOk P w K mg base CX0 (k + 6) fN fdN ["rationals"] spNumbers := ok_numbers_from DN T
    refine ⟨_, pss_cons (ps_if (PW.pt (pw_or (pt_not (pt_val (pe_call GV hr (by rfl) DV.g DV.F.kp DV.b .nil pass0 (pa_cons (pv 1) pa_nil)))) (pw_or1 (pt_not (pt_val (pe_call GC hr (by rfl) DC.g DC.F.kp DC.b .nil pass0 (pa_cons (pv 0) pa_nil)))))))
          (pss_one (ps_ret (pe_lst (pa_cons (pe_glob (v := .int (-22)) (by rfl) g22 ⟨_, rfl⟩) pa_nil)))) pss_nil)
      (pss_cons (ps_set (i := 2) sc_greedy_averaging.nd rfl (.inl rfl) (pe_call GA hr (by rfl) DA.g DA.F.kp DA.b .nil pass0 (pa_cons (pe_call GR hr (by rfl) DR.g DR.F.kp DR.b .nil pass0 (pa_cons (pv 1) pa_nil)) (pa_cons (pv 0) pa_nil))))
      (pss_one (ps_ret (pe_op op_cat (pe_lst (pa_cons (pe_call GE hr (by rfl) DE.g DE.F.kp DE.b .nil pass0 (pa_cons (pv 2) pa_nil)) pa_nil)) (pe_call GN hr (by rfl) DN.g DN.F.kp DN.b .nil pass0 (pa_cons (pv 2) pa_nil)))))), ?_⟩
    have no : ¬ (valuesOk ns = true ∧ (0 ≤ st ∧ st ≤ 12)) → ∀ H' p, H' p = some (.lst [.int (-22)]) → Q (.ref p) H' := fun e H' p hp => by
      refine q H' p ?_
      unfold greedyM
      rw [if_neg e]
      exact hp
    refine ⟨_, rfl, a, ns, rfl, hA, by omega, fun H1 s1 => ⟨_, rfl, ?_⟩⟩
    cases hv : valuesOk ns with
    | false =>
      refine iteT (iteT ⟨(by show 1 ≤ sizeLine; decide), fun p hp => no ?_ _ p upd_same⟩)
      rintro ⟨z, _⟩
      rw [hv] at z
      cases z
    | true =>
      refine iteF ⟨_, rfl, st, rfl, _, rfl, ?_⟩
      by_cases hst : 0 ≤ st ∧ st ≤ 12
      · rw [decide_eq_true hst]
        refine iteF ?_
        have hvl : 1 ≤ ns.length ∧ ns.length ≤ 8 := by
          unfold valuesOk at hv
          rw [Bool.and_eq_true] at hv
          exact of_decide_eq_true hv.1
        have eil : (initial ns).length = ns.length := List.length_map ..
        -- averaged = values_after_greedy(rationals_from(values), steps)
        refine ⟨_, rfl, a, ns, rfl, s1.seq hA, by omega, fun H3 r s3 nr hr3 => ?_⟩
        refine ⟨_, rfl, r, st, initial ns, rfl, hr3, by omega, initial_fine hv, hst.1, hst.2, fun H4 l s4 nl hl4 => ?_⟩
        have elen : (gre st.toNat (initial ns)).length = ns.length := (gre_length _ _).trans eil
        -- [equality_of(averaged)]
        refine ⟨_, rfl, l, gre st.toNat (initial ns), rfl, hl4, ?_, by omega, fun H5 s5 => ?_⟩
        · intro z
          rw [z] at elen
          have : 0 = ns.length := elen
          omega
        refine ⟨(by show 1 ≤ sizeLine; decide), fun e he => ?_⟩
        have s6 : Same H5 (upd H5 e (.lst [.int (eq01 (gre st.toNat (initial ns)))])) := same_upd he
        -- numbers_from(averaged)
        refine ⟨_, rfl, l, gre st.toNat (initial ns), rfl, (hl4.mono s5).mono s6, by omega, fun H7 n s7 nn hn => ?_⟩
        refine ⟨e, n, [.int (eq01 (gre st.toNat (initial ns)))], (flat (gre st.toNat (initial ns))).map V.int, rfl, rfl, s7 _ _ upd_same, hn, ?_, fun p np => ?_⟩
        · rw [List.length_map, flat_length, elen]
          exact Nat.le_of_lt (small1000 (by show 1 + 2 * ns.length ≤ 1000; omega))
        · refine q _ p ?_
          unfold greedyM
          rw [if_pos ⟨hv, hst⟩]
          exact upd_same
      · rw [decide_eq_false hst]
        exact iteT ⟨(by show 1 ≤ sizeLine; decide), fun p hp2 => no (fun z => hst z.2) _ p upd_same⟩

end
/-! ## The end: what the top has written -/
theorem all_mk {P : Program} {w : World} {K : PySem.W.Frag} {h : Heap} {mg : Str → Option Value} {fa : Addr} (X : K.In h) (G : h.Ns mainGlobals mg) (hfa : mg "greedy_averaging" = some (.ref fa))
    {f1 f2 f3 f4 f5 f6 f7 f8 f9 f10 f11 f12 f13 f14 f15 f16 f17 : Addr} {od1 an1 od2 an2 od3 an3 od4 an4 od5 an5 od6 an6 od7 an7 od8 an8 od9 an9 od10 an10 od11 an11 od12 an12 od13 an13 od14 an14 od15 an15 od16 an16 od17 an17 : Option Addr} {sl1 sl2 sl3 sl4 sl5 sl6 sl7 sl8 sl9 sl10 sl11 sl12 sl13 sl14 sl15 sl16 sl17 : Array (Option Value)} {oc1 kV1 dc1 pm1 cd1 ct1 oc2 kV2 dc2 pm2 cd2 ct2 oc3 kV3 dc3 pm3 cd3 ct3 oc4 kV4 dc4 pm4 cd4 ct4 oc5 kV5 dc5 pm5 cd5 ct5 oc6 kV6 dc6 pm6 cd6 ct6 oc7 kV7 dc7 pm7 cd7 ct7 oc8 kV8 dc8 pm8 cd8 ct8 oc9 kV9 dc9 pm9 cd9 ct9 oc10 kV10 dc10 pm10 cd10 ct10 oc11 kV11 dc11 pm11 cd11 ct11 oc12 kV12 dc12 pm12 cd12 ct12 oc13 kV13 dc13 pm13 cd13 ct13 oc14 kV14 dc14 pm14 cd14 ct14 oc15 kV15 dc15 pm15 cd15 ct15 oc16 kV16 dc16 pm16 cd16 ct16 oc17 kV17 dc17 pm17 cd17 ct17 : Value} {t1 : Tok} {t2 : Tok} {t3 : Tok} {t4 : Tok}
    (zb_len : PySem.W.nsIn K mainGlobals "len" = some none)
    (zb_range : PySem.W.nsIn K mainGlobals "range" = some none)
    (zb_all : PySem.W.nsIn K mainGlobals "all" = some none)
    (zb_list : PySem.W.nsIn K mainGlobals "list" = some none)
    (zb_abs : PySem.W.nsIn K mainGlobals "abs" = some none)
    (zc_MOST_VALUES : PySem.W.nsIn K mainGlobals "MOST_VALUES" = some (some (.int (8) t1)))
    (zc_LARGEST_VALUE : PySem.W.nsIn K mainGlobals "LARGEST_VALUE" = some (some (.int (99) t2)))
    (zc_MOST_STEPS : PySem.W.nsIn K mainGlobals "MOST_STEPS" = some (some (.int (12) t3)))
    (zc_OUTSIDE_LIMITS : PySem.W.nsIn K mainGlobals "OUTSIDE_LIMITS" = some (some (.int (-22) t4)))
    (a1 : PySem.W.nsIn K mainGlobals "greatest_common_divisor" = some (some (.ref f1)))
    (l1 : K.lookup f1 = some ⟨oc1, od1, .func (PySem.W.fnOf "greatest_common_divisor" "greatest_common_divisor" (defArgs s_greatest_common_divisor) (defBody s_greatest_common_divisor) (defScope s_greatest_common_divisor) .none kV1 dc1 pm1 an1 cd1 ct1), sl1⟩)
    (c1 : PySem.W.codeIn K cd1 "greatest_common_divisor" = true) (k1 : PySem.W.keepIn K (.ref f1) = true)
    (a2 : PySem.W.nsIn K mainGlobals "in_lowest_terms" = some (some (.ref f2)))
    (l2 : K.lookup f2 = some ⟨oc2, od2, .func (PySem.W.fnOf "in_lowest_terms" "in_lowest_terms" (defArgs s_in_lowest_terms) (defBody s_in_lowest_terms) (defScope s_in_lowest_terms) .none kV2 dc2 pm2 an2 cd2 ct2), sl2⟩)
    (c2 : PySem.W.codeIn K cd2 "in_lowest_terms" = true) (k2 : PySem.W.keepIn K (.ref f2) = true)
    (a3 : PySem.W.nsIn K mainGlobals "added" = some (some (.ref f3)))
    (l3 : K.lookup f3 = some ⟨oc3, od3, .func (PySem.W.fnOf "added" "added" (defArgs s_added) (defBody s_added) (defScope s_added) .none kV3 dc3 pm3 an3 cd3 ct3), sl3⟩)
    (c3 : PySem.W.codeIn K cd3 "added" = true) (k3 : PySem.W.keepIn K (.ref f3) = true)
    (a4 : PySem.W.nsIn K mainGlobals "absolute_difference" = some (some (.ref f4)))
    (l4 : K.lookup f4 = some ⟨oc4, od4, .func (PySem.W.fnOf "absolute_difference" "absolute_difference" (defArgs s_absolute_difference) (defBody s_absolute_difference) (defScope s_absolute_difference) .none kV4 dc4 pm4 an4 cd4 ct4), sl4⟩)
    (c4 : PySem.W.codeIn K cd4 "absolute_difference" = true) (k4 : PySem.W.keepIn K (.ref f4) = true)
    (a5 : PySem.W.nsIn K mainGlobals "is_less" = some (some (.ref f5)))
    (l5 : K.lookup f5 = some ⟨oc5, od5, .func (PySem.W.fnOf "is_less" "is_less" (defArgs s_is_less) (defBody s_is_less) (defScope s_is_less) .none kV5 dc5 pm5 an5 cd5 ct5), sl5⟩)
    (c5 : PySem.W.codeIn K cd5 "is_less" = true) (k5 : PySem.W.keepIn K (.ref f5) = true)
    (a6 : PySem.W.nsIn K mainGlobals "mean" = some (some (.ref f6)))
    (l6 : K.lookup f6 = some ⟨oc6, od6, .func (PySem.W.fnOf "mean" "mean" (defArgs s_mean) (defBody s_mean) (defScope s_mean) .none kV6 dc6 pm6 an6 cd6 ct6), sl6⟩)
    (c6 : PySem.W.codeIn K cd6 "mean" = true) (k6 : PySem.W.keepIn K (.ref f6) = true)
    (a7 : PySem.W.nsIn K mainGlobals "split_pairs" = some (some (.ref f7)))
    (l7 : K.lookup f7 = some ⟨oc7, od7, .func (PySem.W.fnOf "split_pairs" "split_pairs" (defArgs s_split_pairs) (defBody s_split_pairs) (defScope s_split_pairs) .none kV7 dc7 pm7 an7 cd7 ct7), sl7⟩)
    (c7 : PySem.W.codeIn K cd7 "split_pairs" = true) (k7 : PySem.W.keepIn K (.ref f7) = true)
    (a8 : PySem.W.nsIn K mainGlobals "is_count" = some (some (.ref f8)))
    (l8 : K.lookup f8 = some ⟨oc8, od8, .func (PySem.W.fnOf "is_count" "is_count" (defArgs s_is_count) (defBody s_is_count) (defScope s_is_count) .none kV8 dc8 pm8 an8 cd8 ct8), sl8⟩)
    (c8 : PySem.W.codeIn K cd8 "is_count" = true) (k8 : PySem.W.keepIn K (.ref f8) = true)
    (a9 : PySem.W.nsIn K mainGlobals "values_are_allowed" = some (some (.ref f9)))
    (l9 : K.lookup f9 = some ⟨oc9, od9, .func (PySem.W.fnOf "values_are_allowed" "values_are_allowed" (defArgs s_values_are_allowed) (defBody s_values_are_allowed) (defScope s_values_are_allowed) .none kV9 dc9 pm9 an9 cd9 ct9), sl9⟩)
    (c9 : PySem.W.codeIn K cd9 "values_are_allowed" = true) (k9 : PySem.W.keepIn K (.ref f9) = true)
    (a10 : PySem.W.nsIn K mainGlobals "rationals_from" = some (some (.ref f10)))
    (l10 : K.lookup f10 = some ⟨oc10, od10, .func (PySem.W.fnOf "rationals_from" "rationals_from" (defArgs s_rationals_from) (defBody s_rationals_from) (defScope s_rationals_from) .none kV10 dc10 pm10 an10 cd10 ct10), sl10⟩)
    (c10 : PySem.W.codeIn K cd10 "rationals_from" = true) (k10 : PySem.W.keepIn K (.ref f10) = true)
    (a11 : PySem.W.nsIn K mainGlobals "values_after" = some (some (.ref f11)))
    (l11 : K.lookup f11 = some ⟨oc11, od11, .func (PySem.W.fnOf "values_after" "values_after" (defArgs s_values_after) (defBody s_values_after) (defScope s_values_after) .none kV11 dc11 pm11 an11 cd11 ct11), sl11⟩)
    (c11 : PySem.W.codeIn K cd11 "values_after" = true) (k11 : PySem.W.keepIn K (.ref f11) = true)
    (a12 : PySem.W.nsIn K mainGlobals "equality_of" = some (some (.ref f12)))
    (l12 : K.lookup f12 = some ⟨oc12, od12, .func (PySem.W.fnOf "equality_of" "equality_of" (defArgs s_equality_of) (defBody s_equality_of) (defScope s_equality_of) .none kV12 dc12 pm12 an12 cd12 ct12), sl12⟩)
    (c12 : PySem.W.codeIn K cd12 "equality_of" = true) (k12 : PySem.W.keepIn K (.ref f12) = true)
    (a13 : PySem.W.nsIn K mainGlobals "numbers_from" = some (some (.ref f13)))
    (l13 : K.lookup f13 = some ⟨oc13, od13, .func (PySem.W.fnOf "numbers_from" "numbers_from" (defArgs s_numbers_from) (defBody s_numbers_from) (defScope s_numbers_from) .none kV13 dc13 pm13 an13 cd13 ct13), sl13⟩)
    (c13 : PySem.W.codeIn K cd13 "numbers_from" = true) (k13 : PySem.W.keepIn K (.ref f13) = true)
    (a14 : PySem.W.nsIn K mainGlobals "is_step_count" = some (some (.ref f14)))
    (l14 : K.lookup f14 = some ⟨oc14, od14, .func (PySem.W.fnOf "is_step_count" "is_step_count" (defArgs s_is_step_count) (defBody s_is_step_count) (defScope s_is_step_count) .none kV14 dc14 pm14 an14 cd14 ct14), sl14⟩)
    (c14 : PySem.W.codeIn K cd14 "is_step_count" = true) (k14 : PySem.W.keepIn K (.ref f14) = true)
    (a15 : PySem.W.nsIn K mainGlobals "best_pair" = some (some (.ref f15)))
    (l15 : K.lookup f15 = some ⟨oc15, od15, .func (PySem.W.fnOf "best_pair" "best_pair" (defArgs s_best_pair) (defBody s_best_pair) (defScope s_best_pair) .none kV15 dc15 pm15 an15 cd15 ct15), sl15⟩)
    (c15 : PySem.W.codeIn K cd15 "best_pair" = true) (k15 : PySem.W.keepIn K (.ref f15) = true)
    (a16 : PySem.W.nsIn K mainGlobals "values_after_greedy" = some (some (.ref f16)))
    (l16 : K.lookup f16 = some ⟨oc16, od16, .func (PySem.W.fnOf "values_after_greedy" "values_after_greedy" (defArgs s_values_after_greedy) (defBody s_values_after_greedy) (defScope s_values_after_greedy) .none kV16 dc16 pm16 an16 cd16 ct16), sl16⟩)
    (c16 : PySem.W.codeIn K cd16 "values_after_greedy" = true) (k16 : PySem.W.keepIn K (.ref f16) = true)
    (a17 : PySem.W.nsIn K mainGlobals "greedy_averaging" = some (some (.ref f17)))
    (l17 : K.lookup f17 = some ⟨oc17, od17, .func (PySem.W.fnOf "greedy_averaging" "greedy_averaging" (defArgs s_greedy_averaging) (defBody s_greedy_averaging) (defScope s_greedy_averaging) .none kV17 dc17 pm17 an17 cd17 ct17), sl17⟩)
    (c17 : PySem.W.codeIn K cd17 "greedy_averaging" = true) (k17 : PySem.W.keepIn K (.ref f17) = true)
    : ∃ fd : FuncData, (∀ (s : Shared) (us : List Value), us.length = (["steps", "values"] : List Str).length → BindsTo s fd ⟨us, []⟩ ((["steps", "values"] : List Str).zip us)) ∧ ∀ base : Heap, K.In base → base.Ns mainGlobals mg → FnOk P w K mg base CX0 7 fa fd ["steps", "values"] (spGreedy K) := by
  have e := hfa.symm.trans (PySem.W.mg_of X G a17)
  cases e
  have F1 := fun_mk (st := s_greatest_common_divisor) l1 c1 k1
  have b1 := F1.binds (ps := ["larger", "smaller"]) fun _ _ _ _ _ _ us hl => match us, hl with | [_, _], _ => rfl
  have F2 := fun_mk (st := s_in_lowest_terms) l2 c2 k2
  have b2 := F2.binds (ps := ["numerator", "denominator"]) fun _ _ _ _ _ _ us hl => match us, hl with | [_, _], _ => rfl
  have F3 := fun_mk (st := s_added) l3 c3 k3
  have b3 := F3.binds (ps := ["first", "second"]) fun _ _ _ _ _ _ us hl => match us, hl with | [_, _], _ => rfl
  have F4 := fun_mk (st := s_absolute_difference) l4 c4 k4
  have b4 := F4.binds (ps := ["first", "second"]) fun _ _ _ _ _ _ us hl => match us, hl with | [_, _], _ => rfl
  have F5 := fun_mk (st := s_is_less) l5 c5 k5
  have b5 := F5.binds (ps := ["first", "second"]) fun _ _ _ _ _ _ us hl => match us, hl with | [_, _], _ => rfl
  have F6 := fun_mk (st := s_mean) l6 c6 k6
  have b6 := F6.binds (ps := ["first", "second"]) fun _ _ _ _ _ _ us hl => match us, hl with | [_, _], _ => rfl
  have F7 := fun_mk (st := s_split_pairs) l7 c7 k7
  have b7 := F7.binds (ps := ["pairs"]) fun _ _ _ _ _ _ us hl => match us, hl with | [_], _ => rfl
  have F8 := fun_mk (st := s_is_count) l8 c8 k8
  have b8 := F8.binds (ps := ["count"]) fun _ _ _ _ _ _ us hl => match us, hl with | [_], _ => rfl
  have F9 := fun_mk (st := s_values_are_allowed) l9 c9 k9
  have b9 := F9.binds (ps := ["values"]) fun _ _ _ _ _ _ us hl => match us, hl with | [_], _ => rfl
  have F10 := fun_mk (st := s_rationals_from) l10 c10 k10
  have b10 := F10.binds (ps := ["integers"]) fun _ _ _ _ _ _ us hl => match us, hl with | [_], _ => rfl
  have F11 := fun_mk (st := s_values_after) l11 c11 k11
  have b11 := F11.binds (ps := ["rationals", "pairs"]) fun _ _ _ _ _ _ us hl => match us, hl with | [_, _], _ => rfl
  have F12 := fun_mk (st := s_equality_of) l12 c12 k12
  have b12 := F12.binds (ps := ["rationals"]) fun _ _ _ _ _ _ us hl => match us, hl with | [_], _ => rfl
  have F13 := fun_mk (st := s_numbers_from) l13 c13 k13
  have b13 := F13.binds (ps := ["rationals"]) fun _ _ _ _ _ _ us hl => match us, hl with | [_], _ => rfl
  have F14 := fun_mk (st := s_is_step_count) l14 c14 k14
  have b14 := F14.binds (ps := ["steps"]) fun _ _ _ _ _ _ us hl => match us, hl with | [_], _ => rfl
  have F15 := fun_mk (st := s_best_pair) l15 c15 k15
  have b15 := F15.binds (ps := ["rationals"]) fun _ _ _ _ _ _ us hl => match us, hl with | [_], _ => rfl
  have F16 := fun_mk (st := s_values_after_greedy) l16 c16 k16
  have b16 := F16.binds (ps := ["rationals", "steps"]) fun _ _ _ _ _ _ us hl => match us, hl with | [_, _], _ => rfl
  have F17 := fun_mk (st := s_greedy_averaging) l17 c17 k17
  have b17 := F17.binds (ps := ["steps", "values"]) fun _ _ _ _ _ _ us hl => match us, hl with | [_, _], _ => rfl
  have T : Txt K mg :=
    { b_len := PySem.W.mg_none_of X G zb_len,
      b_range := PySem.W.mg_none_of X G zb_range,
      b_all := PySem.W.mg_none_of X G zb_all,
      b_list := PySem.W.mg_none_of X G zb_list,
      b_abs := PySem.W.mg_none_of X G zb_abs,
      c_MOST_VALUES := ⟨_, PySem.W.mg_of X G zc_MOST_VALUES⟩,
      c_LARGEST_VALUE := ⟨_, PySem.W.mg_of X G zc_LARGEST_VALUE⟩,
      c_MOST_STEPS := ⟨_, PySem.W.mg_of X G zc_MOST_STEPS⟩,
      c_OUTSIDE_LIMITS := ⟨_, PySem.W.mg_of X G zc_OUTSIDE_LIMITS⟩,
      d_greatest_common_divisor := ⟨_, _, F1, b1, PySem.W.mg_of X G a1⟩,
      d_in_lowest_terms := ⟨_, _, F2, b2, PySem.W.mg_of X G a2⟩,
      d_added := ⟨_, _, F3, b3, PySem.W.mg_of X G a3⟩,
      d_absolute_difference := ⟨_, _, F4, b4, PySem.W.mg_of X G a4⟩,
      d_is_less := ⟨_, _, F5, b5, PySem.W.mg_of X G a5⟩,
      d_mean := ⟨_, _, F6, b6, PySem.W.mg_of X G a6⟩,
      d_split_pairs := ⟨_, _, F7, b7, PySem.W.mg_of X G a7⟩,
      d_is_count := ⟨_, _, F8, b8, PySem.W.mg_of X G a8⟩,
      d_values_are_allowed := ⟨_, _, F9, b9, PySem.W.mg_of X G a9⟩,
      d_rationals_from := ⟨_, _, F10, b10, PySem.W.mg_of X G a10⟩,
      d_values_after := ⟨_, _, F11, b11, PySem.W.mg_of X G a11⟩,
      d_equality_of := ⟨_, _, F12, b12, PySem.W.mg_of X G a12⟩,
      d_numbers_from := ⟨_, _, F13, b13, PySem.W.mg_of X G a13⟩,
      d_is_step_count := ⟨_, _, F14, b14, PySem.W.mg_of X G a14⟩,
      d_best_pair := ⟨_, _, F15, b15, PySem.W.mg_of X G a15⟩,
      d_values_after_greedy := ⟨_, _, F16, b16, PySem.W.mg_of X G a16⟩ }
  exact ⟨PySem.W.fnOf "greedy_averaging" "greedy_averaging" (defArgs s_greedy_averaging) (defBody s_greedy_averaging) (defScope s_greedy_averaging) .none kV17 dc17 pm17 an17 cd17 ct17, fun s us hu => match us, hu with | [_, _], _ => .of_eq rfl, fun base _ _ => ok_greedy_averaging (k := 0) ⟨F17, b17, PySem.W.mg_of X G a17⟩ T⟩
end MP
open PySem PySem.W PyProof.Rows
set_option maxRecDepth 100000 in
set_option maxHeartbeats 8000000 in
theorem PySem.Challenge.cw_meanpairs_s06_greedy_averaging_holds : PySem.Challenge.rw_meanpairs_s06_greedy_averaging.Holds := by
  w_on; k_headS; (case hw => exact ⟨[.int 0, .list []], by decide +kernel, by decide +kernel⟩)
  k_fillS
  refine L2.walk_specK (r := PySem.Challenge.rw_meanpairs_s06_greedy_averaging) (k := 7) (CX := L2.CX0) (ps := ["steps", "values"]) (sp := MP.spGreedy) (by decide +kernel) rfl rfl ⟨rfl, by decide, by decide⟩ (fun w h Y => PySem.W.kIn_of Y) ?F ?S (fun _ _ _ _ z => z)
  case F =>
    intro w mg fa h Y KX G hmg
    refine' MP.all_mk KX G hmg ?zb_len ?zb_range ?zb_all ?zb_list ?zb_abs ?zc_MOST_VALUES ?zc_LARGEST_VALUE ?zc_MOST_STEPS ?zc_OUTSIDE_LIMITS ?a1 ?l1 ?c1 ?k1 ?a2 ?l2 ?c2 ?k2 ?a3 ?l3 ?c3 ?k3 ?a4 ?l4 ?c4 ?k4 ?a5 ?l5 ?c5 ?k5 ?a6 ?l6 ?c6 ?k6 ?a7 ?l7 ?c7 ?k7 ?a8 ?l8 ?c8 ?k8 ?a9 ?l9 ?c9 ?k9 ?a10 ?l10 ?c10 ?k10 ?a11 ?l11 ?c11 ?k11 ?a12 ?l12 ?c12 ?k12 ?a13 ?l13 ?c13 ?k13 ?a14 ?l14 ?c14 ?k14 ?a15 ?l15 ?c15 ?k15 ?a16 ?l16 ?c16 ?k16 ?a17 ?l17 ?c17 ?k17
    (case zb_len => k_is)
    (case zb_range => k_is)
    (case zb_all => k_is)
    (case zb_list => k_is)
    (case zb_abs => k_is)
    (case zc_MOST_VALUES => k_is)
    (case zc_LARGEST_VALUE => k_is)
    (case zc_MOST_STEPS => k_is)
    (case zc_OUTSIDE_LIMITS => k_is)
    (case a1 => k_is)
    (case l1 => k_is)
    (case c1 => k_is)
    (case k1 => k_is)
    (case a2 => k_is)
    (case l2 => k_is)
    (case c2 => k_is)
    (case k2 => k_is)
    (case a3 => k_is)
    (case l3 => k_is)
    (case c3 => k_is)
    (case k3 => k_is)
    (case a4 => k_is)
    (case l4 => k_is)
    (case c4 => k_is)
    (case k4 => k_is)
    (case a5 => k_is)
    (case l5 => k_is)
    (case c5 => k_is)
    (case k5 => k_is)
    (case a6 => k_is)
    (case l6 => k_is)
    (case c6 => k_is)
    (case k6 => k_is)
    (case a7 => k_is)
    (case l7 => k_is)
    (case c7 => k_is)
    (case k7 => k_is)
    (case a8 => k_is)
    (case l8 => k_is)
    (case c8 => k_is)
    (case k8 => k_is)
    (case a9 => k_is)
    (case l9 => k_is)
    (case c9 => k_is)
    (case k9 => k_is)
    (case a10 => k_is)
    (case l10 => k_is)
    (case c10 => k_is)
    (case k10 => k_is)
    (case a11 => k_is)
    (case l11 => k_is)
    (case c11 => k_is)
    (case k11 => k_is)
    (case a12 => k_is)
    (case l12 => k_is)
    (case c12 => k_is)
    (case k12 => k_is)
    (case a13 => k_is)
    (case l13 => k_is)
    (case c13 => k_is)
    (case k13 => k_is)
    (case a14 => k_is)
    (case l14 => k_is)
    (case c14 => k_is)
    (case k14 => k_is)
    (case a15 => k_is)
    (case l15 => k_is)
    (case c15 => k_is)
    (case k15 => k_is)
    (case a16 => k_is)
    (case l16 => k_is)
    (case c16 => k_is)
    (case k16 => k_is)
    (case a17 => k_is)
    (case l17 => k_is)
    (case c17 => k_is)
    (case k17 => k_is)
  case S =>
    intro K H xs a hO hwi hask hx
    cases hx with
    | cons h1 h2 =>
      cases h2 with
      | cons h3 h4 =>
        cases h4
        cases h1
        cases h3 with
        | lst hs ha =>
          have e := L2.ints_dw a.2.1 _ ha
          subst e
          have q : (Codec.inInt 0 4294967295 a.1 && ((Codec.inLen 0 10 a.2.1 && a.2.1.all (Codec.inInt 0 4294967295)) && true)) = true := hwi
          simp only [Bool.and_eq_true, Bool.and_true] at q
          obtain ⟨q1, q3, q4⟩ := q
          have e : PyKs606.greedy_averaging a.1 a.2.1 = MP.greedyM a.1 a.2.1 := MP.greedy_law (Codec.inInt_iff.mp q1).1 (MP.all_pos q4)
          refine ⟨a.1, _, a.2.1, rfl, hs, (Codec.inNat_iff.mp q3).2, fun H' p hp => ?_⟩
          have z : L2.Dw K H' (.ref p) (WData.list ((PyKs606.greedy_averaging a.1 a.2.1).map WData.int)) := by
            rw [e]
            exact .lst (L2.SqL.of hp) (L2.dw_ints _)
          exact z
#print axioms PySem.Challenge.cw_meanpairs_s06_greedy_averaging_holds
