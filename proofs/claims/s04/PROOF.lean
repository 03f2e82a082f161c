import PyProof.Rows.All
import Wide.All
import OpenK.AllK
import Wide.FinOn
import PyProof.EqAt
import PyProof.EqKinds
import PyProof.TupleCall
import Open.SpecLaws
import KE.OsGo
import HandS.ForSpec
import HandS.Comp
import HandS.Iter
import HandS.Walk
import HandS.Wide
import PySem.Challenge.RW_meanpairs_s04_plan
set_option Elab.async false
set_option linter.all false
set_option maxRecDepth 100000
set_option maxHeartbeats 2000000
namespace MP
open Ks604 (Rational)


theorem make_pos {n : Int} {d : Nat} (h : 0 < d) : Rational.make n d = ⟨n / ((Nat.gcd n.natAbs d : Nat) : Int), d / Nat.gcd n.natAbs d⟩ := by
  unfold Rational.make
  rw [if_neg (by omega)]

theorem make_mul (n : Int) {d k : Nat} (hd : 0 < d) (hk : 0 < k) : Rational.make (n * (k : Int)) (d * k) = Rational.make n d := by
  have hdk : 0 < d * k := Nat.mul_pos hd hk
  rw [make_pos hdk, make_pos hd]
  have e1 : (n * (k : Int)).natAbs = n.natAbs * k := by rw [Int.natAbs_mul, Int.natAbs_natCast]
  rw [e1, Nat.gcd_mul_right]
  have hg : 0 < Nat.gcd n.natAbs d := Nat.gcd_pos_of_pos_right _ hd
  have e2 : n * (k : Int) / ((Nat.gcd n.natAbs d * k : Nat) : Int) = n / ((Nat.gcd n.natAbs d : Nat) : Int) := by
    rw [Int.natCast_mul]
    exact Int.mul_ediv_mul_of_pos_left _ _ (by omega)
  have e3 : d * k / (Nat.gcd n.natAbs d * k) = d / Nat.gcd n.natAbs d := Nat.mul_div_mul_right _ _ hk
  rw [e2, e3]

/-- what make gives, in products -/
theorem make_parts (n : Int) {d : Nat} (hd : 0 < d) : ∃ g : Nat, 0 < g ∧ (Rational.make n d).num * (g : Int) = n ∧ (Rational.make n d).den * g = d ∧ 0 < (Rational.make n d).den ∧ Nat.gcd (Rational.make n d).num.natAbs (Rational.make n d).den = 1 := by
  have hg : 0 < Nat.gcd n.natAbs d := Nat.gcd_pos_of_pos_right _ hd
  have hdv : ((Nat.gcd n.natAbs d : Nat) : Int) ∣ n := Int.ofNat_dvd_left.mpr (Nat.gcd_dvd_left _ _)
  refine ⟨Nat.gcd n.natAbs d, hg, ?_, ?_, ?_, ?_⟩
  · rw [make_pos hd]
    exact Int.ediv_mul_cancel hdv
  · rw [make_pos hd]
    exact Nat.div_mul_cancel (Nat.gcd_dvd_right _ _)
  · rw [make_pos hd]
    exact Nat.div_pos (Nat.le_of_dvd hd (Nat.gcd_dvd_right _ _)) hg
  · rw [make_pos hd]
    show Nat.gcd (n / ((Nat.gcd n.natAbs d : Nat) : Int)).natAbs (d / Nat.gcd n.natAbs d) = 1
    have e : (n / ((Nat.gcd n.natAbs d : Nat) : Int)).natAbs = n.natAbs / Nat.gcd n.natAbs d := by
      rw [Int.natAbs_ediv_of_dvd hdv, Int.natAbs_natCast]
    rw [e]
    exact Nat.gcd_div_gcd_div_gcd_of_pos_right hd

/-- the numerator ahead of reducing -/
def meanNum (a b : Rational) : Int := a.num * b.den + b.num * a.den
def meanDen (a b : Rational) : Nat := 2 * a.den * b.den
def mean (a b : Rational) : Rational := Rational.make (meanNum a b) (meanDen a b)

theorem half : Rational.make 1 2 = ⟨1, 2⟩ := by decide

theorem meanDen_pos {a b : Rational} (ha : 0 < a.den) (hb : 0 < b.den) : 0 < meanDen a b := Nat.mul_pos (Nat.mul_pos (by decide) ha) hb

theorem mean_is {a b : Rational} (ha : 0 < a.den) (hb : 0 < b.den) : (a + b) * Rational.make 1 2 = mean a b := by
  show Rational.mul (Rational.add a b) (Rational.make 1 2) = mean a b
  rw [half]
  unfold Rational.mul Rational.add mean meanNum meanDen
  generalize hn : a.num * b.den + b.num * a.den = n
  have hd : 0 < a.den * b.den := Nat.mul_pos ha hb
  rw [Nat.mul_assoc 2 a.den b.den]
  generalize a.den * b.den = d at hd
  obtain ⟨g, hg, e1, e2, e3, _⟩ := make_parts n hd
  show Rational.make ((Rational.make n d).num * 1) ((Rational.make n d).den * 2) = _
  rw [Int.mul_one, ← make_mul _ (Nat.mul_pos e3 (by decide : 0 < 2)) hg, e1]
  congr 1
  rw [Nat.mul_right_comm, e2, Nat.mul_comm]

/-- a value on its way: behind k averages its denominator divides 2 ^ k; it is from 0 to 99 -/
structure Fine (k : Nat) (r : Rational) : Prop where
  pos : 0 < r.den
  dv : r.den ∣ 2 ^ k
  lo : 0 ≤ r.num
  hi : r.num ≤ 99 * (r.den : Int)

theorem Fine.mono {k j : Nat} {r : Rational} (h : Fine k r) (hk : k ≤ j) : Fine j r := ⟨h.pos, Nat.dvd_trans h.dv (Nat.pow_dvd_pow 2 hk), h.lo, h.hi⟩
theorem Fine.den_le {k : Nat} {r : Rational} (h : Fine k r) : r.den ≤ 2 ^ k := Nat.le_of_dvd (Nat.pow_pos (by decide)) h.dv
theorem Fine.of {n : Int} (h0 : 0 ≤ n) (h1 : n ≤ 99) : Fine 0 ⟨n, 1⟩ := ⟨Nat.one_pos, Nat.dvd_refl 1, h0, by show n ≤ 99 * ((1 : Nat) : Int); omega⟩
theorem Fine.num_lt {k : Nat} {r : Rational} (h : Fine k r) : r.num.natAbs < 2 ^ (k + 7) := by
  have h1 := h.den_le
  have h2 := h.lo
  have h3 := h.hi
  rw [Nat.pow_add]
  have : (2 : Nat) ^ 7 = 128 := by decide
  rw [this]
  have h4 : 0 < r.den := h.pos
  omega
theorem Fine.den_lt {k : Nat} {r : Rational} (h : Fine k r) : ((r.den : Int)).natAbs < 2 ^ (k + 7) := by
  have h1 := h.den_le
  rw [Nat.pow_add, Int.natAbs_natCast]
  have : (2 : Nat) ^ 7 = 128 := by decide
  rw [this]
  have h4 : 0 < r.den := h.pos
  omega

theorem Fine.mean {k : Nat} {a b : Rational} (ha : Fine k a) (hb : Fine k b) : Fine (k + 1) (mean a b) := by
  have hD := meanDen_pos ha.pos hb.pos
  obtain ⟨g, hg, e1, e2, e3, e4⟩ := make_parts (meanNum a b) hD
  have hgI : (0 : Int) < (g : Int) := by omega
  have hnum : 0 ≤ meanNum a b := by
    unfold meanNum
    exact Int.add_nonneg (Int.mul_nonneg ha.lo (by omega)) (Int.mul_nonneg hb.lo (by omega))
  have hle : meanNum a b ≤ 99 * (meanDen a b : Int) := by
    unfold meanNum meanDen
    have p1 : a.num * (b.den : Int) ≤ 99 * (a.den : Int) * (b.den : Int) := Int.mul_le_mul_of_nonneg_right ha.hi (by omega)
    have p2 : b.num * (a.den : Int) ≤ 99 * (b.den : Int) * (a.den : Int) := Int.mul_le_mul_of_nonneg_right hb.hi (by omega)
    have p3 : (99 : Int) * (b.den : Int) * (a.den : Int) = 99 * (a.den : Int) * (b.den : Int) := by
      rw [Int.mul_assoc, Int.mul_comm (b.den : Int), ← Int.mul_assoc]
    have p4 : 99 * ((2 * a.den * b.den : Nat) : Int) = 2 * (99 * (a.den : Int) * (b.den : Int)) := by
      rw [Int.natCast_mul, Int.natCast_mul]
      show 99 * (2 * (a.den : Int) * (b.den : Int)) = 2 * (99 * (a.den : Int) * (b.den : Int))
      simp only [← Int.mul_assoc]
      rfl
    omega
  refine ⟨e3, ?_, ?_, ?_⟩
  · -- the denominator divides 2 ^ (k + 1)
    obtain ⟨x, hx⟩ := ha.dv
    obtain ⟨y, hy⟩ := hb.dv
    -- N = num a * x + num b * y, N * den = num * 2 ^ (k + 1)
    have key : (a.num * x + b.num * y) * (meanDen a b : Int) = meanNum a b * ((2 ^ (k + 1) : Nat) : Int) := by
      unfold meanNum meanDen
      have hx' : ((2 ^ k : Nat) : Int) = (a.den : Int) * (x : Int) := by rw [hx, Int.natCast_mul]
      have hy' : ((2 ^ k : Nat) : Int) = (b.den : Int) * (y : Int) := by rw [hy, Int.natCast_mul]
      rw [Nat.pow_succ, Int.natCast_mul, Int.natCast_mul, Int.natCast_mul, Int.add_mul, Int.add_mul]
      have q1 : a.num * (x : Int) * ((2 : Nat) * (a.den : Int) * (b.den : Int)) = a.num * (b.den : Int) * (((2 ^ k : Nat) : Int) * ((2 : Nat) : Int)) := by
        rw [hx']
        ac_rfl
      have q2 : b.num * (y : Int) * ((2 : Nat) * (a.den : Int) * (b.den : Int)) = b.num * (a.den : Int) * (((2 ^ k : Nat) : Int) * ((2 : Nat) : Int)) := by
        rw [hy']
        ac_rfl
      rw [q1, q2]
    have key2 : (a.num * x + b.num * y) * ((MP.mean a b).den : Int) = (MP.mean a b).num * ((2 ^ (k + 1) : Nat) : Int) := by
      have e1' : meanNum a b = (MP.mean a b).num * (g : Int) := e1.symm
      have e2' : (meanDen a b : Int) = ((MP.mean a b).den : Int) * (g : Int) := by
        rw [← Int.natCast_mul]
        exact congrArg _ e2.symm
      rw [e1', e2'] at key
      have key3 : ((a.num * x + b.num * y) * ((MP.mean a b).den : Int)) * (g : Int) = ((MP.mean a b).num * ((2 ^ (k + 1) : Nat) : Int)) * (g : Int) := by
        rw [Int.mul_assoc, key]
        ac_rfl
      exact Int.eq_of_mul_eq_mul_right (by omega) key3
    have hdvd : (MP.mean a b).den ∣ (MP.mean a b).num.natAbs * 2 ^ (k + 1) := by
      have : (((MP.mean a b).den : Nat) : Int) ∣ (MP.mean a b).num * ((2 ^ (k + 1) : Nat) : Int) := ⟨_, by rw [← key2, Int.mul_comm]⟩
      have h2 := Int.ofNat_dvd_left.mp this
      rw [Int.natAbs_mul, Int.natAbs_natCast] at h2
      exact h2
    have hco : Nat.Coprime (MP.mean a b).den (MP.mean a b).num.natAbs := by
      show Nat.gcd _ _ = 1
      rw [Nat.gcd_comm]
      exact e4
    exact hco.dvd_of_dvd_mul_left hdvd
  · have : 0 ≤ (MP.mean a b).num * (g : Int) := by
      rw [show (MP.mean a b).num * (g : Int) = meanNum a b from e1]
      exact hnum
    exact Int.nonneg_of_mul_nonneg_left this hgI
  · have h1 : (MP.mean a b).num * (g : Int) ≤ (99 * ((MP.mean a b).den : Int)) * (g : Int) := by
      rw [show (MP.mean a b).num * (g : Int) = meanNum a b from e1, Int.mul_assoc, ← Int.natCast_mul, show (MP.mean a b).den * g = meanDen a b from e2]
      exact hle
    exact Int.le_of_mul_le_mul_right h1 hgI

/-! the greatest common divisor, by the rest -/
theorem gcd_step (a : Int) {b : Int} (hb : 0 < b) : Int.gcd b (a.fmod b) = Int.gcd a b := by
  rw [Int.fmod_eq_emod_of_nonneg _ (by omega), Int.gcd_comm b, Int.emod_def, show a - b * (a / b) = a + b * (-(a / b)) by rw [Int.mul_neg, Int.sub_eq_add_neg], Int.gcd_add_mul_left_left]

/-! the flat list, two by two -/
def two : List Int → List (Int × Int)
  | i :: j :: r => (i, j) :: two r
  | _ => []
def natP (p : Int × Int) : Nat × Nat := (p.1.toNat, p.2.toNat)
def isIx (i c : Int) : Bool := decide (0 ≤ i ∧ i < c)
def pairOk (c : Int) (p : Int × Int) : Bool := !(decide (p.1 = p.2) || !isIx p.1 c || !isIx p.2 c)
def pairsOk (ns : List Int) (c : Int) : Bool := decide (ns.length % 2 = 0 ∧ ns.length ≤ 40) && (two ns).all (pairOk c)

theorem two_length : ∀ ns : List Int, (two ns).length = ns.length / 2
  | [] => rfl
  | [_] => by
    show 0 = 1 / 2
    decide
  | i :: j :: r => by
    show (two r).length + 1 = (r.length + 1 + 1) / 2
    rw [two_length r]
    omega
theorem two_get : ∀ (ns : List Int) (k : Nat) (x y : Int), ns[2 * k]? = some x → ns[2 * k + 1]? = some y → (two ns)[k]? = some (x, y)
  | [], _, _, _, h, _ => by simp at h
  | [_], 0, _, _, _, h => by simp at h
  | [_], k + 1, _, _, h, _ => by simp at h
  | i :: j :: r, 0, x, y, h, h2 => by
    have e1 : i = x := Option.some.inj h
    have e2 : j = y := Option.some.inj h2
    rw [← e1, ← e2]
    rfl
  | i :: j :: r, k + 1, x, y, h, h2 => two_get r k x y h h2
theorem two_mem : ∀ {ns : List Int} {p : Int × Int}, p ∈ two ns → p.1 ∈ ns ∧ p.2 ∈ ns
  | [], p, h => by cases h
  | [_], p, h => by cases h
  | i :: j :: r, p, h => by
    rcases List.mem_cons.mp h with e | h
    · subst e
      exact ⟨List.mem_cons_self, List.mem_cons_of_mem _ List.mem_cons_self⟩
    · obtain ⟨a, b⟩ := two_mem h
      exact ⟨List.mem_cons_of_mem _ (List.mem_cons_of_mem _ a), List.mem_cons_of_mem _ (List.mem_cons_of_mem _ b)⟩

theorem pairOk_nat {c : Nat} {i j : Int} (hi : 0 ≤ i) (hj : 0 ≤ j) : (c ≤ i.toNat ∨ c ≤ j.toNat ∨ i.toNat = j.toNat) ↔ pairOk c (i, j) = false := by
  unfold pairOk isIx
  simp only [Bool.not_eq_false', Bool.or_eq_true, decide_eq_true_eq, Bool.not_eq_true', decide_eq_false_iff_not]
  omega

theorem parse_is (c : Nat) : ∀ ns : List Int, (∀ x ∈ ns, 0 ≤ x) → Ks606.parsePairs c (ns.map Int.toNat) = if ns.length % 2 = 0 ∧ (two ns).all (pairOk c) = true then some ((two ns).map natP) else none
  | [], _ => rfl
  | [x], _ => by
    show none = _
    rw [if_neg]
    intro h
    have := h.1
    simp at this
  | i :: j :: r, h => by
    have hi : 0 ≤ i := h i List.mem_cons_self
    have hj : 0 ≤ j := h j (List.mem_cons_of_mem _ List.mem_cons_self)
    have ih := parse_is c r fun x hx => h x (List.mem_cons_of_mem _ (List.mem_cons_of_mem _ hx))
    show (if c ≤ i.toNat ∨ c ≤ j.toNat ∨ i.toNat = j.toNat then none else (Ks606.parsePairs c (r.map Int.toNat)).map fun pairs => (i.toNat, j.toNat) :: pairs) = _
    have hlen : (i :: j :: r).length % 2 = 0 ↔ r.length % 2 = 0 := by
      simp only [List.length_cons]
      omega
    have hall : (two (i :: j :: r)).all (pairOk c) = true ↔ (pairOk c (i, j) = true ∧ (two r).all (pairOk c) = true) := by
      show (pairOk c (i, j) && (two r).all (pairOk c)) = true ↔ _
      rw [Bool.and_eq_true]
    by_cases hp : pairOk c (i, j) = true
    · have hn : ¬ (c ≤ i.toNat ∨ c ≤ j.toNat ∨ i.toNat = j.toNat) := by
        rw [pairOk_nat hi hj, hp]
        exact Bool.noConfusion
      rw [if_neg hn, ih]
      by_cases hr : r.length % 2 = 0 ∧ (two r).all (pairOk c) = true
      · rw [if_pos hr, if_pos ⟨hlen.mpr hr.1, hall.mpr ⟨hp, hr.2⟩⟩]
        rfl
      · rw [if_neg hr, if_neg fun z => hr ⟨hlen.mp z.1, (hall.mp z.2).2⟩]
        rfl
    · have hp' : pairOk c (i, j) = false := by simpa using hp
      rw [if_pos ((pairOk_nat hi hj).mpr hp'), if_neg fun z => hp (hall.mp z.2).1]

/-- what withPairs does, by the flat list -/
theorem withPairs_is (c : Nat) {ns : List Int} (h : ∀ x ∈ ns, 0 ≤ x) (k : List (Nat × Nat) → Ks606.Result) :
    Ks606.withPairs c (ns.map Int.toNat) k = if pairsOk ns c = true then k ((two ns).map natP) else Ks606.number (-22) := by
  unfold Ks606.withPairs
  rw [parse_is c ns h]
  unfold pairsOk
  by_cases h1 : ns.length % 2 = 0 ∧ (two ns).all (pairOk c) = true
  · rw [if_pos h1]
    show (if 20 < ((two ns).map natP).length then Ks606.number (-22) else k ((two ns).map natP)) = _
    rw [List.length_map, two_length]
    by_cases h2 : ns.length ≤ 40
    · rw [if_neg (by omega), if_pos]
      rw [h1.2, Bool.and_true]
      exact decide_eq_true ⟨h1.1, h2⟩
    · rw [if_pos (by omega), if_neg]
      rw [h1.2, Bool.and_true]
      exact fun z => h2 (of_decide_eq_true z).2
  · rw [if_neg h1, if_neg]
    intro z
    rw [Bool.and_eq_true] at z
    exact h1 ⟨(of_decide_eq_true z.1).1, z.2⟩

/-! the values -/
abbrev Vals := List Rational
def ofI (n : Int) : Rational := ⟨n, 1⟩
def initial (ns : List Int) : Vals := ns.map ofI
def valuesOk (ns : List Int) : Bool := decide (1 ≤ ns.length ∧ ns.length ≤ 8) && ns.all fun x => decide (0 ≤ x ∧ x ≤ 99)

theorem map_ofNat {ns : List Int} (h : ∀ x ∈ ns, 0 ≤ x) : (ns.map Int.toNat).map Rational.ofNat = initial ns := by
  unfold initial
  rw [List.map_map]
  refine List.map_congr_left fun x hx => ?_
  show (⟨((x.toNat : Nat) : Int), 1⟩ : Rational) = ⟨x, 1⟩
  rw [Int.toNat_of_nonneg (h x hx)]

theorem withValues_is {ns : List Int} (h : ∀ x ∈ ns, 0 ≤ x) (k : Vals → Ks606.Result) :
    Ks606.withValues (ns.map Int.toNat) k = if valuesOk ns = true then k (initial ns) else Ks606.number (-22) := by
  unfold Ks606.withValues
  rw [map_ofNat h, List.length_map]
  have e : ((ns.map Int.toNat).any fun x => decide (99 < x)) = true ↔ (ns.all fun x => decide (0 ≤ x ∧ x ≤ 99)) = false := by
    rw [List.any_eq_true, ← Bool.not_eq_true, List.all_eq_true]
    constructor
    · rintro ⟨x, hx, hd⟩ z
      obtain ⟨y, hy, rfl⟩ := List.mem_map.mp hx
      have a := of_decide_eq_true hd
      have b := of_decide_eq_true (z y hy)
      omega
    · intro z
      apply Classical.byContradiction
      intro w
      apply z
      intro x hx
      refine decide_eq_true ⟨h x hx, ?_⟩
      apply Classical.byContradiction
      intro q
      exact w ⟨x.toNat, List.mem_map.mpr ⟨x, hx, rfl⟩, decide_eq_true (by omega)⟩
  unfold valuesOk
  by_cases h1 : 1 ≤ ns.length ∧ ns.length ≤ 8
  · cases h2 : ns.all fun x => decide (0 ≤ x ∧ x ≤ 99) with
    | true =>
      rw [if_neg, if_pos]
      · rw [Bool.and_true]
        exact decide_eq_true h1
      · rintro (z | z | z)
        · omega
        · have z : 8 < ns.length := z
          omega
        · rw [e, h2] at z
          cases z
    | false =>
      rw [if_pos (.inr (.inr (e.mpr h2))), if_neg]
      rw [Bool.and_false]
      exact Bool.noConfusion
  · rw [if_pos, if_neg]
    · rw [decide_eq_false h1, Bool.false_and]
      exact Bool.noConfusion
    · by_cases h2 : ns.length < 1
      · exact .inl h2
      · refine .inr (.inl ?_)
        show 8 < ns.length
        omega

/-! the averages -/
def FineAll (k : Nat) (vs : Vals) : Prop := ∀ r ∈ vs, Fine k r
def avg (vs : Vals) (p : Int × Int) : Vals := Ks606.average vs p.1.toNat p.2.toNat
def after (vs : Vals) (ps : List (Int × Int)) : Vals := ps.foldl avg vs
theorem after_is : ∀ (ps : List (Int × Int)) (vs : Vals), Ks606.averageAll vs (ps.map natP) = after vs ps
  | [], _ => rfl
  | p :: r, vs => after_is r (avg vs p)
theorem avg_length (vs : Vals) (p : Int × Int) : (avg vs p).length = vs.length := by
  show ((vs.set _ _).set _ _).length = _
  rw [List.length_set, List.length_set]
theorem after_length : ∀ (ps : List (Int × Int)) (vs : Vals), (after vs ps).length = vs.length
  | [], _ => rfl
  | p :: r, vs => (after_length r (avg vs p)).trans (avg_length vs p)
theorem avg_at {vs : Vals} {p : Int × Int} {a b : Rational} (ha : vs[p.1.toNat]? = some a) (hb : vs[p.2.toNat]? = some b) (pa : 0 < a.den) (pb : 0 < b.den) :
    avg vs p = (vs.set p.1.toNat (mean a b)).set p.2.toNat (mean a b) := by
  have e1 : Ks606.valueAt vs p.1.toNat = a := by
    unfold Ks606.valueAt
    rw [List.getD_eq_getElem?_getD, ha]
    rfl
  have e2 : Ks606.valueAt vs p.2.toNat = b := by
    unfold Ks606.valueAt
    rw [List.getD_eq_getElem?_getD, hb]
    rfl
  show (vs.set _ ((Ks606.valueAt vs p.1.toNat + Ks606.valueAt vs p.2.toNat) * Rational.make 1 2)).set _ ((Ks606.valueAt vs p.1.toNat + Ks606.valueAt vs p.2.toNat) * Rational.make 1 2) = _
  rw [e1, e2, mean_is pa pb]
theorem mem_set_or {α : Type} {l : List α} {i : Nat} {x y : α} (h : y ∈ l.set i x) : y ∈ l ∨ y = x := List.mem_or_eq_of_mem_set h
theorem avg_fine {k : Nat} {vs : Vals} {p : Int × Int} {a b : Rational} (h : FineAll k vs) (ha : vs[p.1.toNat]? = some a) (hb : vs[p.2.toNat]? = some b) : FineAll (k + 1) (avg vs p) := by
  have fa := h a (List.mem_of_getElem? ha)
  have fb := h b (List.mem_of_getElem? hb)
  rw [avg_at ha hb fa.pos fb.pos]
  intro r hr
  rcases mem_set_or hr with hr | rfl
  · rcases mem_set_or hr with hr | rfl
    · exact (h r hr).mono (Nat.le_succ _)
    · exact Fine.mean fa fb
  · exact Fine.mean fa fb
theorem initial_fine {ns : List Int} (h : valuesOk ns = true) : FineAll 0 (initial ns) := by
  unfold valuesOk at h
  rw [Bool.and_eq_true, List.all_eq_true] at h
  intro r hr
  obtain ⟨x, hx, rfl⟩ := List.mem_map.mp hr
  have q := of_decide_eq_true (h.2 x hx)
  exact Fine.of q.1 q.2
/-- a pair that is allowed names two values -/
theorem pair_at {c : Nat} {ns : List Int} {p : Int × Int} (h : pairsOk ns c = true) (hp : p ∈ two ns) : 0 ≤ p.1 ∧ p.1 < c ∧ 0 ≤ p.2 ∧ p.2 < c := by
  unfold pairsOk at h
  rw [Bool.and_eq_true, List.all_eq_true] at h
  have q := h.2 p hp
  unfold pairOk isIx at q
  simp only [Bool.not_eq_true', Bool.or_eq_false_iff, decide_eq_false_iff_not, Bool.not_eq_false', decide_eq_true_eq] at q
  omega
theorem after_fine {c : Nat} : ∀ (ps : List (Int × Int)) (vs : Vals) (k : Nat), vs.length = c → FineAll k vs → (∀ p ∈ ps, 0 ≤ p.1 ∧ p.1 < c ∧ 0 ≤ p.2 ∧ p.2 < c) → FineAll (k + ps.length) (after vs ps)
  | [], _, _, _, h, _ => h
  | p :: r, vs, k, hl, h, hp => by
    have q := hp p List.mem_cons_self
    have l1 : p.1.toNat < vs.length := by omega
    have l2 : p.2.toNat < vs.length := by omega
    have h1 := avg_fine h (List.getElem?_eq_getElem l1) (List.getElem?_eq_getElem l2)
    have ih := after_fine r (avg vs p) (k + 1) (by rw [avg_length]; exact hl) h1 fun z hz => hp z (List.mem_cons_of_mem _ hz)
    rw [List.length_cons, show k + (r.length + 1) = k + 1 + r.length by omega]
    exact ih
theorem take_more {α : Type} : ∀ {l : List α} {i : Nat} {x : α}, l[i]? = some x → l.take (i + 1) = l.take i ++ [x]
  | [], i, x, h => by simp at h
  | a :: l, 0, x, h => by
    have e : a = x := Option.some.inj h
    subst e
    rfl
  | a :: l, i + 1, x, h => by
    have ih := take_more (l := l) (i := i) (x := x) h
    show a :: l.take (i + 1) = a :: l.take i ++ [x]
    rw [ih]
    rfl
theorem after_more {vs : Vals} {ps : List (Int × Int)} {i : Nat} {p : Int × Int} (h : ps[i]? = some p) : after vs (ps.take (i + 1)) = avg (after vs (ps.take i)) p := by
  unfold after
  rw [take_more h, List.foldl_append]
  rfl

/-! what is answered -/
def flat (vs : Vals) : List Int := vs.flatMap fun q => [q.num, (q.den : Int)]
def eq01 (vs : Vals) : Int := if Ks606.areEqual vs = true then 1 else 0
def applyM (ns ps : List Int) : List Int := if valuesOk ns = true ∧ pairsOk ps ns.length = true then eq01 (after (initial ns) (two ps)) :: flat (after (initial ns) (two ps)) else [-22]

theorem apply_is {ns ps : List Int} (hn : ∀ x ∈ ns, 0 ≤ x) (hp : ∀ x ∈ ps, 0 ≤ x) : PyKs606.apply_averages ns ps = applyM ns ps := by
  show Ks606Neutral.integers (Ks606.withValues (ns.map Int.toNat) _) = _
  rw [withValues_is hn]
  by_cases h1 : valuesOk ns = true
  · rw [if_pos h1]
    show Ks606Neutral.integers (Ks606.withPairs (initial ns).length (ps.map Int.toNat) _) = _
    rw [withPairs_is _ hp]
    have e : (initial ns).length = ns.length := List.length_map ..
    rw [e]
    by_cases h2 : pairsOk ps ns.length = true
    · have r : applyM ns ps = _ := if_pos ⟨h1, h2⟩
      rw [r, if_pos h2, after_is]
      rfl
    · have r : applyM ns ps = _ := if_neg fun z => h2 z.2
      rw [r, if_neg h2]
      rfl
  · have r : applyM ns ps = _ := if_neg fun z => h1 z.1
    rw [r, if_neg h1]
    rfl

def unit (c i : Int) : List Int := (List.range c.toNat).map fun (j : Nat) => if (j : Int) = i then 1 else 0
def influenceM (c i : Int) (ps : List Int) : List Int :=
  if 1 ≤ c ∧ c ≤ 8 then (if 0 ≤ i ∧ i < c then (if pairsOk ps c = true then c :: flat (after (initial (unit c i)) (two ps)) else [-22]) else [-2]) else [-22]

theorem withCount_is {c : Int} (hc : 0 ≤ c) (k : Unit → Ks606.Result) : Ks606.withCount c.toNat k = if 1 ≤ c ∧ c ≤ 8 then k () else Ks606.number (-22) := by
  unfold Ks606.withCount
  by_cases h : 1 ≤ c ∧ c ≤ 8
  · have n : ¬ (c.toNat < 1 ∨ Ks606.maxValues < c.toNat) := by
      rintro (z | z)
      · omega
      · have z : 8 < c.toNat := z
        omega
    rw [if_pos h, if_neg n]
  · have n : c.toNat < 1 ∨ Ks606.maxValues < c.toNat := by
      by_cases h2 : c.toNat < 1
      · exact .inl h2
      · refine .inr ?_
        show 8 < c.toNat
        omega
    rw [if_neg h, if_pos n]
theorem unit_is {c i : Int} (hi : 0 ≤ i) : Ks606.unitValues c.toNat i.toNat = initial (unit c i) := by
  unfold Ks606.unitValues initial unit
  rw [List.map_map]
  refine List.map_congr_left fun x _ => ?_
  show (if x = i.toNat then Rational.one else Rational.zero) = ofI (if (x : Int) = i then 1 else 0)
  by_cases h : (x : Int) = i
  · rw [if_pos h, if_pos (by omega)]
    rfl
  · rw [if_neg h, if_neg (by omega)]
    rfl
theorem unit_length (c i : Int) : (unit c i).length = c.toNat := by
  unfold unit
  rw [List.length_map, List.length_range]
theorem unit_fine (c i : Int) : FineAll 0 (initial (unit c i)) := by
  intro r hr
  obtain ⟨x, hx, rfl⟩ := List.mem_map.mp hr
  obtain ⟨j, _, rfl⟩ := List.mem_map.mp hx
  refine Fine.of ?_ ?_
  · split <;> decide
  · split <;> decide
theorem influence_is {c i : Int} {ps : List Int} (hc : 0 ≤ c) (hi : 0 ≤ i) (hp : ∀ x ∈ ps, 0 ≤ x) : PyKs606.influence c i ps = influenceM c i ps := by
  show Ks606Neutral.integers (Ks606.withCount c.toNat _) = _
  rw [withCount_is hc]
  unfold influenceM
  by_cases h1 : 1 ≤ c ∧ c ≤ 8
  · rw [if_pos h1, if_pos h1]
    show Ks606Neutral.integers (if c.toNat ≤ i.toNat then Ks606.number (-2) else Ks606.withPairs c.toNat (ps.map Int.toNat) _) = _
    by_cases h2 : 0 ≤ i ∧ i < c
    · have n : ¬ c.toNat ≤ i.toNat := by omega
      rw [if_neg n, if_pos h2, withPairs_is _ hp, Int.toNat_of_nonneg hc]
      by_cases h3 : pairsOk ps c = true
      · rw [if_pos h3, if_pos h3]
        show ((c.toNat : Nat) : Int) :: flat (Ks606.averageAll (Ks606.unitValues c.toNat i.toNat) _) = _
        rw [after_is, unit_is hi, Int.toNat_of_nonneg hc]
      · rw [if_neg h3, if_neg h3]
        rfl
    · have n : c.toNat ≤ i.toNat := by omega
      rw [if_pos n, if_neg h2]
      rfl
  · rw [if_neg h1, if_neg h1]
    rfl

/-! operation 3 -/
def eqAt (c : Int) (ps : List Int) (j : Nat) : Int := eq01 (after (initial (unit c j)) (two ps))
def alwaysM (c : Int) (ps : List Int) : List Int :=
  if 1 ≤ c ∧ c ≤ 8 then (if pairsOk ps c = true then [if ((List.range c.toNat).all fun (j : Nat) => Ks606.areEqual (after (initial (unit c j)) (two ps))) = true then 1 else 0] else [-22]) else [-22]
theorem always_is {c : Int} {ps : List Int} (hc : 0 ≤ c) (hp : ∀ x ∈ ps, 0 ≤ x) : PyKs606.always_equalizes c ps = alwaysM c ps := by
  show Ks606Neutral.integers (Ks606.withCount c.toNat _) = _
  rw [withCount_is hc]
  unfold alwaysM
  by_cases h1 : 1 ≤ c ∧ c ≤ 8
  · rw [if_pos h1, if_pos h1]
    show Ks606Neutral.integers (Ks606.withPairs c.toNat (ps.map Int.toNat) _) = _
    rw [withPairs_is _ hp, Int.toNat_of_nonneg hc]
    by_cases h3 : pairsOk ps c = true
    · rw [if_pos h3, if_pos h3]
      have e : (fun i => Ks606.areEqual (Ks606.influence c.toNat i ((two ps).map natP))) = fun (j : Nat) => Ks606.areEqual (after (initial (unit c j)) (two ps)) := by
        funext j
        unfold Ks606.influence
        have z := unit_is (c := c) (i := (j : Int)) (by omega)
        rw [Int.toNat_natCast] at z
        rw [after_is, z]
      show [if ((List.range c.toNat).all fun i => Ks606.areEqual (Ks606.influence c.toNat i ((two ps).map natP))) = true then (1 : Int) else 0] = _
      rw [e]
    · rw [if_neg h3, if_neg h3]
      rfl
  · rw [if_neg h1, if_neg h1]
    rfl
theorem eqAt_le (c : Int) (ps : List Int) (j : Nat) : eqAt c ps j = 0 ∨ eqAt c ps j = 1 := by
  unfold eqAt eq01
  split
  · exact .inr rfl
  · exact .inl rfl
theorem min_is {c m : Int} {ps : List Int} (h1 : m ∈ (List.range c.toNat).map (eqAt c ps)) (h2 : ∀ y ∈ (List.range c.toNat).map (eqAt c ps), m ≤ y) :
    m = if ((List.range c.toNat).all fun (j : Nat) => Ks606.areEqual (after (initial (unit c j)) (two ps))) = true then 1 else 0 := by
  obtain ⟨j, hj, rfl⟩ := List.mem_map.mp h1
  by_cases h : ((List.range c.toNat).all fun (j : Nat) => Ks606.areEqual (after (initial (unit c j)) (two ps))) = true
  · rw [if_pos h]
    have z := List.all_eq_true.mp h j hj
    unfold eqAt eq01
    rw [if_pos z]
  · rw [if_neg h]
    have : ∃ (i : Nat), i ∈ List.range c.toNat ∧ ¬ Ks606.areEqual (after (initial (unit c i)) (two ps)) = true := by
      apply Classical.byContradiction
      intro n
      apply h
      rw [List.all_eq_true]
      intro i hi
      apply Classical.byContradiction
      intro z
      exact n ⟨i, hi, z⟩
    obtain ⟨i, hi, ni⟩ := this
    have le := h2 _ (List.mem_map.mpr ⟨i, hi, rfl⟩)
    have e0 : eqAt c ps i = 0 := by
      unfold eqAt eq01
      rw [if_neg ni]
    rw [e0] at le
    rcases eqAt_le c ps j with z | z
    · exact z
    · omega

/-! operation 4 -/
def planLayer (n d : Nat) : List Int := (List.range n).flatMap fun (i : Nat) => if i / d % 2 = 0 then [(i : Int), (i : Int) + (d : Int)] else []
def planTo (n : Nat) : Nat → List Int
  | 0 => []
  | k + 1 => planTo n k ++ planLayer n (2 ^ k)
theorem planLayer_more (i d : Nat) : planLayer (i + 1) d = planLayer i d ++ (if i / d % 2 = 0 then [(i : Int), (i : Int) + (d : Int)] else []) := by
  unfold planLayer
  rw [List.range_succ, List.flatMap_append, List.flatMap_cons, List.flatMap_nil, List.append_nil]
theorem planLayer_length (d : Nat) : ∀ i : Nat, (planLayer i d).length ≤ 2 * i
  | 0 => Nat.le_refl _
  | i + 1 => by
    rw [planLayer_more, List.length_append]
    have := planLayer_length d i
    split
    · show _ + 2 ≤ _
      omega
    · show _ + 0 ≤ _
      omega
theorem planTo_length (n : Nat) : ∀ k : Nat, (planTo n k).length ≤ 2 * n * k
  | 0 => Nat.zero_le _
  | k + 1 => by
    show (planTo n k ++ planLayer n (2 ^ k)).length ≤ _
    rw [List.length_append, Nat.mul_succ]
    have := planTo_length n k
    have := planLayer_length (2 ^ k) n
    omega
def hasPlan (c : Int) : Prop := c = 1 ∨ c = 2 ∨ c = 4 ∨ c = 8
instance (c : Int) : Decidable (hasPlan c) := inferInstanceAs (Decidable (c = 1 ∨ c = 2 ∨ c = 4 ∨ c = 8))
def planM (c : Int) : List Int := if 1 ≤ c ∧ c ≤ 8 then (if hasPlan c then PyKs606.plan c else [-33]) else [-22]
theorem plan_is {c : Int} (hc : 0 ≤ c) : PyKs606.plan c = planM c := by
  by_cases h : 1 ≤ c ∧ c ≤ 8
  · have : c = 1 ∨ c = 2 ∨ c = 3 ∨ c = 4 ∨ c = 5 ∨ c = 6 ∨ c = 7 ∨ c = 8 := by omega
    rcases this with rfl | rfl | rfl | rfl | rfl | rfl | rfl | rfl <;> decide
  · unfold planM
    rw [if_neg h]
    show Ks606Neutral.integers (Ks606.withCount c.toNat _) = _
    rw [withCount_is hc, if_neg h]
    rfl
theorem level_le {n k : Nat} (hn : n ≤ 8) (hk : k = 0 ∨ 2 ^ (k - 1) < n) : k ≤ 3 := by
  apply Classical.byContradiction
  intro h
  have h1 : (2 : Nat) ^ 3 ≤ 2 ^ (k - 1) := Nat.pow_le_pow_right (by decide) (by omega)
  have h2 : (2 : Nat) ^ 3 = 8 := by decide
  omega
theorem plan_end {n k : Nat} (hn : n = 1 ∨ n = 2 ∨ n = 4 ∨ n = 8) (h1 : n ≤ 2 ^ k) (h2 : k = 0 ∨ 2 ^ (k - 1) < n) : (((planTo n k).length / 2 : Nat) : Int) :: planTo n k = PyKs606.plan (n : Int) := by
  have h3 := level_le (show n ≤ 8 by omega) h2
  have hk : k = 0 ∨ k = 1 ∨ k = 2 ∨ k = 3 := by omega
  rcases hn with rfl | rfl | rfl | rfl <;> rcases hk with rfl | rfl | rfl | rfl <;> revert h1 h2 <;> decide +kernel


/-! operations 5 and 6: numbers of any size -/
structure Wid (n : Nat) (r : Rational) : Prop where
  pos : 0 < r.den
  num : r.num.natAbs < 2 ^ n
  den : ((r.den : Int)).natAbs < 2 ^ n
theorem Wid.mono {n m : Nat} {r : Rational} (h : Wid n r) (hm : n ≤ m) : Wid m r :=
  ⟨h.pos, Nat.lt_of_lt_of_le h.num (Nat.pow_le_pow_right (by decide) hm), Nat.lt_of_lt_of_le h.den (Nat.pow_le_pow_right (by decide) hm)⟩
theorem Wid.n_pos {n : Nat} {r : Rational} (h : Wid n r) : 0 < n := by
  have h1 := h.pos
  have h2 := h.den
  rw [Int.natAbs_natCast] at h2
  cases n with
  | zero =>
    have e : (2 : Nat) ^ 0 = 1 := rfl
    omega
  | succ n => exact Nat.succ_pos n
theorem Fine.wid {k : Nat} {r : Rational} (h : Fine k r) : Wid (k + 7) r := ⟨h.pos, h.num_lt, h.den_lt⟩
theorem wid_zero : Wid 1 ⟨0, 1⟩ := ⟨by decide, by decide, by decide⟩
theorem mul_lt_pow {i j : Int} {a b : Nat} (ha : i.natAbs < 2 ^ a) (hb : j.natAbs < 2 ^ b) : (i * j).natAbs < 2 ^ (a + b) := by
  rw [Int.natAbs_mul, Nat.pow_add]
  exact Nat.mul_lt_mul'' ha hb
theorem make_wid {n : Int} {d N : Nat} (hd : 0 < d) (hn : n.natAbs < 2 ^ N) (hm : ((d : Nat) : Int).natAbs < 2 ^ N) : Wid N (Rational.make n d) := by
  obtain ⟨g, hg, e1, e2, e3, _⟩ := make_parts n hd
  refine ⟨e3, ?_, ?_⟩
  · have : n.natAbs = (Rational.make n d).num.natAbs * g := by
      rw [← e1, Int.natAbs_mul, Int.natAbs_natCast, e1]
    have h2 : (Rational.make n d).num.natAbs * 1 ≤ (Rational.make n d).num.natAbs * g := Nat.mul_le_mul_left _ hg
    omega
  · have h2 : (Rational.make n d).den * 1 ≤ (Rational.make n d).den * g := Nat.mul_le_mul_left _ hg
    rw [Int.natAbs_natCast] at hm ⊢
    omega
def addNum (a b : Rational) : Int := a.num * b.den + b.num * a.den
def absI (i : Int) : Int := if i < 0 then -i else i
theorem absI_natAbs (i : Int) : (absI i).natAbs = i.natAbs := by
  unfold absI
  split <;> omega
def absNum (a b : Rational) : Int := absI (a.num * b.den - b.num * a.den)
def absd (a b : Rational) : Rational := Rational.make (absNum a b) (a.den * b.den)
theorem den_mul {n m : Nat} {a b : Rational} (ha : Wid n a) (hb : Wid m b) : (((a.den * b.den : Nat)) : Int).natAbs < 2 ^ (n + m) := by
  rw [Int.natCast_mul]
  exact mul_lt_pow ha.den hb.den
theorem two_pow_more (k : Nat) : 2 ^ (k + 1) = 2 ^ k + 2 ^ k := by
  rw [Nat.pow_succ]
  omega
theorem addNum_lt {n m : Nat} {a b : Rational} (ha : Wid n a) (hb : Wid m b) : (addNum a b).natAbs < 2 ^ (n + m + 1) := by
  have h1 := mul_lt_pow ha.num hb.den
  have h2 := mul_lt_pow hb.num ha.den
  rw [Nat.add_comm m n] at h2
  rw [two_pow_more]
  unfold addNum
  omega
theorem absNum_lt {n m : Nat} {a b : Rational} (ha : Wid n a) (hb : Wid m b) : (absNum a b).natAbs < 2 ^ (n + m + 1) := by
  have h1 := mul_lt_pow ha.num hb.den
  have h2 := mul_lt_pow hb.num ha.den
  rw [Nat.add_comm m n] at h2
  rw [two_pow_more]
  unfold absNum
  rw [absI_natAbs]
  omega
theorem add_wid {n m : Nat} {a b : Rational} (ha : Wid n a) (hb : Wid m b) : Wid (n + m + 1) (Rational.add a b) :=
  make_wid (Nat.mul_pos ha.pos hb.pos) (addNum_lt ha hb) (Nat.lt_of_lt_of_le (den_mul ha hb) (Nat.pow_le_pow_right (by decide) (Nat.le_succ _)))
theorem absd_wid {n m : Nat} {a b : Rational} (ha : Wid n a) (hb : Wid m b) : Wid (n + m + 1) (absd a b) :=
  make_wid (Nat.mul_pos ha.pos hb.pos) (absNum_lt ha hb) (Nat.lt_of_lt_of_le (den_mul ha hb) (Nat.pow_le_pow_right (by decide) (Nat.le_succ _)))
/-- the program's mean: the sum, then its half -/
theorem half_is {a b : Rational} (ha : 0 < a.den) (hb : 0 < b.den) : Rational.make (Rational.add a b).num (2 * (Rational.add a b).den) = mean a b := by
  rw [← mean_is ha hb]
  show _ = Rational.mul (Rational.add a b) (Rational.make 1 2)
  rw [half]
  unfold Rational.mul
  rw [Int.mul_one, Nat.mul_comm]
theorem mean_wid {n : Nat} {a b : Rational} (ha : Wid n a) (hb : Wid n b) : 0 < (mean a b).den := by
  have hD := meanDen_pos ha.pos hb.pos
  obtain ⟨_, _, _, _, e, _⟩ := make_parts (meanNum a b) hD
  exact e
/-- a square, as the program makes it -/
def sq (r : Rational) : Rational := ⟨r.num * r.num, r.den * r.den⟩
theorem sq_wid {n : Nat} {r : Rational} (h : Wid n r) : Wid (n + n) (sq r) := by
  refine ⟨Nat.mul_pos h.pos h.pos, mul_lt_pow h.num h.num, ?_⟩
  exact den_mul h h
theorem add_sq {t r : Rational} (ht : 0 < t.den) (hr : 0 < r.den) : Rational.add t (sq r) = t + r * r := by
  show _ = Rational.add t (Rational.mul r r)
  unfold Rational.mul
  have hD : 0 < r.den * r.den := Nat.mul_pos hr hr
  obtain ⟨g, hg, e1, e2, e3, _⟩ := make_parts (r.num * r.num) hD
  generalize hm : Rational.make (r.num * r.num) (r.den * r.den) = m at e1 e2 e3
  unfold Rational.add sq
  show Rational.make (t.num * ((r.den * r.den : Nat) : Int) + r.num * r.num * (t.den : Int)) (t.den * (r.den * r.den)) = _
  rw [← e1, ← e2, ← make_mul _ (Nat.mul_pos ht e3) hg]
  congr 1
  · rw [Int.natCast_mul, Int.add_mul]
    congr 1
    · ac_rfl
    · ac_rfl
  · ac_rfl
def sqs (vs : Vals) : Rational := vs.foldl (fun t r => Rational.add t (sq r)) ⟨0, 1⟩
theorem sqs_more {vs : Vals} {i : Nat} {r : Rational} (h : vs[i]? = some r) : sqs (vs.take (i + 1)) = Rational.add (sqs (vs.take i)) (sq r) := by
  unfold sqs
  rw [take_more h, List.foldl_append]
  rfl
theorem sqs_wid {n : Nat} : ∀ (vs : Vals) (t : Rational) (m : Nat), Wid m t → (∀ r ∈ vs, Wid n r) → Wid (m + vs.length * (2 * n + 1)) (vs.foldl (fun t r => Rational.add t (sq r)) t)
  | [], t, m, h, _ => by
    show Wid (m + 0 * (2 * n + 1)) t
    exact h.mono (by omega)
  | r :: l, t, m, h, hv => by
    have h1 := add_wid h (sq_wid (hv r List.mem_cons_self))
    have ih := sqs_wid l _ _ h1 fun z hz => hv z (List.mem_cons_of_mem _ hz)
    refine ih.mono ?_
    rw [List.length_cons, Nat.succ_mul l.length]
    omega
theorem sqs_is {n : Nat} : ∀ (vs : Vals) (t : Rational), 0 < t.den → (∀ r ∈ vs, Wid n r) → vs.foldl (fun t r => Rational.add t (sq r)) t = vs.foldl (fun total x => total + x * x) t
  | [], _, _, _ => rfl
  | r :: l, t, ht, hv => by
    have hr := hv r List.mem_cons_self
    have e := add_sq ht hr.pos
    have p : 0 < (t + r * r).den := by
      rw [← e]
      obtain ⟨_, _, _, _, z, _⟩ := make_parts (t.num * ((sq r).den : Int) + (sq r).num * (t.den : Int)) (Nat.mul_pos ht (show 0 < (sq r).den from Nat.mul_pos hr.pos hr.pos))
      exact z
    rw [List.foldl_cons, List.foldl_cons, e]
    exact sqs_is l _ p fun z hz => hv z (List.mem_cons_of_mem _ hz)
theorem sqs_spec {n : Nat} {vs : Vals} (h : ∀ r ∈ vs, Wid n r) : sqs vs = Ks606.sumOfSquares vs := sqs_is vs ⟨0, 1⟩ (by decide) h

/-! the smallest and the largest -/
def rle (a b : Rational) : Prop := a.num * (b.den : Int) ≤ b.num * (a.den : Int)
theorem rle_trans {a b c : Rational} (ha : 0 < a.den) (hb : 0 < b.den) (hc : 0 < c.den) (h1 : rle a b) (h2 : rle b c) : rle a c := by
  unfold rle at *
  have p1 : a.num * (b.den : Int) * (c.den : Int) ≤ b.num * (a.den : Int) * (c.den : Int) := Int.mul_le_mul_of_nonneg_right h1 (by omega)
  have p2 : b.num * (c.den : Int) * (a.den : Int) ≤ c.num * (b.den : Int) * (a.den : Int) := Int.mul_le_mul_of_nonneg_right h2 (by omega)
  have e1 : b.num * (a.den : Int) * (c.den : Int) = b.num * (c.den : Int) * (a.den : Int) := by ac_rfl
  have e2 : a.num * (b.den : Int) * (c.den : Int) = a.num * (c.den : Int) * (b.den : Int) := by ac_rfl
  have e3 : c.num * (b.den : Int) * (a.den : Int) = c.num * (a.den : Int) * (b.den : Int) := by ac_rfl
  refine Int.le_of_mul_le_mul_right (a := (b.den : Int)) ?_ (by omega)
  omega
def smin (best x : Rational) : Rational := if Rational.lt x best = true then x else best
def smax (best x : Rational) : Rational := if Rational.lt best x = true then x else best
theorem rle_refl (a : Rational) : rle a a := Int.le_refl _
theorem lt_rle {a b : Rational} (h : Rational.lt a b = true) : rle a b := by
  have := of_decide_eq_true h
  unfold rle
  omega
theorem rle_step {s l x : Rational} (hs : 0 < s.den) (hl : 0 < l.den) (hx : 0 < x.den) (h : rle s l) : rle (smin s x) (smax l x) := by
  unfold smin smax
  split
  · next h1 =>
    split
    · exact rle_refl x
    · exact rle_trans hx hs hl (lt_rle h1) h
  · split
    · next h2 => exact rle_trans hs hl hx h (lt_rle h2)
    · exact h
theorem smin_or (s x : Rational) : smin s x = s ∨ smin s x = x := by
  unfold smin
  split
  · exact .inr rfl
  · exact .inl rfl
theorem smax_or (s x : Rational) : smax s x = s ∨ smax s x = x := by
  unfold smax
  split
  · exact .inr rfl
  · exact .inl rfl
def sminAll (vs : Vals) (r0 : Rational) : Rational := vs.foldl smin r0
def smaxAll (vs : Vals) (r0 : Rational) : Rational := vs.foldl smax r0
theorem sminAll_more {vs : Vals} {i : Nat} {r r0 : Rational} (h : vs[i]? = some r) : sminAll (vs.take (i + 1)) r0 = smin (sminAll (vs.take i) r0) r := by
  unfold sminAll
  rw [take_more h, List.foldl_append]
  rfl
theorem smaxAll_more {vs : Vals} {i : Nat} {r r0 : Rational} (h : vs[i]? = some r) : smaxAll (vs.take (i + 1)) r0 = smax (smaxAll (vs.take i) r0) r := by
  unfold smaxAll
  rw [take_more h, List.foldl_append]
  rfl
/-- the program's difference of the smallest and the largest is the specification's -/
theorem spread_is {s l : Rational} (h : rle s l) : absd s l = l - s := by
  show _ = Rational.add l (Rational.neg s)
  unfold absd absNum Rational.add Rational.neg
  have e : absI (s.num * (l.den : Int) - l.num * (s.den : Int)) = l.num * (s.den : Int) + -s.num * (l.den : Int) := by
    unfold rle at h
    unfold absI
    rw [Int.neg_mul]
    split <;> omega
  rw [e, Nat.mul_comm]
def spreadM (ns ps : List Int) : List Int :=
  if valuesOk ns = true ∧ pairsOk ps ns.length = true then 0 :: flat [Ks606.largest (after (initial ns) (two ps)) - Ks606.smallest (after (initial ns) (two ps)), Ks606.sumOfSquares (after (initial ns) (two ps))] else [-22]
theorem spread_law {ns ps : List Int} (hn : ∀ x ∈ ns, 0 ≤ x) (hp : ∀ x ∈ ps, 0 ≤ x) : PyKs606.spread ns ps = spreadM ns ps := by
  show Ks606Neutral.integers (Ks606.withValues (ns.map Int.toNat) _) = _
  rw [withValues_is hn]
  by_cases h1 : valuesOk ns = true
  · rw [if_pos h1]
    show Ks606Neutral.integers (Ks606.withPairs (initial ns).length (ps.map Int.toNat) _) = _
    rw [withPairs_is _ hp]
    have e : (initial ns).length = ns.length := List.length_map ..
    rw [e]
    by_cases h2 : pairsOk ps ns.length = true
    · have r : spreadM ns ps = _ := if_pos ⟨h1, h2⟩
      rw [r, if_pos h2, after_is]
      rfl
    · have r : spreadM ns ps = _ := if_neg fun z => h2 z.2
      rw [r, if_neg h2]
      rfl
  · have r : spreadM ns ps = _ := if_neg fun z => h1 z.1
    rw [r, if_neg h1]
    rfl

/-! the best pair -/
theorem difference_is {vs : Vals} {p : Nat × Nat} {a b : Rational} (ha : vs[p.1]? = some a) (hb : vs[p.2]? = some b) (pa : 0 < a.den) (pb : 0 < b.den) : Ks606.difference vs p = absd a b := by
  have e1 : Ks606.valueAt vs p.1 = a := by
    unfold Ks606.valueAt
    rw [List.getD_eq_getElem?_getD, ha]
    rfl
  have e2 : Ks606.valueAt vs p.2 = b := by
    unfold Ks606.valueAt
    rw [List.getD_eq_getElem?_getD, hb]
    rfl
  have hD : 0 < a.den * b.den := Nat.mul_pos pa pb
  show (if Rational.lt (Ks606.valueAt vs p.1 - Ks606.valueAt vs p.2) Rational.zero then Rational.zero - (Ks606.valueAt vs p.1 - Ks606.valueAt vs p.2) else (Ks606.valueAt vs p.1 - Ks606.valueAt vs p.2)) = _
  rw [e1, e2]
  have es : a - b = Rational.make (a.num * (b.den : Int) - b.num * (a.den : Int)) (a.den * b.den) := by
    show Rational.make (a.num * (b.den : Int) + -b.num * (a.den : Int)) (a.den * b.den) = _
    rw [Int.neg_mul]
    rfl
  rw [es]
  unfold absd absNum
  generalize a.num * (b.den : Int) - b.num * (a.den : Int) = n
  generalize a.den * b.den = d at hD
  obtain ⟨g, hg, f1, f2, f3, _⟩ := make_parts n hD
  generalize hm : Rational.make n d = m at f1 f2 f3
  have hgI : (0 : Int) < (g : Int) := by omega
  have lt0 : Rational.lt m Rational.zero = decide (n < 0) := by
    show decide (m.num * ((1 : Nat) : Int) < 0 * (m.den : Int)) = _
    rw [Bool.eq_iff_iff, decide_eq_true_eq, decide_eq_true_eq]
    constructor
    · intro h
      have h : m.num < 0 := by omega
      rw [← f1]
      exact Int.mul_neg_of_neg_of_pos h hgI
    · intro h
      apply Classical.byContradiction
      intro z
      have z : 0 ≤ m.num := by omega
      have := Int.mul_nonneg z (Int.le_of_lt hgI)
      omega
  rw [lt0]
  by_cases hn : n < 0
  · rw [if_pos (decide_eq_true hn)]
    unfold absI
    rw [if_pos hn]
    show Rational.make (0 * (m.den : Int) + -m.num * ((1 : Nat) : Int)) (1 * m.den) = _
    rw [← f1, ← f2, ← Int.neg_mul, make_mul _ f3 hg, Nat.one_mul]
    congr 1
    omega
  · rw [if_neg (fun z => hn (of_decide_eq_true z))]
    unfold absI
    rw [if_neg hn, hm]
def bo (vs : Vals) : Option (Nat × Nat) → Nat × Nat → Option (Nat × Nat)
  | none, p => some p
  | some q, p => if Rational.lt (Ks606.difference vs q) (Ks606.difference vs p) = true then some p else some q
def bestOf (vs : Vals) (ps : List (Nat × Nat)) : Option (Nat × Nat) := ps.foldl (bo vs) none
theorem bo_some (vs : Vals) : ∀ (ps : List (Nat × Nat)) (q : Nat × Nat), ps.foldl (bo vs) (some q) = some (ps.foldl (fun best pair => if Rational.lt (Ks606.difference vs best) (Ks606.difference vs pair) then pair else best) q)
  | [], _ => rfl
  | p :: r, q => by
    rw [List.foldl_cons, List.foldl_cons]
    have e : bo vs (some q) p = some (if Rational.lt (Ks606.difference vs q) (Ks606.difference vs p) then p else q) := by
      show (if Rational.lt (Ks606.difference vs q) (Ks606.difference vs p) = true then some p else some q) = _
      split
      · rfl
      · rfl
    rw [e]
    exact bo_some vs r _
theorem best_is (vs : Vals) : Ks606.bestPair vs = bestOf vs (Ks606.allPairs vs.length) := by
  unfold Ks606.bestPair bestOf
  split
  · next h =>
    rw [h]
    rfl
  · next first rest h =>
    rw [h]
    exact (bo_some vs rest first).symm
def rowP (n i : Nat) : List (Nat × Nat) := (List.range (n - (i + 1))).map fun k => (i, i + 1 + k)
def allTo (n i : Nat) : List (Nat × Nat) := (List.range i).flatMap (rowP n)
theorem allTo_more (n i : Nat) : allTo n (i + 1) = allTo n i ++ rowP n i := by
  unfold allTo
  rw [List.range_succ, List.flatMap_append, List.flatMap_cons, List.flatMap_nil, List.append_nil]
theorem rowP_length (n i : Nat) : (rowP n i).length = n - (i + 1) := by
  unfold rowP
  rw [List.length_map, List.length_range]
theorem rowP_get {n i k : Nat} (h : k < n - (i + 1)) : (rowP n i)[k]? = some (i, i + 1 + k) := by
  unfold rowP
  rw [List.getElem?_map, List.getElem?_range h]
  rfl
theorem allPairs_is {n : Nat} (h : n ≤ 8) : Ks606.allPairs n = allTo n n := by
  have : n = 0 ∨ n = 1 ∨ n = 2 ∨ n = 3 ∨ n = 4 ∨ n = 5 ∨ n = 6 ∨ n = 7 ∨ n = 8 := by omega
  rcases this with rfl | rfl | rfl | rfl | rfl | rfl | rfl | rfl | rfl <;> decide +kernel
theorem bestOf_more {vs : Vals} {ps : List (Nat × Nat)} (p : Nat × Nat) : bestOf vs (ps ++ [p]) = bo vs (bestOf vs ps) p := by
  unfold bestOf
  rw [List.foldl_append]
  rfl
theorem bo_mem {vs : Vals} {o : Option (Nat × Nat)} {p q : Nat × Nat} (h : bo vs o p = some q) : o = some q ∨ q = p := by
  cases o with
  | none => exact .inr (Option.some.inj h).symm
  | some z =>
    have h : (if Rational.lt (Ks606.difference vs z) (Ks606.difference vs p) = true then some p else some z) = some q := h
    split at h
    · exact .inr (Option.some.inj h).symm
    · exact .inl h
theorem foldl_bo_mem {vs : Vals} : ∀ (ps : List (Nat × Nat)) (o : Option (Nat × Nat)) (q : Nat × Nat), ps.foldl (bo vs) o = some q → o = some q ∨ q ∈ ps
  | [], _, _, h => .inl h
  | p :: r, o, q, h => by
    rw [List.foldl_cons] at h
    rcases foldl_bo_mem r _ q h with e | e
    · rcases bo_mem e with e | e
      · exact .inl e
      · exact .inr (e ▸ List.mem_cons_self)
    · exact .inr (List.mem_cons_of_mem _ e)
theorem best_range {vs : Vals} {p : Nat × Nat} (h : Ks606.bestPair vs = some p) : p.1 < p.2 ∧ p.2 < vs.length := by
  rw [best_is] at h
  rcases foldl_bo_mem _ _ _ h with e | e
  · cases e
  · unfold Ks606.allPairs at e
    obtain ⟨i, hi, e⟩ := List.mem_flatMap.mp e
    obtain ⟨j, hj, rfl⟩ := List.mem_map.mp e
    obtain ⟨hj, hd⟩ := List.mem_filter.mp hj
    exact ⟨of_decide_eq_true hd, List.mem_range.mp hj⟩
def bestI : Option (Nat × Nat) → List Int
  | none => []
  | some p => [(p.1 : Int), (p.2 : Int)]
theorem bestI_length (o : Option (Nat × Nat)) : (bestI o).length ≤ 2 := by
  cases o with
  | none => exact Nat.zero_le _
  | some p => exact Nat.le_refl _
theorem bestI_ok {vs : Vals} : pairsOk (bestI (Ks606.bestPair vs)) vs.length = true := by
  cases h : Ks606.bestPair vs with
  | none => rfl
  | some p =>
    have q := best_range h
    unfold pairsOk
    rw [Bool.and_eq_true]
    refine ⟨decide_eq_true ⟨show 2 % 2 = 0 by decide, show 2 ≤ 40 by decide⟩, ?_⟩
    show (pairOk _ ((p.1 : Int), (p.2 : Int)) && true) = true
    rw [Bool.and_true]
    unfold pairOk isIx
    simp only [Bool.not_eq_true', Bool.or_eq_false_iff, decide_eq_false_iff_not, Bool.not_eq_false', decide_eq_true_eq]
    omega
def gstep (vs : Vals) : Vals := after vs (two (bestI (Ks606.bestPair vs)))
def gre : Nat → Vals → Vals
  | 0, vs => vs
  | n + 1, vs => gstep (gre n vs)
theorem gre_front : ∀ (n : Nat) (vs : Vals), gre (n + 1) vs = gre n (gstep vs)
  | 0, _ => rfl
  | n + 1, vs => by
    show gstep (gre (n + 1) vs) = gstep (gre n (gstep vs))
    rw [gre_front n vs]
theorem gre_still {vs : Vals} (h : gstep vs = vs) : ∀ n : Nat, gre n vs = vs
  | 0 => rfl
  | n + 1 => by
    show gstep (gre n vs) = vs
    rw [gre_still h n, h]
theorem gre_is : ∀ (n : Nat) (vs : Vals), Ks606.greedyAveraging n vs = gre n vs
  | 0, _ => rfl
  | n + 1, vs => by
    rw [gre_front]
    unfold Ks606.greedyAveraging
    split
    · next h =>
      have e : gstep vs = vs := by
        unfold gstep
        rw [h]
        rfl
      rw [e, gre_still e]
    · next p h =>
      have e : gstep vs = Ks606.average vs p.1 p.2 := by
        unfold gstep
        rw [h]
        rfl
      rw [e, gre_is n]
theorem gstep_length (vs : Vals) : (gstep vs).length = vs.length := after_length _ _
theorem gre_length : ∀ (n : Nat) (vs : Vals), (gre n vs).length = vs.length
  | 0, _ => rfl
  | n + 1, vs => (gstep_length _).trans (gre_length n vs)
theorem gstep_fine {k : Nat} {vs : Vals} (h : FineAll k vs) : FineAll (k + 1) (gstep vs) := by
  have z := after_fine (c := vs.length) (two (bestI (Ks606.bestPair vs))) vs k rfl h fun p hp => pair_at bestI_ok hp
  have l := two_length (bestI (Ks606.bestPair vs))
  have l2 := bestI_length (Ks606.bestPair vs)
  exact fun r hr => (z r hr).mono (by omega)
theorem gre_fine : ∀ (n : Nat) {k : Nat} {vs : Vals}, FineAll k vs → FineAll (k + n) (gre n vs)
  | 0, _, _, h => h
  | n + 1, _, _, h => gstep_fine (gre_fine n h)
def greedyM (st : Int) (ns : List Int) : List Int := if valuesOk ns = true ∧ (0 ≤ st ∧ st ≤ 12) then eq01 (gre st.toNat (initial ns)) :: flat (gre st.toNat (initial ns)) else [-22]
theorem greedy_law {st : Int} {ns : List Int} (hs : 0 ≤ st) (hn : ∀ x ∈ ns, 0 ≤ x) : PyKs606.greedy_averaging st ns = greedyM st ns := by
  show Ks606Neutral.integers (Ks606.withValues (ns.map Int.toNat) _) = _
  rw [withValues_is hn]
  by_cases h1 : valuesOk ns = true
  · rw [if_pos h1]
    show Ks606Neutral.integers (if 12 < st.toNat then Ks606.number (-22) else _) = _
    by_cases h2 : 0 ≤ st ∧ st ≤ 12
    · have r : greedyM st ns = _ := if_pos ⟨h1, h2⟩
      rw [r, if_neg (show ¬ 12 < st.toNat by omega), ← gre_is]
      rfl
    · have r : greedyM st ns = _ := if_neg fun z => h2 z.2
      rw [r, if_pos (show 12 < st.toNat by omega)]
      rfl
  · have r : greedyM st ns = _ := if_neg fun z => h1 z.1
    rw [r, if_neg h1]
    rfl


theorem all_pos {ns : List Int} (h : ns.all (PySem.W.Codec.inInt 0 4294967295) = true) : ∀ x ∈ ns, 0 ≤ x := fun x hx => (PySem.W.Codec.inInt_iff.mp (List.all_eq_true.mp h x hx)).1

end MP

namespace MP
open PySem PySem.Spec PyProof.Rows L2
open Ks604 (Rational)

/-! ## The text: each def by its place at the top -/
def top (i : Nat) : Stmt := PySem.Challenge.pw_meanpairs_s04_plan.main.body.getD i (.Pass ⟨0, 0, 0, 0⟩)
abbrev s_is_count : Stmt := top 6
abbrev s_planned_pairs : Stmt := top 7
abbrev s_plan : Stmt := top 5

/-! ## The heap: tuples of two whole numbers, lists of such -/
abbrev tupI (x y : Int) : HO := .tup [.int x, .int y]
/-- the addresses as hold the pairs ps, one each -/
structure PairedAt (H : Hp) (as : List Addr) (ps : List (Int × Int)) : Prop where
  len : as.length = ps.length
  get : ∀ (i : Nat) (p : Int × Int), ps[i]? = some p → ∃ a, as[i]? = some a ∧ H a = some (tupI p.1 p.2)
/-- at l a list of pairs -/
def PairsAt (H : Hp) (l : Addr) (ps : List (Int × Int)) : Prop := ∃ as : List Addr, H l = some (.lst (as.map V.ref)) ∧ PairedAt H as ps
/-- all tuples stand -/
def TSame (H H' : Hp) : Prop := ∀ b xs, H b = some (.tup xs) → H' b = some (.tup xs)
theorem TSame.refl (H : Hp) : TSame H H := fun _ _ h => h
theorem TSame.trans {H H1 H2 : Hp} (a : TSame H H1) (b : TSame H1 H2) : TSame H H2 := fun c o h => b c o (a c o h)
theorem tsame {H H' : Hp} (s : Same H H') : TSame H H' := fun b xs h => s b _ h
/-- a list that is written over -/
theorem tsame_lst {H : Hp} {l : Addr} {xs ys : List V} (h : H l = some (.lst xs)) : TSame H (upd H l (.lst ys)) := fun b zs e => by
  have nb : b ≠ l := ne_of e h (by intro z; cases z)
  rw [upd_ne nb]
  exact e
theorem same_upd {H : Hp} {p : Addr} {o : HO} (h : H p = none) : Same H (upd H p o) := fun b x e => by
  rw [upd_ne (ne_of_none e h)]
  exact e
/-- what was tracked in H stands: H' tracks it, and l was not tracked in H -/
theorem same_set {H H' : Hp} {l : Addr} {o : HO} (s : Same H H') (hl : H l = none) : Same H (upd H' l o) := fun b x e => by
  rw [upd_ne (ne_of_none e hl)]
  exact s b x e
/-- what is free afterwards was free ahead -/
theorem none_of {H H' : Hp} {a : Addr} (s : Same H H') (h : H' a = none) : H a = none := by
  cases e : H a with
  | none => rfl
  | some o =>
    rw [s a o e] at h
    cases h
theorem at0 {x y : V} : atI [x, y] 0 = some x := atI_nat (xs := [x, y]) (j := 0) rfl
theorem at1 {x y : V} : atI [x, y] 1 = some y := atI_nat (xs := [x, y]) (j := 1) rfl
theorem PairedAt.nil (H : Hp) : PairedAt H [] [] := ⟨rfl, fun i p h => by simp at h⟩
theorem PairedAt.mono {H H' : Hp} {as : List Addr} {ps : List (Int × Int)} (h : PairedAt H as ps) (s : TSame H H') : PairedAt H' as ps :=
  ⟨h.len, fun i p e => let ⟨a, e1, e2⟩ := h.get i p e; ⟨a, e1, s a _ e2⟩⟩
theorem PairsAt.mono {H H' : Hp} {l : Addr} {ps : List (Int × Int)} (h : PairsAt H l ps) (s : Same H H') : PairsAt H' l ps := let ⟨as, e, p⟩ := h; ⟨as, s _ _ e, p.mono fun b xs q => s b _ q⟩
theorem PairedAt.snoc {H : Hp} {as : List Addr} {ps : List (Int × Int)} {a : Addr} {p : Int × Int} (h : PairedAt H as ps) (e : H a = some (tupI p.1 p.2)) : PairedAt H (as ++ [a]) (ps ++ [p]) := by
  refine ⟨by rw [List.length_append, List.length_append, h.len]; rfl, fun i q hq => ?_⟩
  by_cases hi : i < ps.length
  · rw [List.getElem?_append_left hi] at hq
    obtain ⟨b, e1, e2⟩ := h.get i q hq
    exact ⟨b, by rw [List.getElem?_append_left (by rw [h.len]; exact hi)]; exact e1, e2⟩
  · rw [List.getElem?_append_right (by omega)] at hq
    have hz : i - ps.length = 0 := by
      apply Classical.byContradiction
      intro z
      rw [List.getElem?_eq_none (by simp; omega)] at hq
      cases hq
    rw [hz] at hq
    have eq : p = q := Option.some.inj hq
    subst eq
    refine ⟨a, ?_, e⟩
    rw [List.getElem?_append_right (by rw [h.len]; omega), h.len, hz]
    rfl
theorem PairedAt.set {H : Hp} {as : List Addr} {ps : List (Int × Int)} {a : Addr} {p : Int × Int} (h : PairedAt H as ps) (e : H a = some (tupI p.1 p.2)) (j : Nat) : PairedAt H (as.set j a) (ps.set j p) := by
  refine ⟨by rw [List.length_set, List.length_set, h.len], fun i q hq => ?_⟩
  by_cases hj : j = i
  · subst hj
    by_cases hl : j < ps.length
    · rw [List.getElem?_set_self hl] at hq
      have eq : p = q := Option.some.inj hq
      subst eq
      exact ⟨a, List.getElem?_set_self (by rw [h.len]; exact hl), e⟩
    · rw [List.getElem?_eq_none (by rw [List.length_set]; omega)] at hq
      cases hq
  · rw [List.getElem?_set_ne hj] at hq
    obtain ⟨b, e1, e2⟩ := h.get i q hq
    exact ⟨b, by rw [List.getElem?_set_ne hj]; exact e1, e2⟩
theorem map_ref_get {as : List Addr} {i : Nat} {a : Addr} (h : as[i]? = some a) : (as.map V.ref)[i]? = some (V.ref a) := by
  rw [List.getElem?_map, h]
  rfl
theorem map_int_get {ns : List Int} {i : Nat} {a : Int} (h : ns[i]? = some a) : (ns.map V.int)[i]? = some (V.int a) := by
  rw [List.getElem?_map, h]
  rfl
theorem of_map_get {α : Type} {f : α → V} {xs : List α} {i : Nat} {y : V} (h : (xs.map f)[i]? = some y) : ∃ x, xs[i]? = some x ∧ y = f x := by
  rw [List.getElem?_map] at h
  cases e : xs[i]? with
  | none =>
    rw [e] at h
    cases h
  | some z =>
    rw [e] at h
    exact ⟨z, rfl, (Option.some.inj h).symm⟩
theorem map_ref_set (as : List Addr) (j : Nat) (a : Addr) : (as.map V.ref).set j (.ref a) = (as.set j a).map V.ref := by
  rw [List.map_set]
/-- a rational number as two whole ones -/
def pr (r : Rational) : Int × Int := (r.num, (r.den : Int))
abbrev tupR (r : Rational) : HO := tupI r.num (r.den : Int)
abbrev RatsAt (H : Hp) (l : Addr) (vs : Vals) : Prop := PairsAt H l (vs.map pr)
theorem ixN_pos {n : Nat} {i : Int} (h0 : 0 ≤ i) (h1 : i < n) : ixN n i = some i.toNat := by
  unfold ixN
  rw [if_pos h0, if_pos h1]
theorem at_pos {α : Type} {xs : List α} {i : Int} {v : α} (h0 : 0 ≤ i) (h : xs[i.toNat]? = some v) : atI xs i = some v := by
  have e : i = (i.toNat : Int) := by omega
  rw [e]
  exact atI_nat h
theorem len_lt {α : Type} {xs : List α} {n : Nat} (h : xs.length ≤ n) (hn : n ≤ 1000) : xs.length < sizeLine := small1000 (Nat.le_trans h hn)
theorem rg2 : ∀ n : Nat, n < 65 → Builtin.Range.small 0 (n : Int) 2 = true ∧ Builtin.Range.rangeSize 0 (n : Int) 2 = (((n + 1) / 2 : Nat) : Int) := by decide +kernel

/-- a comprehension's turn: a new tuple at t, its address behind the list at D -/
theorem turn_tup {H H1 : Hp} {D t : Addr} {as : List Addr} {ps : List (Int × Int)} {x y : Int} (hD : H D = none) (sm : Same H H1) (hl : H1 D = some (.lst (as.map V.ref))) (pa : PairedAt H1 as ps) (ht : H1 t = none) :
    (upd H1 t (tupI x y)) D = some (.lst (as.map V.ref)) ∧ Same H (upd (upd H1 t (tupI x y)) D (.lst (as.map V.ref ++ [.ref t]))) ∧
      ∃ bs : List Addr, (upd (upd H1 t (tupI x y)) D (.lst (as.map V.ref ++ [.ref t]))) D = some (.lst (bs.map V.ref)) ∧ PairedAt (upd (upd H1 t (tupI x y)) D (.lst (as.map V.ref ++ [.ref t]))) bs (ps ++ [(x, y)]) := by
  have nt : D ≠ t := ne_of_none hl ht
  have e1 : (upd H1 t (tupI x y)) D = some (.lst (as.map V.ref)) := by
    rw [upd_ne nt]
    exact hl
  refine ⟨e1, same_set (sm.trans (same_upd ht)) hD, as ++ [t], ?_, ?_⟩
  · rw [upd_same, List.map_append]
    rfl
  · refine (pa.mono ((tsame (same_upd ht)).trans (tsame_lst e1))).snoc (a := t) (p := (x, y)) ?_
    rw [upd_ne nt.symm, upd_same]

/-! ## What stands at the top -/
structure Def (K : PySem.W.Frag) (mg : Str → Option Value) (name : Str) (st : Stmt) (ps : List Str) (f : Addr) (fd : FuncData) : Prop where
  F : Fun K name name st f fd
  b : Binds K fd ps []
  g : mg name = some (.ref f)
def IntAt (mg : Str → Option Value) (name : Str) (i : Int) : Prop := ∃ t, mg name = some (.int i t)
def TupAt (K : PySem.W.Frag) (mg : Str → Option Value) (name : Str) (xs : List V) : Prop := ∃ a, mg name = some (.ref a) ∧ ∀ H, SqT K H a xs

section
variable {P : Program} {w : World} {K : PySem.W.Frag} {mg : Str → Option Value} {base : Heap}

structure Txt (K : PySem.W.Frag) (mg : Str → Option Value) : Prop where
  b_len : mg "len" = none
  b_range : mg "range" = none
  c_MOST_VALUES : IntAt mg "MOST_VALUES" (8)
  c_COUNTS_WITH_PLAN : TupAt K mg "COUNTS_WITH_PLAN" [.int (1), .int (2), .int (4), .int (8)]
  c_OUTSIDE_LIMITS : IntAt mg "OUTSIDE_LIMITS" (-22)
  c_NO_PLAN : IntAt mg "NO_PLAN" (-33)
  d_is_count : ∃ f fd, Def K mg "is_count" s_is_count ["count"] f fd
  d_planned_pairs : ∃ f fd, Def K mg "planned_pairs" s_planned_pairs ["count"] f fd

/-! ### is_count -/
def spIsCount : Sp := fun vs H Q _ => ∃ c : Int, vs = [.int c] ∧ Q (.bl (decide (1 ≤ c ∧ c ≤ 8))) H

theorem sc_is_count : FnScope ["count"] ["count"] (defScope s_is_count) := ⟨rfl, rfl, rfl, by decide +kernel, rfl, by decide +kernel, by decide +kernel⟩
theorem ok_is_count {f : Addr} {fd : FuncData} {k : Nat} (D : Def K mg "is_count" s_is_count ["count"] f fd) (T : Txt K mg) : FnOk P w K mg base CX0 (k + 1) f fd ["count"] spIsCount := by
  refine D.F.ok sc_is_count (fun vs H Q E h => ?_) (fun cdv A outer s H vs Q E hr h => ?_)
  · obtain ⟨c, rfl, _⟩ := h
    rfl
  · obtain ⟨c, rfl, q⟩ := h
    obtain ⟨t8, g8⟩ := T.c_MOST_VALUES
    refine ⟨_, pss_one (ps_ret (pe_chain op_le op_le pe_int (pv 0) (pe_glob (v := .int 8) (by rfl) g8 ⟨_, rfl⟩))), ?_⟩
    refine ⟨_, rfl, 1, c, rfl, rfl, _, rfl, ite2 (fun h1 => ⟨c, 8, rfl, rfl, ?_⟩) (fun h1 => ?_)⟩
    · have h1 := of_decide_eq_true h1
      have e : decide (1 ≤ c ∧ c ≤ 8) = decide (c ≤ 8) := by
        simp [h1]
      rw [e] at q
      exact q
    · have h1 : ¬ 1 ≤ c := fun z => h1 (decide_eq_true z)
      have e : decide (1 ≤ c ∧ c ≤ 8) = false := by
        simp [h1]
      rw [e] at q
      exact q

/-! ### planned_pairs -/
theorem iteT2 {x y : V} {A B : Prop} (hc : x = y) (h : A) : if decide (x = y) = true then A else B := by
  rw [decide_eq_true hc]
  exact iteT h
theorem iteF2 {x y : V} {A B : Prop} (hc : ¬ x = y) (h : B) : if decide (x = y) = true then A else B := by
  rw [decide_eq_false hc]
  exact iteF h
/-- what falls in the loop -/
def planLeft (σ : L2.St) : Nat := match (σ[0]? : Option (Option V)), (σ[2]? : Option (Option V)) with
  | some (some (.int n)), some (some (.int d)) => (n - d).toNat
  | _, _ => 0
/-- a number of values; the flat list of all layers below it stands at a new place -/
def spPlanned : Sp := fun vs H Q _ => ∃ n : Nat, vs = [.int (n : Int)] ∧ n ≤ 8 ∧
  ∀ H' p k, Same H H' → H p = none → n ≤ 2 ^ k → (k = 0 ∨ 2 ^ (k - 1) < n) → H' p = some (.lst ((planTo n k).map V.int)) → Q (.ref p) H'

theorem sc_planned_pairs : FnScope ["count", "pairs", "distance", "i"] ["count"] (defScope s_planned_pairs) := ⟨rfl, rfl, rfl, by decide +kernel, rfl, by decide +kernel, by decide +kernel⟩
theorem ok_planned_pairs {f : Addr} {fd : FuncData} {k : Nat} (D : Def K mg "planned_pairs" s_planned_pairs ["count"] f fd) (T : Txt K mg) : FnOk P w K mg base CX0 (k + 1) f fd ["count"] spPlanned := by
  refine D.F.ok sc_planned_pairs (fun vs H Q E h => ?_) (fun cdv A outer s H vs Q E hr h => ?_)
  · obtain ⟨n, rfl, _⟩ := h
    rfl
  · obtain ⟨n, rfl, hn, q⟩ := h
    refine ⟨_, pss_cons (ps_set (i := 1) sc_planned_pairs.nd rfl (.inl rfl) (pe_lst pa_nil))
      (pss_cons (ps_set (i := 2) sc_planned_pairs.nd rfl (.inl rfl) pe_int)
      (pss_cons (ps_while PassesOwn.never (pt_cmpR op_lt (pv 2) (pv 0) (nomark _))
          (pss_cons (ps_for PassesOwn.never rfl (pi_range1 (by rfl) T.b_range (pa_cons (pv 0) pa_nil)) (pg_name (i := 3) sc_planned_pairs.nd rfl (.inl rfl))
              (pss_one (ps_if (pt_cmpR op_eq (pe_op op_modN (pe_op op_fdivN (pv 3) (pv 2)) pe_int) pe_int (nomark _))
                (pss_one (ps_expr (pe_bm PySem.F.plainAttrs_list PySem.F.slot_list_extend PySem.F.type_list_extend mt_extend (pv 1) (pa_cons (pe_lst (pa_cons (pv 3) (pa_cons (pe_op op_add (pv 3) (pv 2)) pa_nil))) pa_nil)))) pss_nil)))
          (pss_one (ps_set (i := 2) sc_planned_pairs.nd rfl (.inl rfl) (pe_op op_mul pe_int (pv 2))))))
      (pss_one (ps_ret (pv 1))))), ?_⟩
    refine ⟨Nat.zero_le _, fun l hl => ?_⟩
    refine while_by (fun σ H' => ∃ (k : Nat) (y3 : Option V), σ = [some (.int (n : Int)), some (.ref l), some (.int ((2 ^ k : Nat) : Int)), y3] ∧ Same H H' ∧ H' l = some (.lst ((planTo n k).map V.int)) ∧ (k = 0 ∨ 2 ^ (k - 1) < n)) (fun σ _ => planLeft σ)
      ⟨0, none, rfl, same_upd hl, upd_same, .inl rfl⟩ ?_ ?_
    · rintro σ H1 ⟨k, y3, rfl, sm, hl1, hk⟩
      have k3 := level_le hn hk
      have hpk : 2 ^ k ≤ 2 ^ 3 := Nat.pow_le_pow_right (by decide) k3
      have hp0 : 0 < 2 ^ k := Nat.pow_pos (by decide)
      have e8 : (2 : Nat) ^ 3 = 8 := by decide
      rw [e8] at hpk
      have lenT := planTo_length n k
      have m48 : 2 * n * k ≤ 48 := Nat.le_trans (Nat.mul_le_mul (show 2 * n ≤ 16 by omega) k3) (by decide)
      refine ⟨_, rfl, _, rfl, _, _, rfl, rfl, _, rfl, ?_⟩
      by_cases hlt : 2 ^ k < n
      · rw [decide_eq_true (show (((2 ^ k : Nat) : Int) < (n : Int)) by omega)]
        refine iteT ?_
        generalize hd : 2 ^ k = d at *
        refine ⟨_, rfl, (n : Int), rfl, by omega, by omega, ?_⟩
        refine for_range (lo := 0) (n := ((n : Int)).toNat) (fun i σ H' => ∃ y3 : Option V, σ = [some (.int (n : Int)), some (.ref l), some (.int (d : Int)), y3] ∧ Same H H' ∧ H' l = some (.lst ((planTo n k ++ planLayer i d).map V.int)))
          ⟨y3, rfl, sm, by rw [hl1]; show _ = some (HO.lst ((planTo n k ++ []).map V.int)); rw [List.append_nil]⟩ ?_ ?_
        · rintro i σ H2 hi ⟨y3, rfl, sm2, hl2⟩
          have ex : 0 + (i : Int) = (i : Int) := Int.zero_add _
          have qq : ((0 + (i : Int)).fdiv (d : Int)).fmod 2 = ((i / d % 2 : Nat) : Int) := by
            rw [ex, Int.fdiv_eq_ediv_of_nonneg _ (by omega), Int.fmod_eq_emod_of_nonneg _ (by decide)]
            rfl
          have lenL := planLayer_length d i
          refine ⟨_, rfl, _, rfl, _, _, rfl, rfl, ⟨by omega, by omega⟩, _, 2, rfl, rfl, (by show (2 : Int) ≠ 0; decide), rfl, _, rfl, ?_⟩
          by_cases hm : i / d % 2 = 0
          · refine iteT2 (congrArg V.int (qq.trans (congrArg Int.ofNat hm))) ?_
            refine ⟨.ref l, rfl, .inl ⟨rfl, _, SqL.of hl2⟩, _, rfl, _, rfl, _, rfl, _, _, rfl, rfl, (by show 2 ≤ sizeLine; decide), fun z hz => ?_⟩
            have nlz : l ≠ z := ne_of_none hl2 hz
            have key : (planTo n k ++ planLayer i d).map V.int ++ [V.int (0 + (i : Int)), V.int (0 + (i : Int) + (d : Int))] = (planTo n k ++ planLayer (i + 1) d).map V.int := by
              rw [ex, planLayer_more, if_pos hm, ← List.append_assoc, List.map_append (l₁ := planTo n k ++ planLayer i d)]
              rfl
            refine ⟨l, z, _, [V.int (0 + (i : Int)), V.int (0 + (i : Int) + (d : Int))], rfl, rfl, (upd_ne nlz).trans hl2, upd_same, ?_, ?_⟩
            · rw [List.length_map, List.length_append]
              exact Nat.le_of_lt (small1000 (by show (planTo n k).length + (planLayer i d).length + 2 ≤ 1000; omega))
            · exact ⟨_, rfl, same_set (sm2.trans (same_upd hz)) hl, upd_same.trans (congrArg (fun z => some (HO.lst z)) key)⟩
          · refine iteF2 (fun z => hm (Int.ofNat.inj (qq.symm.trans (V.int.inj z)))) ⟨_, rfl, sm2, ?_⟩
            rw [hl2, planLayer_more, if_neg hm, List.append_nil]
        · rintro σ H2 ⟨y3, rfl, sm2, hl2⟩
          refine ⟨_, rfl, 2, _, rfl, rfl, .inl ⟨by decide, by decide⟩, ⟨k + 1, y3, ?_, sm2, ?_, .inr ?_⟩, ?_⟩
          · rw [Nat.pow_succ, hd, Nat.mul_comm, Int.natCast_mul]
            rfl
          · rw [Int.toNat_natCast] at hl2
            rw [hl2]
            show _ = some (HO.lst ((planTo n k ++ planLayer n (2 ^ k)).map V.int))
            rw [hd]
          · rw [Nat.add_sub_cancel, hd]
            exact hlt
          · show ((n : Int) - 2 * (d : Int)).toNat < ((n : Int) - (d : Int)).toNat
            omega
      · rw [decide_eq_false (show ¬ (((2 ^ k : Nat) : Int) < (n : Int)) by omega)]
        exact iteF ⟨_, rfl, q H1 l k sm hl (by omega) hk hl1⟩
    · exact fun σ H Q Q' hq ⟨v, e, u, e', i, j, h1, h2, c, h3, q⟩ => ⟨v, e, u, e', i, j, h1, h2, c, h3, hq _ _ q⟩

/-! ### plan -/
def spPlan (_ : PySem.W.Frag) : Sp := fun vs H Q _ => ∃ c : Int, vs = [.int c] ∧ ∀ (H' : Hp) (p : Addr), H' p = some (.lst ((planM c).map V.int)) → Q (.ref p) H'

theorem sc_plan : FnScope ["count", "pairs"] ["count"] (defScope s_plan) := ⟨rfl, rfl, rfl, by decide +kernel, rfl, by decide +kernel, by decide +kernel⟩
theorem ok_plan {f : Addr} {fd : FuncData} {k : Nat} (D : Def K mg "plan" s_plan ["count"] f fd) (T : Txt K mg) : FnOk P w K mg base CX0 (k + 2) f fd ["count"] (spPlan K) := by
  refine D.F.ok sc_plan (fun vs H Q E h => ?_) (fun cdv A outer s H vs Q E hr h => ?_)
  · obtain ⟨c, rfl, _⟩ := h
    rfl
  · obtain ⟨c, rfl, q⟩ := h
    obtain ⟨t22, g22⟩ := T.c_OUTSIDE_LIMITS
    obtain ⟨t33, g33⟩ := T.c_NO_PLAN
    obtain ⟨aW, gW, hW⟩ := T.c_COUNTS_WITH_PLAN
    obtain ⟨fC, fdC, DC⟩ := T.d_is_count
    obtain ⟨fP, fdP, DP⟩ := T.d_planned_pairs
    have GC : FnOk P w K mg base CX0 (k + 1) fC fdC ["count"] spIsCount := ok_is_count DC T
    have GP : FnOk P w K mg base CX0 (k + 1) fP fdP ["count"] spPlanned := ok_planned_pairs DP T
    refine ⟨_, pss_cons (ps_if (pt_not (pt_val (pe_call GC hr (by rfl) DC.g DC.F.kp DC.b .nil pass0 (pa_cons (pv 0) pa_nil))))
          (pss_one (ps_ret (pe_lst (pa_cons (pe_glob (v := .int (-22)) (by rfl) g22 ⟨_, rfl⟩) pa_nil)))) pss_nil)
      (pss_cons (ps_if (pt_cmpR op_notIn_seq (pv 0) (pe_glob (v := .ref aW) (by rfl) gW rfl) (by rfl))
          (pss_one (ps_ret (pe_lst (pa_cons (pe_glob (v := .int (-33)) (by rfl) g33 ⟨_, rfl⟩) pa_nil)))) pss_nil)
      (pss_cons (ps_set (i := 1) sc_plan.nd rfl (.inl rfl) (pe_call GP hr (by rfl) DP.g DP.F.kp DP.b .nil pass0 (pa_cons (pv 0) pa_nil)))
      (pss_one (ps_ret (pe_op op_cat (pe_lst (pa_cons (pe_op op_fdivN (pe_callB call_len_seq (by rfl) T.b_len PySem.boot_len (pa_cons (pv 1) pa_nil)) pe_int) pa_nil)) (pv 1)))))), ?_⟩
    refine ⟨_, rfl, c, rfl, _, rfl, ?_⟩
    by_cases hc : 1 ≤ c ∧ c ≤ 8
    · rw [decide_eq_true hc]
      refine iteF ⟨_, rfl, aW, _, rfl, .inr (hW H), rfl, rfl, _, rfl, ?_⟩
      have ei : inV (.int c) [.int 1, .int 2, .int 4, .int 8] = decide (hasPlan c) := by
        have : c = 1 ∨ c = 2 ∨ c = 3 ∨ c = 4 ∨ c = 5 ∨ c = 6 ∨ c = 7 ∨ c = 8 := by omega
        rcases this with rfl | rfl | rfl | rfl | rfl | rfl | rfl | rfl <;> decide
      rw [if_pos rfl, ei]
      by_cases hp : hasPlan c
      · rw [decide_eq_true hp]
        obtain ⟨n, rfl⟩ : ∃ n : Nat, c = (n : Int) := ⟨c.toNat, by omega⟩
        have hn : n = 1 ∨ n = 2 ∨ n = 4 ∨ n = 8 := by
          unfold hasPlan at hp
          omega
        refine iteF ⟨_, rfl, n, rfl, by omega, fun H1 l j s1 nl h1 h2 hl => ?_⟩
        have lj := planTo_length n j
        have m48 : 2 * n * j ≤ 48 := Nat.le_trans (Nat.mul_le_mul (show 2 * n ≤ 16 by omega) (level_le (by omega) h2)) (by decide)
        have ee := plan_end hn h1 h2
        refine ⟨_, rfl, l, _, rfl, .inl (SqL.of hl), _, 2, rfl, rfl, ⟨by decide, by decide⟩, (by show 1 ≤ sizeLine; decide), fun e he => ?_⟩
        have nle : l ≠ e := ne_of_none hl he
        have ed : ((((planTo n j).map V.int).length : Nat) : Int).fdiv 2 = (((planTo n j).length / 2 : Nat) : Int) := by
          rw [Int.fdiv_eq_ediv_of_nonneg _ (by decide), List.length_map]
          rfl
        refine ⟨_, rfl, e, l, _, _, rfl, rfl, upd_same, (by rw [upd_ne nle]; exact hl), ?_, fun p np => ?_⟩
        · rw [List.length_map]
          exact Nat.le_of_lt (small1000 (by show 1 + (planTo n j).length ≤ 1000; omega))
        · refine q _ p ?_
          unfold planM
          rw [if_pos hc, if_pos hp, ← ee]
          exact upd_same.trans (congrArg (fun z => some (HO.lst (V.int z :: (planTo n j).map V.int))) ed)
      · rw [decide_eq_false hp]
        refine iteT ⟨(by show 1 ≤ sizeLine; decide), fun p hp2 => q _ p ?_⟩
        unfold planM
        rw [if_pos hc, if_neg hp]
        exact upd_same
    · rw [decide_eq_false hc]
      refine iteT ⟨(by show 1 ≤ sizeLine; decide), fun p hp => q _ p ?_⟩
      unfold planM
      rw [if_neg hc]
      exact upd_same

end
/-! ## The end: what the top has written -/
theorem all_mk {P : Program} {w : World} {K : PySem.W.Frag} {h : Heap} {mg : Str → Option Value} {fa : Addr} (X : K.In h) (G : h.Ns mainGlobals mg) (hfa : mg "plan" = some (.ref fa))
    {f1 f2 f3 : Addr} {od1 an1 od2 an2 od3 an3 : Option Addr} {sl1 sl2 sl3 : Array (Option Value)} {oc1 kV1 dc1 pm1 cd1 ct1 oc2 kV2 dc2 pm2 cd2 ct2 oc3 kV3 dc3 pm3 cd3 ct3 : Value} {t1 : Tok} {t3 : Tok} {t4 : Tok}
    {w2 : Addr} {wd2 : Option Addr} {wn2 : Nat} {ws2 : Array (Option Value)} {t2_0 t2_1 t2_2 t2_3 : Tok}
    (zb_len : PySem.W.nsIn K mainGlobals "len" = some none)
    (zb_range : PySem.W.nsIn K mainGlobals "range" = some none)
    (zc_MOST_VALUES : PySem.W.nsIn K mainGlobals "MOST_VALUES" = some (some (.int (8) t1)))
    (zc_COUNTS_WITH_PLAN : PySem.W.nsIn K mainGlobals "COUNTS_WITH_PLAN" = some (some (.ref w2)))
    (zt_COUNTS_WITH_PLAN : K.lookup w2 = some ⟨.type "tuple", wd2, .seq #[.int (1) t2_0, .int (2) t2_1, .int (4) t2_2, .int (8) t2_3] wn2, ws2⟩)
    (zc_OUTSIDE_LIMITS : PySem.W.nsIn K mainGlobals "OUTSIDE_LIMITS" = some (some (.int (-22) t3)))
    (zc_NO_PLAN : PySem.W.nsIn K mainGlobals "NO_PLAN" = some (some (.int (-33) t4)))
    (a1 : PySem.W.nsIn K mainGlobals "is_count" = some (some (.ref f1)))
    (l1 : K.lookup f1 = some ⟨oc1, od1, .func (PySem.W.fnOf "is_count" "is_count" (defArgs s_is_count) (defBody s_is_count) (defScope s_is_count) .none kV1 dc1 pm1 an1 cd1 ct1), sl1⟩)
    (c1 : PySem.W.codeIn K cd1 "is_count" = true) (k1 : PySem.W.keepIn K (.ref f1) = true)
    (a2 : PySem.W.nsIn K mainGlobals "planned_pairs" = some (some (.ref f2)))
    (l2 : K.lookup f2 = some ⟨oc2, od2, .func (PySem.W.fnOf "planned_pairs" "planned_pairs" (defArgs s_planned_pairs) (defBody s_planned_pairs) (defScope s_planned_pairs) .none kV2 dc2 pm2 an2 cd2 ct2), sl2⟩)
    (c2 : PySem.W.codeIn K cd2 "planned_pairs" = true) (k2 : PySem.W.keepIn K (.ref f2) = true)
    (a3 : PySem.W.nsIn K mainGlobals "plan" = some (some (.ref f3)))
    (l3 : K.lookup f3 = some ⟨oc3, od3, .func (PySem.W.fnOf "plan" "plan" (defArgs s_plan) (defBody s_plan) (defScope s_plan) .none kV3 dc3 pm3 an3 cd3 ct3), sl3⟩)
    (c3 : PySem.W.codeIn K cd3 "plan" = true) (k3 : PySem.W.keepIn K (.ref f3) = true)
    : ∃ fd : FuncData, (∀ (s : Shared) (us : List Value), us.length = (["count"] : List Str).length → BindsTo s fd ⟨us, []⟩ ((["count"] : List Str).zip us)) ∧ ∀ base : Heap, K.In base → base.Ns mainGlobals mg → FnOk P w K mg base CX0 2 fa fd ["count"] (spPlan K) := by
  have e := hfa.symm.trans (PySem.W.mg_of X G a3)
  cases e
  have F1 := fun_mk (st := s_is_count) l1 c1 k1
  have b1 := F1.binds (ps := ["count"]) fun _ _ _ _ _ _ us hl => match us, hl with | [_], _ => rfl
  have F2 := fun_mk (st := s_planned_pairs) l2 c2 k2
  have b2 := F2.binds (ps := ["count"]) fun _ _ _ _ _ _ us hl => match us, hl with | [_], _ => rfl
  have F3 := fun_mk (st := s_plan) l3 c3 k3
  have b3 := F3.binds (ps := ["count"]) fun _ _ _ _ _ _ us hl => match us, hl with | [_], _ => rfl
  have T : Txt K mg :=
    { b_len := PySem.W.mg_none_of X G zb_len,
      b_range := PySem.W.mg_none_of X G zb_range,
      c_MOST_VALUES := ⟨_, PySem.W.mg_of X G zc_MOST_VALUES⟩,
      c_COUNTS_WITH_PLAN := ⟨_, PySem.W.mg_of X G zc_COUNTS_WITH_PLAN, fun _ => .inr ⟨_, _, _, zt_COUNTS_WITH_PLAN, rfl, rfl, (by show 4 ≤ sizeLine; decide), .cons ⟨_, rfl⟩ (.cons ⟨_, rfl⟩ (.cons ⟨_, rfl⟩ (.cons ⟨_, rfl⟩ (.nil))))⟩⟩,
      c_OUTSIDE_LIMITS := ⟨_, PySem.W.mg_of X G zc_OUTSIDE_LIMITS⟩,
      c_NO_PLAN := ⟨_, PySem.W.mg_of X G zc_NO_PLAN⟩,
      d_is_count := ⟨_, _, F1, b1, PySem.W.mg_of X G a1⟩,
      d_planned_pairs := ⟨_, _, F2, b2, PySem.W.mg_of X G a2⟩ }
  exact ⟨PySem.W.fnOf "plan" "plan" (defArgs s_plan) (defBody s_plan) (defScope s_plan) .none kV3 dc3 pm3 an3 cd3 ct3, fun s us hu => match us, hu with | [_], _ => .of_eq rfl, fun base _ _ => ok_plan (k := 0) ⟨F3, b3, PySem.W.mg_of X G a3⟩ T⟩
end MP
open PySem PySem.W PyProof.Rows
set_option maxRecDepth 100000 in
set_option maxHeartbeats 8000000 in
theorem PySem.Challenge.cw_meanpairs_s04_plan_holds : PySem.Challenge.rw_meanpairs_s04_plan.Holds := by
  w_on; k_headS; (case hw => exact ⟨[.int 0], by decide +kernel, by decide +kernel⟩)
  k_fillS
  refine L2.walk_specK (r := PySem.Challenge.rw_meanpairs_s04_plan) (k := 2) (CX := L2.CX0) (ps := ["count"]) (sp := MP.spPlan) (by decide +kernel) rfl rfl ⟨rfl, by decide, by decide⟩ (fun w h Y => PySem.W.kIn_of Y) ?F ?S (fun _ _ _ _ z => z)
  case F =>
    intro w mg fa h Y KX G hmg
    refine' MP.all_mk KX G hmg ?zb_len ?zb_range ?zc_MOST_VALUES ?zc_COUNTS_WITH_PLAN ?zt_COUNTS_WITH_PLAN ?zc_OUTSIDE_LIMITS ?zc_NO_PLAN ?a1 ?l1 ?c1 ?k1 ?a2 ?l2 ?c2 ?k2 ?a3 ?l3 ?c3 ?k3
    (case zb_len => k_is)
    (case zb_range => k_is)
    (case zc_MOST_VALUES => k_is)
    (case zc_COUNTS_WITH_PLAN => k_is)
    (case zt_COUNTS_WITH_PLAN => k_is)
    (case zc_OUTSIDE_LIMITS => k_is)
    (case zc_NO_PLAN => k_is)
    (case a1 => k_is)
    (case l1 => k_is)
    (case c1 => k_is)
    (case k1 => k_is)
    (case a2 => k_is)
    (case l2 => k_is)
    (case c2 => k_is)
    (case k2 => k_is)
    (case a3 => k_is)
    (case l3 => k_is)
    (case c3 => k_is)
    (case k3 => k_is)
  case S =>
    intro K H xs a hO hwi hask hx
    cases hx with
    | cons h1 h2 =>
      cases h2
      cases h1
      have q : (Codec.inInt 0 4294967295 a.1 && true) = true := hwi
      simp only [Bool.and_true] at q
      have e : PyKs606.plan a.1 = MP.planM a.1 := MP.plan_is (Codec.inInt_iff.mp q).1
      refine ⟨a.1, rfl, fun H' p hp => ?_⟩
      have z : L2.Dw K H' (.ref p) (WData.list ((PyKs606.plan a.1).map WData.int)) := by
        rw [e]
        exact .lst (L2.SqL.of hp) (L2.dw_ints _)
      exact z
#print axioms PySem.Challenge.cw_meanpairs_s04_plan_holds
