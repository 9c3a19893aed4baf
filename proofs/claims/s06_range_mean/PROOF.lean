import PyProof.Rows.All
import Wide.All
import OpenK.AllK
import Wide.FinOn
import Open.SpecLaws
import KE.OsGo
import HandS.ForSpec
import HandS.Comp
import HandS.Iter
import HandS.Zip
import HandS.Walk
import HandS.Wide
import PySem.Challenge.RW_risingfits_s06_range_mean
set_option Elab.async false
set_option linter.all false
namespace My
open Ks607
/-! ### A. reading the list -/
def pairsOf : List Int → List (Int × Int)
  | a :: b :: r => (a, b) :: pairsOf r
  | _ => []
theorem pairsOf_len : ∀ ns : List Int, (pairsOf ns).length = ns.length / 2
  | [] => rfl
  | [_] => by
    show 0 = (0 + 1) / 2
    omega
  | a :: b :: r => by
    show (pairsOf r).length + 1 = (r.length + 1 + 1) / 2
    rw [pairsOf_len r]
    omega
theorem pairsOf_get : ∀ (ns : List Int) (i : Nat) (x y : Int), ns[2 * i]? = some x → ns[2 * i + 1]? = some y → (pairsOf ns)[i]? = some (x, y)
  | [], i, x, y, h, _ => by simp at h
  | [a], 0, x, y, _, h => by simp at h
  | [a], i + 1, x, y, h, _ => by
    rw [show 2 * (i + 1) = (2 * i + 1) + 1 by omega] at h
    simp at h
  | a :: b :: r, 0, x, y, h, h2 => by
    have e1 : a = x := Option.some.inj h
    have e2 : b = y := Option.some.inj h2
    rw [← e1, ← e2]
    rfl
  | a :: b :: r, i + 1, x, y, h, h2 => by
    rw [show 2 * (i + 1) = 2 * i + 1 + 1 by omega] at h h2
    rw [List.getElem?_cons_succ, List.getElem?_cons_succ] at h h2
    show ((a, b) :: pairsOf r)[i + 1]? = some (x, y)
    rw [List.getElem?_cons_succ]
    exact pairsOf_get r i x y h h2
def PairOk (p : Int × Int) : Prop := (0 ≤ p.1 ∧ p.1 ≤ 999) ∧ 1 ≤ p.2 ∧ p.2 ≤ 9
instance (p : Int × Int) : Decidable (PairOk p) := by unfold PairOk; infer_instance
def PtOk (m : Measurement) : Prop := m.value ≤ 999 ∧ 1 ≤ m.weight ∧ m.weight ≤ 9
def encP (m : Measurement) : Int × Int := ((m.value : Int), (m.weight : Int))
/-- the list is within its limits, as the program asks -/
def OkM (ns : List Int) : Prop := (ns.length % 2 = 0 ∧ 1 ≤ ns.length / 2 ∧ ns.length / 2 ≤ 10) ∧ ∀ p ∈ pairsOf ns, PairOk p
instance (ns : List Int) : Decidable (OkM ns) := by unfold OkM; infer_instance
theorem parse_ok : ∀ ns : List Int, (∀ x ∈ ns, 0 ≤ x) → ns.length % 2 = 0 → (∀ p ∈ pairsOf ns, PairOk p) →
    ∃ s, parseSequence (ns.map Int.toNat) = some s ∧ pairsOf ns = s.map encP ∧ ∀ m ∈ s, PtOk m
  | [], _, _, _ => ⟨[], rfl, rfl, fun m h => by cases h⟩
  | [a], _, h, _ => by simp at h
  | a :: b :: r, h0, h1, h2 => by
    obtain ⟨s, e1, e2, e3⟩ := parse_ok r (fun x hx => h0 x (List.mem_cons_of_mem _ (List.mem_cons_of_mem _ hx)))
      (by simp only [List.length_cons] at h1; omega) (fun p hp => h2 p (List.mem_cons_of_mem _ hp))
    have ha := h0 a (List.mem_cons_self ..)
    have hb := h0 b (List.mem_cons_of_mem _ (List.mem_cons_self ..))
    have hp : PairOk (a, b) := h2 (a, b) (List.mem_cons_self ..)
    obtain ⟨⟨p1, p2⟩, p3, p4⟩ := hp
    simp only at p1 p2 p3 p4
    refine ⟨⟨a.toNat, b.toNat⟩ :: s, ?_, ?_, ?_⟩
    · show (if isValidMeasurement a.toNat b.toNat then (parseSequence (r.map Int.toNat)).map fun s => ⟨a.toNat, b.toNat⟩ :: s else none) = _
      have hv : isValidMeasurement a.toNat b.toNat = true := by
        unfold isValidMeasurement
        simp only [Bool.and_eq_true, decide_eq_true_eq]
        omega
      rw [if_pos hv, e1]
      rfl
    · show (a, b) :: pairsOf r = encP ⟨a.toNat, b.toNat⟩ :: s.map encP
      rw [e2]
      congr 1
      show (a, b) = ((a.toNat : Int), (b.toNat : Int))
      rw [Int.toNat_of_nonneg ha, Int.toNat_of_nonneg hb]
    · intro m hm
      cases hm with
      | head => exact ⟨by show a.toNat ≤ 999; omega, by show 1 ≤ b.toNat; omega, by show b.toNat ≤ 9; omega⟩
      | tail _ hm => exact e3 m hm
theorem parse_some : ∀ (ns : List Int) (s : Sequence), (∀ x ∈ ns, 0 ≤ x) → parseSequence (ns.map Int.toNat) = some s →
    ns.length = 2 * s.length ∧ ∀ p ∈ pairsOf ns, PairOk p
  | [], s, _, h => by
    have e : [] = s := Option.some.inj h
    subst e
    exact ⟨rfl, fun p hp => by cases hp⟩
  | [a], s, _, h => by cases h
  | a :: b :: r, s, h0, h => by
    have h' : (if isValidMeasurement a.toNat b.toNat then (parseSequence (r.map Int.toNat)).map fun s => (⟨a.toNat, b.toNat⟩ : Measurement) :: s else none) = some s := h
    by_cases hv : isValidMeasurement a.toNat b.toNat = true
    · rw [if_pos hv] at h'
      cases hr : parseSequence (r.map Int.toNat) with
      | none => rw [hr] at h'; cases h'
      | some t =>
        rw [hr] at h'
        have e : (⟨a.toNat, b.toNat⟩ : Measurement) :: t = s := Option.some.inj h'
        subst e
        obtain ⟨l, q⟩ := parse_some r t (fun x hx => h0 x (List.mem_cons_of_mem _ (List.mem_cons_of_mem _ hx))) hr
        refine ⟨by simp only [List.length_cons]; omega, fun p hp => ?_⟩
        have ha := h0 a (List.mem_cons_self ..)
        have hb := h0 b (List.mem_cons_of_mem _ (List.mem_cons_self ..))
        unfold isValidMeasurement at hv
        simp only [Bool.and_eq_true, decide_eq_true_eq] at hv
        have hp' : p ∈ (a, b) :: pairsOf r := hp
        cases hp' with
        | head =>
          refine ⟨⟨ha, ?_⟩, ?_, ?_⟩ <;> simp only <;> omega
        | tail _ hm => exact q p hm
    · rw [if_neg hv] at h'
      cases h'
/-- the sequence is one that the document lets be computed with -/
structure SeqOk (s : Sequence) : Prop where
  low : 1 ≤ s.length
  high : s.length ≤ 10
  pts : ∀ m ∈ s, PtOk m
theorem with_ok {ns : List Int} (h0 : ∀ x ∈ ns, 0 ≤ x) (h : OkM ns) :
    ∃ s, SeqOk s ∧ pairsOf ns = s.map encP ∧ ∀ c, withSequence (ns.map Int.toNat) c = c s := by
  obtain ⟨⟨h1, h2, h3⟩, h4⟩ := h
  obtain ⟨s, e1, e2, e3⟩ := parse_ok ns h0 h1 h4
  have el : ns.length / 2 = s.length := by
    rw [← pairsOf_len, e2, List.length_map]
  refine ⟨s, ⟨by omega, by omega, e3⟩, e2, fun c => ?_⟩
  unfold withSequence
  rw [e1]
  show (if s.length < 1 ∨ maxMeasurements < s.length then number (-22) else c s) = c s
  rw [if_neg]
  show ¬ (s.length < 1 ∨ 10 < s.length)
  omega
theorem with_bad {ns : List Int} (h0 : ∀ x ∈ ns, 0 ≤ x) (h : ¬ OkM ns) (c : Sequence → Result) : withSequence (ns.map Int.toNat) c = number (-22) := by
  unfold withSequence
  cases e : parseSequence (ns.map Int.toNat) with
  | none => rfl
  | some s =>
    show (if s.length < 1 ∨ maxMeasurements < s.length then number (-22) else c s) = number (-22)
    obtain ⟨l, q⟩ := parse_some ns s h0 e
    by_cases hc : s.length < 1 ∨ maxMeasurements < s.length
    · rw [if_pos hc]
    · exfalso
      have hc' : ¬ (s.length < 1 ∨ 10 < s.length) := hc
      exact h ⟨by omega, q⟩
/-! ### B. rational numbers -/
open Ks604 (Rational)
open Ks604.Rational (make zero ofNat le)
theorem make_pos {n : Int} {d : Nat} (hd : 0 < d) : make n d = ⟨n / (Nat.gcd n.natAbs d : Nat), d / Nat.gcd n.natAbs d⟩ := by
  unfold Ks604.Rational.make
  rw [if_neg (by omega)]
theorem make_den_pos {n : Int} {d : Nat} (hd : 0 < d) : 0 < (make n d).den := by
  rw [make_pos hd]
  exact Nat.div_pos (Nat.gcd_le_right _ hd) (Nat.gcd_pos_of_pos_right _ hd)
theorem gcd_dvd_int (n : Int) (d : Nat) : ((Nat.gcd n.natAbs d : Nat) : Int) ∣ n := by
  exact Int.natAbs_dvd_natAbs.mp (by rw [Int.natAbs_natCast]; exact Nat.gcd_dvd_left _ _)
theorem make_cross {n : Int} {d : Nat} (hd : 0 < d) : (make n d).num * d = n * (make n d).den := by
  rw [make_pos hd]
  show n / ((Nat.gcd n.natAbs d : Nat) : Int) * d = n * ((d / Nat.gcd n.natAbs d : Nat) : Int)
  obtain ⟨a, ha⟩ := gcd_dvd_int n d
  obtain ⟨b, hb⟩ := Nat.gcd_dvd_right n.natAbs d
  have hg : 0 < Nat.gcd n.natAbs d := Nat.gcd_pos_of_pos_right _ hd
  generalize Nat.gcd n.natAbs d = g at *
  subst hb
  rw [ha, Int.mul_ediv_cancel_left _ (by omega), Nat.mul_div_cancel_left _ hg]
  rw [Int.natCast_mul, ← Int.mul_assoc, Int.mul_comm a]
/-- reduced fractions that are worth the same are the same -/
theorem make_congr {a c : Int} {b d : Nat} (hb : 0 < b) (hd : 0 < d) (h : a * d = c * b) : make a b = make c d := by
  rw [make_pos hb, make_pos hd]
  obtain ⟨x, hx⟩ := gcd_dvd_int a b
  obtain ⟨y, hy⟩ := Nat.gcd_dvd_right a.natAbs b
  obtain ⟨z, hz⟩ := gcd_dvd_int c d
  obtain ⟨w, hw⟩ := Nat.gcd_dvd_right c.natAbs d
  have hg : 0 < Nat.gcd a.natAbs b := Nat.gcd_pos_of_pos_right _ hb
  have hk : 0 < Nat.gcd c.natAbs d := Nat.gcd_pos_of_pos_right _ hd
  have c1 : Nat.gcd x.natAbs y = 1 := by
    have e : Nat.gcd a.natAbs b * Nat.gcd x.natAbs y = Nat.gcd a.natAbs b := by
      rw [← Nat.gcd_mul_left]
      congr 1
      · conv => rhs; rw [hx]
        rw [Int.natAbs_mul, Int.natAbs_natCast]
      · exact hy.symm
    exact Nat.eq_of_mul_eq_mul_left hg (by rw [e, Nat.mul_one])
  have c2 : Nat.gcd z.natAbs w = 1 := by
    have e : Nat.gcd c.natAbs d * Nat.gcd z.natAbs w = Nat.gcd c.natAbs d := by
      rw [← Nat.gcd_mul_left]
      congr 1
      · conv => rhs; rw [hz]
        rw [Int.natAbs_mul, Int.natAbs_natCast]
      · exact hw.symm
    exact Nat.eq_of_mul_eq_mul_left hk (by rw [e, Nat.mul_one])
  generalize Nat.gcd a.natAbs b = g at *
  generalize Nat.gcd c.natAbs d = k at *
  subst hx hy hz hw
  rw [Int.mul_ediv_cancel_left _ (by omega), Int.mul_ediv_cancel_left _ (by omega), Nat.mul_div_cancel_left _ hg, Nat.mul_div_cancel_left _ hk]
  have hy0 : 0 < y := Nat.pos_of_mul_pos_left hb
  have hw0 : 0 < w := Nat.pos_of_mul_pos_left hd
  have hxw : x * w = z * y := by
    have e : ((g : Int) * k) * (x * w) = (g * k) * (z * y) := by
      push_cast at h
      grind
    exact Int.eq_of_mul_eq_mul_left (Int.mul_ne_zero (by omega) (by omega)) e
  have e1 : x.natAbs * w = z.natAbs * y := by
    have := congrArg Int.natAbs hxw
    rw [Int.natAbs_mul, Int.natAbs_mul, Int.natAbs_natCast, Int.natAbs_natCast] at this
    exact this
  have ew : y = w := by
    have d1 : y ∣ w := Nat.Coprime.dvd_of_dvd_mul_left (m := x.natAbs) (by show Nat.gcd y x.natAbs = 1; rw [Nat.gcd_comm]; exact c1) ⟨z.natAbs, by rw [e1, Nat.mul_comm]⟩
    have d2 : w ∣ y := Nat.Coprime.dvd_of_dvd_mul_left (m := z.natAbs) (by show Nat.gcd w z.natAbs = 1; rw [Nat.gcd_comm]; exact c2) ⟨x.natAbs, by rw [← e1, Nat.mul_comm]⟩
    exact Nat.dvd_antisymm d1 d2
  subst ew
  have ex : x = z := Int.eq_of_mul_eq_mul_right (by omega) hxw
  rw [ex]
theorem le_make {a c : Int} {b d : Nat} (hb : 0 < b) (hd : 0 < d) : le (make a b) (make c d) = decide (a * d ≤ c * b) := by
  unfold Ks604.Rational.le
  have e1 := make_cross (n := a) hb
  have e2 := make_cross (n := c) hd
  have p1 := make_den_pos (n := a) hb
  have p2 := make_den_pos (n := c) hd
  generalize make a b = p at *
  generalize make c d = q at *
  apply decide_eq_decide.mpr
  have hbd : (0 : Int) < (b : Int) * d := Int.mul_pos (by omega) (by omega)
  have hpq : (0 : Int) < (p.den : Int) * q.den := Int.mul_pos (by omega) (by omega)
  have ek : (p.num * q.den) * ((b : Int) * d) = (a * d) * (p.den * q.den) := by grind
  have em : (q.num * p.den) * ((b : Int) * d) = (c * b) * (p.den * q.den) := by grind
  constructor
  · intro h
    have := Int.mul_le_mul_of_nonneg_right h (Int.le_of_lt hbd)
    rw [ek, em] at this
    exact Int.le_of_mul_le_mul_right this hpq
  · intro h
    have := Int.mul_le_mul_of_nonneg_right h (Int.le_of_lt hpq)
    rw [← ek, ← em] at this
    exact Int.le_of_mul_le_mul_right this hbd
end My
namespace My
open Ks607
open Ks604 (Rational)
open Ks604.Rational (make zero ofNat le)
/-! ### C. the pooling -/
def BlkOk (b : Block) : Prop := 1 ≤ b.1 ∧ 1 ≤ b.2.1 ∧ b.2.1 ≤ 9 * b.1 ∧ b.2.2 ≤ 8991 * b.1
/-- blocks of n measurements in all -/
structure Pool (n : Nat) (st : List Block) : Prop where
  total : (st.map (·.1)).sum = n
  each : ∀ b ∈ st, BlkOk b
def encB (b : Block) : List Int := [(b.2.2 : Int), (b.2.1 : Int), (b.1 : Int)]
def joinB (l b : Block) : Block := (l.1 + b.1, l.2.1 + b.2.1, l.2.2 + b.2.2)
def oneB (m : Measurement) : Block := (1, m.weight, m.weight * m.value)
theorem le_mean {b c : Block} (hb : BlkOk b) (hc : BlkOk c) : le (blockMean b) (blockMean c) = decide ((b.2.2 : Int) * c.2.1 ≤ (c.2.2 : Int) * b.2.1) :=
  le_make hb.2.1 hc.2.1
theorem push_nil (n : Nat) (b : Block) : pushBlock n [] b = [b] := by
  cases n <;> rfl
theorem push_merge {n : Nat} {l b : Block} {r : List Block} (h : le (blockMean b) (blockMean l) = true) : pushBlock (n + 1) (l :: r) b = pushBlock n r (joinB l b) := by
  show (if le (blockMean b) (blockMean l) then _ else _) = _
  rw [if_pos h]
  rfl
theorem push_stop {n : Nat} {l b : Block} {r : List Block} (h : ¬ le (blockMean b) (blockMean l) = true) : pushBlock n (l :: r) b = b :: l :: r := by
  cases n with
  | zero => rfl
  | succ n =>
    show (if le (blockMean b) (blockMean l) then _ else _) = _
    rw [if_neg h]
theorem Pool.join {n : Nat} {l b : Block} {r : List Block} (h : Pool n (b :: l :: r)) : Pool n (joinB l b :: r) := by
  have t := h.total
  simp only [List.map_cons, List.sum_cons] at t
  have hb := h.each b (List.mem_cons_self ..)
  have hl := h.each l (List.mem_cons_of_mem _ (List.mem_cons_self ..))
  refine ⟨?_, fun c hc => ?_⟩
  · simp only [List.map_cons, List.sum_cons, joinB]
    omega
  · cases hc with
    | head =>
      unfold BlkOk joinB at *
      simp only at *
      omega
    | tail _ hc => exact h.each c (List.mem_cons_of_mem _ (List.mem_cons_of_mem _ hc))
theorem Pool.one {n : Nat} {st : List Block} {m : Measurement} (h : Pool n st) (hm : PtOk m) : Pool (n + 1) (oneB m :: st) := by
  refine ⟨?_, fun c hc => ?_⟩
  · simp only [List.map_cons, List.sum_cons, oneB]
    rw [h.total]
    omega
  · cases hc with
    | head =>
      obtain ⟨a, b, c⟩ := hm
      have e : m.weight * m.value ≤ 9 * 999 := Nat.mul_le_mul c a
      unfold BlkOk oneB
      simp only
      omega
    | tail _ hc => exact h.each c hc
theorem Pool.le {n : Nat} {st : List Block} (h : Pool n st) : st.length ≤ n ∧ ∀ b ∈ st, b.1 ≤ n := by
  induction st generalizing n with
  | nil => exact ⟨Nat.zero_le _, fun b hb => by cases hb⟩
  | cons a r ih =>
    have t := h.total
    simp only [List.map_cons, List.sum_cons] at t
    have ha := (h.each a (List.mem_cons_self ..)).1
    obtain ⟨i1, i2⟩ := ih (n := (r.map (·.1)).sum) ⟨rfl, fun b hb => h.each b (List.mem_cons_of_mem _ hb)⟩
    refine ⟨by simp only [List.length_cons]; omega, fun b hb => ?_⟩
    cases hb with
    | head => omega
    | tail _ hb =>
      have := i2 b hb
      omega
/-- the blocks behind the first measurements, the last one first -/
def pooled (s : Sequence) : List Block := s.foldl (fun blocks m => pushBlock blocks.length blocks (1, m.weight, m.weight * m.value)) []
theorem blocksOf_eq (s : Sequence) : blocksOf s = (pooled s).reverse := rfl
theorem take_more {α : Type} : ∀ {l : List α} {i : Nat} {x : α}, l[i]? = some x → l.take (i + 1) = l.take i ++ [x]
  | [], i, x, h => by simp at h
  | a :: l, 0, x, h => by
    have e : a = x := Option.some.inj h
    subst e
    rfl
  | a :: l, i + 1, x, h => by
    have ih := take_more (l := l) (i := i) (x := x) h
    show a :: l.take (i + 1) = a :: l.take i ++ [x]
    rw [ih]
    rfl
theorem pooled_more {s : Sequence} {i : Nat} {m : Measurement} (h : s[i]? = some m) :
    pooled (s.take (i + 1)) = pushBlock (pooled (s.take i)).length (pooled (s.take i)) (oneB m) := by
  unfold pooled
  rw [take_more h, List.foldl_append]
  rfl
theorem push_pool : ∀ (n : Nat) (st : List Block) (b : Block) (k : Nat), Pool k (b :: st) → Pool k (pushBlock n st b)
  | n, [], b, k, h => by rw [push_nil]; exact h
  | 0, l :: r, b, k, h => h
  | n + 1, l :: r, b, k, h => by
    by_cases c : le (blockMean b) (blockMean l) = true
    · rw [push_merge c]
      exact push_pool n r _ k h.join
    · rw [push_stop c]
      exact h
theorem pooled_pool {s : Sequence} (hs : ∀ m ∈ s, PtOk m) : ∀ i, i ≤ s.length → Pool i (pooled (s.take i))
  | 0, _ => ⟨rfl, fun b hb => by cases hb⟩
  | i + 1, h => by
    have hi : i < s.length := h
    rw [pooled_more (List.getElem?_eq_getElem hi)]
    exact push_pool _ _ _ _ ((pooled_pool hs i (Nat.le_of_lt h)).one (hs _ (List.getElem_mem hi)))
theorem blocksOf_pool {s : Sequence} (hs : ∀ m ∈ s, PtOk m) : Pool s.length (pooled s) := by
  have := pooled_pool hs s.length (Nat.le_refl _)
  rw [List.take_length] at this
  exact this
theorem blocksOf_each {s : Sequence} (hs : ∀ m ∈ s, PtOk m) : ∀ b ∈ blocksOf s, BlkOk b ∧ b.1 ≤ s.length := by
  intro b hb
  rw [blocksOf_eq, List.mem_reverse] at hb
  have P := blocksOf_pool hs
  exact ⟨P.each b hb, P.le.2 b hb⟩
theorem blocksOf_len {s : Sequence} (hs : ∀ m ∈ s, PtOk m) : (blocksOf s).length ≤ s.length := by
  rw [blocksOf_eq, List.length_reverse]
  exact (blocksOf_pool hs).le.1
theorem blocksOf_sum {s : Sequence} (hs : ∀ m ∈ s, PtOk m) : ((blocksOf s).map (·.1)).sum = s.length := by
  rw [blocksOf_eq, List.map_reverse, List.sum_reverse]
  exact (blocksOf_pool hs).total
/-! ### D. the descents -/
def desc (s : Sequence) (i : Nat) : Nat := ((List.range i).filter fun i => decide ((measurementAt s (i + 1)).value < (measurementAt s i).value)).length
theorem desc_eq (s : Sequence) : descents s = desc s (s.length - 1) := rfl
theorem desc_more {s : Sequence} {i : Nat} {a b : Measurement} (ha : s[i]? = some a) (hb : s[i + 1]? = some b) :
    desc s (i + 1) = if b.value < a.value then desc s i + 1 else desc s i := by
  have ea : measurementAt s i = a := by
    unfold measurementAt
    rw [List.getD_eq_getElem?_getD, ha]
    rfl
  have eb : measurementAt s (i + 1) = b := by
    unfold measurementAt
    rw [List.getD_eq_getElem?_getD, hb]
    rfl
  unfold desc
  rw [List.range_succ, List.filter_append, List.length_append]
  by_cases c : b.value < a.value
  · rw [if_pos c, List.filter_cons_of_pos (by rw [ea, eb]; exact decide_eq_true c)]
    rfl
  · rw [if_neg c, List.filter_cons_of_neg (by rw [ea, eb]; simp [c])]
    rfl
end My
namespace My
open Ks607
open Ks604 (Rational)
open Ks604.Rational (make zero ofNat le)
/-! ### E. the squared error -/
theorem rational_ext {a b : Rational} (h1 : a.num = b.num) (h2 : a.den = b.den) : a = b := by
  cases a; cases b; simp only at h1 h2; rw [h1, h2]
/-- weight * (mean - value) ^ 2 as the program reckons it -/
def wsq (q : Rational) (m : Measurement) : Rational :=
  make ((m.weight : Int) * (q.num - m.value * q.den) * (q.num - m.value * q.den)) (q.den * q.den)
def addR (a b : Rational) : Rational := make (a.num * b.den + b.num * a.den) (a.den * b.den)
theorem addR_eq (a b : Rational) : a + b = addR a b := rfl
theorem den_int {q : Rational} (h : 0 < q.den) : (0 : Int) < q.den := by omega
theorem mul_make {q : Rational} {c : Int} {d : Nat} (hq : 0 < q.den) (hd : 0 < d) : q * make c d = make (q.num * c) (q.den * d) := by
  have e := make_cross (n := c) hd
  have p := make_den_pos (n := c) hd
  show make (q.num * (make c d).num) (q.den * (make c d).den) = _
  generalize make c d = r at *
  refine make_congr (Nat.mul_pos hq p) (Nat.mul_pos hq hd) ?_
  push_cast
  grind
theorem make_mul_self {c : Int} {d : Nat} (hd : 0 < d) : make c d * make c d = make (c * c) (d * d) := by
  have e := make_cross (n := c) hd
  have p := make_den_pos (n := c) hd
  show make ((make c d).num * (make c d).num) ((make c d).den * (make c d).den) = _
  generalize make c d = r at *
  refine make_congr (Nat.mul_pos p p) (Nat.mul_pos hd hd) ?_
  push_cast
  grind
theorem sub_nat {q : Rational} {v : Nat} (hq : 0 < q.den) : q - ofNat v = make (q.num - v * q.den) q.den := by
  show make (q.num * ((1 : Nat) : Int) + (-(v : Int)) * q.den) (q.den * 1) = _
  refine make_congr (by omega) hq ?_
  push_cast
  grind
theorem wsq_eq {q : Rational} {m : Measurement} (hq : 0 < q.den) :
    ofNat m.weight * ((q - ofNat m.value) * (q - ofNat m.value)) = wsq q m := by
  rw [sub_nat hq, make_mul_self hq, mul_make (by show 0 < 1; omega) (Nat.mul_pos hq hq)]
  unfold wsq
  show make ((m.weight : Int) * _) (1 * _) = _
  rw [Nat.one_mul, Int.mul_assoc]
def errTo (s : Sequence) (values : List Rational) (i : Nat) : Rational :=
  (List.range i).foldl (fun total i =>
    let d := values.getD i zero - ofNat (measurementAt s i).value
    total + ofNat (measurementAt s i).weight * (d * d)) zero
theorem err_eq (s : Sequence) (values : List Rational) : squaredError s values = errTo s values s.length := rfl
theorem err_more {s : Sequence} {values : List Rational} {i : Nat} {m : Measurement} {q : Rational} (hm : s[i]? = some m) (hq : values[i]? = some q) (hd : 0 < q.den) :
    errTo s values (i + 1) = addR (errTo s values i) (wsq q m) := by
  have ea : measurementAt s i = m := by
    unfold measurementAt
    rw [List.getD_eq_getElem?_getD, hm]
    rfl
  have eb : values.getD i zero = q := by
    rw [List.getD_eq_getElem?_getD, hq]
    rfl
  unfold errTo
  rw [List.range_succ, List.foldl_append]
  simp only [List.foldl_cons, List.foldl_nil]
  rw [ea, eb, wsq_eq hd, addR_eq]
/-! sizes: nothing is negative, and both parts stay below a power of two -/
structure Sz (k : Nat) (q : Rational) : Prop where
  num0 : 0 ≤ q.num
  den0 : 0 < q.den
  num : q.num < 2 ^ k
  den : q.den ≤ 2 ^ k
theorem Sz.mono {k l : Nat} {q : Rational} (h : Sz k q) (hl : k ≤ l) : Sz l q := by
  have e : (2 : Nat) ^ k ≤ 2 ^ l := Nat.pow_le_pow_right (by omega) hl
  have e2 : (2 : Int) ^ k ≤ 2 ^ l := by exact_mod_cast e
  have := h.num
  have := h.den
  exact ⟨h.num0, h.den0, by omega, by omega⟩
theorem make_num_le {n : Int} {d : Nat} (hn : 0 ≤ n) (hd : 0 < d) : 0 ≤ (make n d).num ∧ (make n d).num ≤ n := by
  rw [make_pos hd]
  have hg : 0 < Nat.gcd n.natAbs d := Nat.gcd_pos_of_pos_right _ hd
  exact ⟨Int.ediv_nonneg hn (by omega), Int.ediv_le_self _ hn⟩
theorem make_den_le {n : Int} {d : Nat} (hd : 0 < d) : (make n d).den ≤ d := by
  rw [make_pos hd]
  exact Nat.div_le_self _ _
theorem Sz.of_make {k : Nat} {n : Int} {d : Nat} (hn : 0 ≤ n) (hd : 0 < d) (h1 : n < 2 ^ k) (h2 : d ≤ 2 ^ k) : Sz k (make n d) := by
  obtain ⟨a, b⟩ := make_num_le hn hd
  have c := make_den_le (n := n) hd
  exact ⟨a, make_den_pos hd, by omega, by omega⟩
theorem blockMean_sz {b : Block} {n : Nat} (h : BlkOk b) (hn : b.1 ≤ n) (h10 : n ≤ 10) : Sz 17 (blockMean b) := by
  obtain ⟨h1, h2, h3, h4⟩ := h
  exact Sz.of_make (by omega) h2 (by omega) (by omega)
theorem isq_nonneg (w d : Int) (h : 0 ≤ w) : 0 ≤ w * d * d := by
  rw [Int.mul_assoc]
  refine Int.mul_nonneg h ?_
  rcases Int.le_total 0 d with c | c
  · exact Int.mul_nonneg c c
  · exact Int.mul_nonneg_of_nonpos_of_nonpos c c
theorem natAbs_sq_lt {a : Int} {k : Nat} (h : a.natAbs < 2 ^ k) : a * a < 2 ^ (k + k) := by
  have e : (a.natAbs * a.natAbs) < 2 ^ k * 2 ^ k := Nat.mul_lt_mul'' h h
  rw [← Nat.pow_add] at e
  have e2 : ((a.natAbs * a.natAbs : Nat) : Int) < ((2 ^ (k + k) : Nat) : Int) := by exact_mod_cast e
  rw [Int.natAbs_mul_self] at e2
  push_cast at e2
  exact e2
theorem diff_lt {k : Nat} {q : Rational} {m : Measurement} (h : Sz k q) (hm : PtOk m) : (q.num - m.value * q.den).natAbs < 2 ^ (k + 10) := by
  obtain ⟨a, b, c⟩ := hm
  have h1 := h.num0
  have h2 := h.num
  have h3 := h.den
  have e1 : m.value * q.den ≤ 999 * 2 ^ k := Nat.mul_le_mul a h3
  have e2 : (2 : Nat) ^ (k + 10) = 2 ^ k * 1024 := by rw [Nat.pow_add]
  have h2' : q.num < ((2 ^ k : Nat) : Int) := by push_cast; exact h2
  have e3 : ((m.value * q.den : Nat) : Int) = (m.value : Int) * q.den := by push_cast; rfl
  rw [← e3]
  generalize m.value * q.den = z at *
  generalize hP : (2 : Nat) ^ k = P at *
  rw [e2]
  omega
theorem wsq_sz {k : Nat} {q : Rational} {m : Measurement} (h : Sz k q) (hm : PtOk m) : Sz (2 * k + 24) (wsq q m) := by
  have hd := diff_lt h hm
  obtain ⟨a, b, c⟩ := hm
  unfold wsq
  refine Sz.of_make (isq_nonneg _ _ (by omega)) (Nat.mul_pos h.den0 h.den0) ?_ ?_
  · have e := natAbs_sq_lt hd
    rw [Int.mul_assoc]
    generalize hz : (q.num - (m.value : Int) * q.den) = z at *
    have e0 : 0 ≤ z * z := by
      have := isq_nonneg 1 z (by omega)
      rw [Int.one_mul] at this
      exact this
    have e1 : (m.weight : Int) * (z * z) ≤ 9 * (z * z) := Int.mul_le_mul_of_nonneg_right (by omega) e0
    have e2 : (2 : Int) ^ (2 * k + 24) = 2 ^ (k + 10 + (k + 10)) * 16 := by
      rw [show 2 * k + 24 = (k + 10 + (k + 10)) + 4 by omega, Int.pow_add]
      rfl
    rw [e2]
    omega
  · have e : q.den * q.den ≤ 2 ^ k * 2 ^ k := Nat.mul_le_mul h.den h.den
    have e2 : (2 : Nat) ^ k * 2 ^ k ≤ 2 ^ (2 * k + 24) := by
      rw [← Nat.pow_add]
      exact Nat.pow_le_pow_right (by omega) (by omega)
    omega
theorem addR_nonneg {a b : Rational} {k l : Nat} (ha : Sz k a) (hb : Sz l b) : 0 ≤ a.num * b.den + b.num * a.den :=
  Int.add_nonneg (Int.mul_nonneg ha.num0 (by omega)) (Int.mul_nonneg hb.num0 (by omega))
theorem pow_cast (k : Nat) : ((2 ^ k : Nat) : Int) = 2 ^ k := by push_cast; rfl
theorem addR_sz {k l : Nat} {a b : Rational} (ha : Sz k a) (hb : Sz l b) :
    a.num * b.den + b.num * a.den < 2 ^ (k + l + 1) ∧ a.den * b.den ≤ 2 ^ (k + l + 1) ∧ Sz (k + l + 1) (addR a b) := by
  have e1 : a.num * b.den ≤ 2 ^ (k + l) := by
    rw [Int.pow_add]
    exact Int.mul_le_mul (Int.le_of_lt ha.num) (by rw [← pow_cast]; exact_mod_cast hb.den) (by omega) (by rw [← pow_cast]; exact Int.natCast_nonneg _)
  have e2 : b.num * a.den < 2 ^ (k + l) := by
    rw [Nat.add_comm, Int.pow_add]
    have x1 : b.num * a.den ≤ b.num * 2 ^ k := Int.mul_le_mul_of_nonneg_left (by rw [← pow_cast]; exact_mod_cast ha.den) hb.num0
    have x2 : b.num * 2 ^ k < 2 ^ l * 2 ^ k := Int.mul_lt_mul_of_pos_right hb.num (by rw [← pow_cast]; have := Nat.two_pow_pos k; omega)
    omega
  have e3 : (2 : Int) ^ (k + l + 1) = 2 ^ (k + l) * 2 := by rw [Int.pow_succ]
  have e4 : a.den * b.den ≤ 2 ^ (k + l + 1) := by
    have x : a.den * b.den ≤ 2 ^ k * 2 ^ l := Nat.mul_le_mul ha.den hb.den
    rw [← Nat.pow_add] at x
    have y : (2 : Nat) ^ (k + l) ≤ 2 ^ (k + l + 1) := Nat.pow_le_pow_right (by omega) (by omega)
    omega
  have e5 : a.num * b.den + b.num * a.den < 2 ^ (k + l + 1) := by rw [e3]; omega
  exact ⟨e5, e4, Sz.of_make (addR_nonneg ha hb) (Nat.mul_pos ha.den0 hb.den0) e5 e4⟩
theorem err_sz {s : Sequence} {values : List Rational} {k : Nat} (hs : ∀ m ∈ s, PtOk m) (hv : ∀ q ∈ values, Sz k q) (hl : values.length = s.length) :
    ∀ i, i ≤ s.length → Sz ((2 * k + 25) * i + 1) (errTo s values i)
  | 0, _ => ⟨Int.le_refl 0, Nat.one_pos, by show (0 : Int) < 2 ^ _; rw [← pow_cast]; have := Nat.two_pow_pos ((2 * k + 25) * 0 + 1); omega, Nat.two_pow_pos _⟩
  | i + 1, h => by
    have h1 : i < s.length := h
    have h2 : i < values.length := by omega
    have m1 := hs _ (List.getElem_mem h1)
    have q1 := hv _ (List.getElem_mem h2)
    rw [err_more (List.getElem?_eq_getElem h1) (List.getElem?_eq_getElem h2) q1.den0]
    refine (addR_sz (err_sz hs hv hl i (Nat.le_of_lt h)) (wsq_sz q1 m1)).2.2.mono ?_
    rw [Nat.mul_add]
    omega
/-! ### F. the fit -/
theorem fit_len : ∀ (bl : List Block), (bl.flatMap fun b => List.replicate b.1 (blockMean b)).length = (bl.map (·.1)).sum
  | [] => rfl
  | b :: r => by
    rw [List.flatMap_cons, List.length_append, List.length_replicate, fit_len r, List.map_cons, List.sum_cons]
theorem isotonicFit_len {s : Sequence} (hs : ∀ m ∈ s, PtOk m) : (isotonicFit s).length = s.length := by
  unfold isotonicFit
  rw [fit_len, blocksOf_sum hs]
theorem isotonicFit_sz {s : Sequence} (hs : ∀ m ∈ s, PtOk m) (hl : s.length ≤ 10) : ∀ q ∈ isotonicFit s, Sz 17 q := by
  intro q hq
  unfold isotonicFit at hq
  rw [List.mem_flatMap] at hq
  obtain ⟨b, hb, hq⟩ := hq
  rw [List.eq_of_mem_replicate hq]
  obtain ⟨h1, h2⟩ := blocksOf_each hs b hb
  exact blockMean_sz h1 h2 hl
def encR (q : Rational) : List Int := [q.num, (q.den : Int)]
theorem pairs_eq (l : List Rational) : Ks604.pairs l = l.flatMap encR := rfl
end My
namespace My
open Ks607
open Ks604 (Rational)
open Ks604.Rational (make zero ofNat le)
theorem isotonicFit_eq (s : Sequence) : isotonicFit s = (blocksOf s).flatMap fun b => List.replicate b.1 (blockMean b) := rfl
theorem toNat_cast {x : Int} (h : 0 ≤ x) : ((x.toNat : Nat) : Int) = x := Int.toNat_of_nonneg h
theorem blockMean_den {b : Block} (h : BlkOk b) : 0 < (blockMean b).den := make_den_pos h.2.1
/-! ### law 3 -/
/-- a sequence's elements, as the program reckons them -/
def elems (den : Int) (vs : List Int) : List Rational := vs.map fun v => make v den.toNat
/-- den and values are within their limits -/
def OkV (n : Nat) (den : Int) (vs : List Int) : Prop := vs.length = n ∧ (1 ≤ den ∧ den ≤ 99) ∧ ∀ v ∈ vs, v ≤ 99999
instance (n : Nat) (den : Int) (vs : List Int) : Decidable (OkV n den vs) := by unfold OkV; infer_instance
def rising : List Int → Bool
  | a :: b :: r => decide (a ≤ b) && rising (b :: r)
  | _ => true
theorem sq_is (den : Int) (ns vs : List Int) : PyKs607.squared_error den ns vs = Ks607Neutral.integers (Ks607.answer (.squaredError den.toNat (ns.map Int.toNat) (vs.map Int.toNat))) := rfl
theorem sq_bad {den : Int} {ns vs : List Int} (h0 : ∀ x ∈ ns, 0 ≤ x) (h : ¬ OkM ns) : PyKs607.squared_error den ns vs = [-22] := by
  rw [sq_is]
  show Ks607Neutral.integers (Ks607.withSequence (ns.map Int.toNat) _) = _
  rw [with_bad h0 h]
  rfl
theorem areValid_iff {s : Sequence} {den : Int} {vs : List Int} (hd : 0 ≤ den) (hv : ∀ v ∈ vs, 0 ≤ v) :
    areValidValues s den.toNat (vs.map Int.toNat) = decide (OkV s.length den vs) := by
  unfold areValidValues
  rw [Bool.eq_iff_iff]
  simp only [Bool.and_eq_true, decide_eq_true_eq, beq_iff_eq, List.length_map, List.all_eq_true, List.mem_map, forall_exists_index, and_imp, forall_apply_eq_imp_iff₂]
  unfold OkV
  constructor
  · rintro ⟨⟨⟨a, b⟩, c⟩, d⟩
    refine ⟨a, ⟨by omega, by omega⟩, fun v h => ?_⟩
    have := d v h
    have := hv v h
    omega
  · rintro ⟨a, ⟨b, c⟩, d⟩
    refine ⟨⟨⟨a, by omega⟩, by omega⟩, fun v h => ?_⟩
    have := d v h
    have := hv v h
    omega
theorem elems_eq {den : Int} {vs : List Int} (hv : ∀ v ∈ vs, 0 ≤ v) : ((vs.map Int.toNat).map fun (v : Nat) => make (v : Int) den.toNat) = elems den vs := by
  unfold elems
  rw [List.map_map]
  refine List.map_congr_left fun v h => ?_
  show make ((v.toNat : Nat) : Int) den.toNat = _
  rw [toNat_cast (hv v h)]
theorem nondec_eq {den : Int} (hd : 1 ≤ den) : ∀ vs : List Int, isNondecreasing (elems den vs) = rising vs
  | [] => rfl
  | [a] => rfl
  | a :: b :: r => by
    have ih := nondec_eq hd (b :: r)
    show (le (make a den.toNat) (make b den.toNat) && isNondecreasing (elems den (b :: r))) = (decide (a ≤ b) && rising (b :: r))
    rw [ih, le_make (by omega) (by omega)]
    congr 1
    apply decide_eq_decide.mpr
    have hp : (0 : Int) < (den.toNat : Int) := by omega
    exact ⟨fun h => Int.le_of_mul_le_mul_right h hp, fun h => Int.mul_le_mul_of_nonneg_right h (Int.le_of_lt hp)⟩
theorem sq_bad2 {den : Int} {ns vs : List Int} {s : Sequence} (h : ∀ c, Ks607.withSequence (ns.map Int.toNat) c = c s) (hd : 0 ≤ den) (hv : ∀ v ∈ vs, 0 ≤ v) (hb : ¬ OkV s.length den vs) :
    PyKs607.squared_error den ns vs = [-22] := by
  rw [sq_is]
  show Ks607Neutral.integers (Ks607.withSequence (ns.map Int.toNat) _) = _
  rw [h, if_pos (by rw [areValid_iff hd hv]; exact decide_eq_false hb)]
  rfl
theorem sq_ok {den : Int} {ns vs : List Int} {s : Sequence} (h : ∀ c, Ks607.withSequence (ns.map Int.toNat) c = c s) (hd : 0 ≤ den) (hv : ∀ v ∈ vs, 0 ≤ v) (hb : OkV s.length den vs) :
    PyKs607.squared_error den ns vs = (if rising vs = true then 1 else 0) :: encR (squaredError s (elems den vs)) := by
  rw [sq_is]
  show Ks607Neutral.integers (Ks607.withSequence (ns.map Int.toNat) _) = _
  rw [h, if_neg (by rw [areValid_iff hd hv, decide_eq_true hb]; decide)]
  show (if isNondecreasing ((vs.map Int.toNat).map fun (v : Nat) => make (v : Int) den.toNat) then (1 : Int) else 0) :: Ks604.pairs [squaredError s ((vs.map Int.toNat).map fun (v : Nat) => make (v : Int) den.toNat)] = _
  rw [elems_eq hv, nondec_eq hb.2.1.1, pairs_eq]
  simp
theorem elems_len (den : Int) (vs : List Int) : (elems den vs).length = vs.length := by unfold elems; rw [List.length_map]
theorem elems_sz {n : Nat} {den : Int} {vs : List Int} (hv : ∀ v ∈ vs, 0 ≤ v) (hb : OkV n den vs) : ∀ q ∈ elems den vs, Sz 17 q := by
  intro q hq
  unfold elems at hq
  rw [List.mem_map] at hq
  obtain ⟨v, hm, rfl⟩ := hq
  have h1 := hv v hm
  have h2 := hb.2.2 v hm
  have h3 := hb.2.1
  exact Sz.of_make h1 (by omega) (by omega) (by omega)
theorem rising_iff : ∀ vs : List Int, rising vs = true ↔ ∀ i (h : i + 1 < vs.length), vs[i] ≤ vs[i + 1]
  | [] => ⟨fun _ i h => by simp at h, fun _ => rfl⟩
  | [a] => ⟨fun _ i h => by simp at h, fun _ => rfl⟩
  | a :: b :: r => by
    have ih := rising_iff (b :: r)
    show (decide (a ≤ b) && rising (b :: r)) = true ↔ _
    rw [Bool.and_eq_true, decide_eq_true_eq, ih]
    constructor
    · rintro ⟨h1, h2⟩ i h
      cases i with
      | zero => exact h1
      | succ i => exact h2 i (by simpa using h)
    · intro h
      exact ⟨h 0 (by simp), fun i hi => h (i + 1) (by simpa using hi)⟩
/-! ### law 4 -/
theorem fiv_is (i v : Int) (ns : List Int) : PyKs607.fit_if_value i v ns = Ks607Neutral.integers (Ks607.answer (.fitIfValue i.toNat v.toNat (ns.map Int.toNat))) := rfl
theorem fiv_bad {i v : Int} {ns : List Int} (h0 : ∀ x ∈ ns, 0 ≤ x) (h : ¬ OkM ns) : PyKs607.fit_if_value i v ns = [-22] := by
  rw [fiv_is]
  show Ks607Neutral.integers (Ks607.withSequence (ns.map Int.toNat) _) = _
  rw [with_bad h0 h]
  rfl
theorem fiv_none {i v : Int} {ns : List Int} {s : Sequence} (h : ∀ c, Ks607.withSequence (ns.map Int.toNat) c = c s) (hi : (s.length : Int) ≤ i) : PyKs607.fit_if_value i v ns = [-2] := by
  rw [fiv_is]
  show Ks607Neutral.integers (Ks607.withSequence (ns.map Int.toNat) _) = _
  rw [h, if_pos (by omega)]
  rfl
theorem fiv_high {i v : Int} {ns : List Int} {s : Sequence} (h : ∀ c, Ks607.withSequence (ns.map Int.toNat) c = c s) (h0 : 0 ≤ i) (hi : i < s.length) (hv : 999 < v) : PyKs607.fit_if_value i v ns = [-22] := by
  rw [fiv_is]
  show Ks607Neutral.integers (Ks607.withSequence (ns.map Int.toNat) _) = _
  rw [h, if_neg (by omega), if_pos (by omega)]
  rfl
theorem fiv_ok {i v : Int} {ns : List Int} {s : Sequence} (h : ∀ c, Ks607.withSequence (ns.map Int.toNat) c = c s) (h0 : 0 ≤ i) (hi : i < s.length) (hv : v ≤ 999) :
    PyKs607.fit_if_value i v ns = (s.length : Int) :: (isotonicFit (withValue s i.toNat v.toNat)).flatMap encR := by
  rw [fiv_is]
  show Ks607Neutral.integers (Ks607.withSequence (ns.map Int.toNat) _) = _
  rw [h, if_neg (by omega), if_neg (by omega)]
  rfl
theorem withValue_eq {s : Sequence} {i v : Nat} {m : Measurement} (h : s[i]? = some m) : withValue s i v = s.set i ⟨v, m.weight⟩ := by
  unfold withValue measurementAt
  rw [List.getD_eq_getElem?_getD, h]
  rfl
theorem withValue_len (s : Sequence) (i v : Nat) : (withValue s i v).length = s.length := by
  unfold withValue
  rw [List.length_set]
theorem withValue_ok {s : Sequence} {i v : Nat} (hs : SeqOk s) (hi : i < s.length) (hv : v ≤ 999) : SeqOk (withValue s i v) := by
  refine ⟨by rw [withValue_len]; exact hs.low, by rw [withValue_len]; exact hs.high, fun m hm => ?_⟩
  have g := List.getElem?_eq_getElem hi
  rw [withValue_eq g] at hm
  rcases List.mem_or_eq_of_mem_set hm with hm | rfl
  · exact hs.pts m hm
  · have := hs.pts _ (List.getElem_mem hi)
    exact ⟨hv, this.2⟩
theorem withValue_enc {s : Sequence} {i v : Nat} {m : Measurement} (h : s[i]? = some m) : (withValue s i v).map encP = (s.map encP).set i ((v : Int), (m.weight : Int)) := by
  rw [withValue_eq h, List.map_set]
  rfl
/-- the value of measurement i stands at place 2 * i of the list -/
theorem pairsOf_set : ∀ (ns : List Int) (i : Nat) (v x y : Int), (pairsOf ns)[i]? = some (x, y) → pairsOf (ns.set (2 * i) v) = (pairsOf ns).set i (v, y)
  | [], i, v, x, y, h => by simp [pairsOf] at h
  | [a], i, v, x, y, h => by simp [pairsOf] at h
  | a :: b :: r, 0, v, x, y, h => by
    have e : (a, b) = (x, y) := Option.some.inj h
    cases e
    rfl
  | a :: b :: r, i + 1, v, x, y, h => by
    have h' : (pairsOf r)[i]? = some (x, y) := h
    have ih := pairsOf_set r i v x y h'
    rw [show 2 * (i + 1) = 2 * i + 1 + 1 by omega]
    show (a, b) :: pairsOf (r.set (2 * i) v) = (a, b) :: (pairsOf r).set i (v, y)
    rw [ih]
/-! ### law 5 -/
theorem fr_is (v : Int) (ns : List Int) : PyKs607.first_reaching v ns = Ks607Neutral.integers (Ks607.answer (.firstReaching v.toNat (ns.map Int.toNat))) := rfl
theorem fr_bad {v : Int} {ns : List Int} (h0 : ∀ x ∈ ns, 0 ≤ x) (h : ¬ OkM ns) : PyKs607.first_reaching v ns = [-22] := by
  rw [fr_is]
  show Ks607Neutral.integers (Ks607.withSequence (ns.map Int.toNat) _) = _
  rw [with_bad h0 h]
  rfl
def reaches (s : Sequence) (v : Int) (i : Nat) : Bool := le (ofNat v.toNat) ((isotonicFit s).getD i zero)
theorem fr_none {v : Int} {ns : List Int} {s : Sequence} (h : ∀ c, Ks607.withSequence (ns.map Int.toNat) c = c s) (hi : ∀ i, i < s.length → reaches s v i = false) :
    PyKs607.first_reaching v ns = [-33] := by
  rw [fr_is]
  show Ks607Neutral.integers (Ks607.withSequence (ns.map Int.toNat) _) = _
  rw [h]
  have e : firstReaching s v.toNat = none := by
    unfold firstReaching
    rw [List.find?_eq_none]
    intro i him
    have := hi i (List.mem_range.mp him)
    show ¬ reaches s v i = true
    rw [this]
    decide
  rw [e]
  rfl
theorem find_range {p : Nat → Bool} : ∀ {n i : Nat}, i < n → p i = true → (∀ j, j < i → p j = false) → (List.range n).find? p = some i := by
  intro n i hi hp hj
  rw [List.find?_range_eq_some]
  refine ⟨hp, List.mem_range.mpr hi, fun j h => ?_⟩
  rw [hj j h]
  rfl
theorem fr_some {v : Int} {ns : List Int} {s : Sequence} {i : Nat} (h : ∀ c, Ks607.withSequence (ns.map Int.toNat) c = c s) (hi : i < s.length) (hr : reaches s v i = true) (hj : ∀ j, j < i → reaches s v j = false) :
    PyKs607.first_reaching v ns = [(i : Int)] := by
  rw [fr_is]
  show Ks607Neutral.integers (Ks607.withSequence (ns.map Int.toNat) _) = _
  rw [h]
  have e : firstReaching s v.toNat = some i := find_range hi hr hj
  rw [e]
  rfl
theorem reaches_eq {s : Sequence} {v : Int} {i : Nat} {q : Rational} (hv : 0 ≤ v) (h : (isotonicFit s)[i]? = some q) : reaches s v i = decide (v * q.den ≤ q.num) := by
  unfold reaches
  rw [List.getD_eq_getElem?_getD, h]
  show decide (((v.toNat : Nat) : Int) * q.den ≤ q.num * ((1 : Nat) : Int)) = _
  rw [toNat_cast hv]
  apply decide_eq_decide.mpr
  omega
/-! ### law 6 -/
theorem rm_is (a b : Int) (ns : List Int) : PyKs607.range_mean a b ns = Ks607Neutral.integers (Ks607.answer (.rangeMean a.toNat b.toNat (ns.map Int.toNat))) := rfl
theorem rm_bad {a b : Int} {ns : List Int} (h0 : ∀ x ∈ ns, 0 ≤ x) (h : ¬ OkM ns) : PyKs607.range_mean a b ns = [-22] := by
  rw [rm_is]
  show Ks607Neutral.integers (Ks607.withSequence (ns.map Int.toNat) _) = _
  rw [with_bad h0 h]
  rfl
theorem rm_none {a b : Int} {ns : List Int} {s : Sequence} (h : ∀ c, Ks607.withSequence (ns.map Int.toNat) c = c s) (hi : (s.length : Int) ≤ a ∨ (s.length : Int) ≤ b) : PyKs607.range_mean a b ns = [-2] := by
  rw [rm_is]
  show Ks607Neutral.integers (Ks607.withSequence (ns.map Int.toNat) _) = _
  rw [h, if_pos (by omega)]
  rfl
theorem rm_swapped {a b : Int} {ns : List Int} {s : Sequence} (h : ∀ c, Ks607.withSequence (ns.map Int.toNat) c = c s) (h0 : 0 ≤ b) (ha : a < s.length) (hb : b < s.length) (hi : b < a) : PyKs607.range_mean a b ns = [-22] := by
  rw [rm_is]
  show Ks607Neutral.integers (Ks607.withSequence (ns.map Int.toNat) _) = _
  rw [h, if_neg (by omega), if_pos (by omega)]
  rfl
theorem rm_ok {a b : Int} {ns : List Int} {s : Sequence} (h : ∀ c, Ks607.withSequence (ns.map Int.toNat) c = c s) (h0 : 0 ≤ a) (hb : b < s.length) (hi : a ≤ b) :
    PyKs607.range_mean a b ns = 0 :: encR (rangeMean s a.toNat b.toNat) := by
  rw [rm_is]
  show Ks607Neutral.integers (Ks607.withSequence (ns.map Int.toNat) _) = _
  rw [h, if_neg (by omega), if_neg (by omega)]
  show (0 : Int) :: Ks604.pairs [rangeMean s a.toNat b.toNat] = _
  rw [pairs_eq]
  simp
/-- the sums over some measurements -/
def wvSum (s : Sequence) : Nat := (s.map fun m => m.weight * m.value).sum
def wSum (s : Sequence) : Nat := (s.map fun m => m.weight).sum
theorem block_fold : ∀ (s : Sequence) (b : Block), s.foldl (fun b m => (b.1 + 1, b.2.1 + m.weight, b.2.2 + m.weight * m.value)) b = (b.1 + s.length, b.2.1 + wSum s, b.2.2 + wvSum s)
  | [], b => rfl
  | m :: r, b => by
    rw [List.foldl_cons, block_fold r]
    unfold wSum wvSum
    simp only [List.length_cons, List.map_cons, List.sum_cons, Prod.mk.injEq]
    exact ⟨by omega, by omega, by omega⟩
/-- the part of the measurements from a to b -/
def part (s : Sequence) (a b : Nat) : Sequence := (s.drop a).take (b + 1 - a)
theorem rangeMean_eq (s : Sequence) (a b : Nat) : rangeMean s a b = make (wvSum (part s a b) : Int) (wSum (part s a b)) := by
  unfold rangeMean blockMean
  rw [block_fold]
  simp only [Nat.zero_add]
  rfl
theorem wSum_app (s t : Sequence) : wSum (s ++ t) = wSum s + wSum t := by
  unfold wSum
  rw [List.map_append, List.sum_append]
theorem wvSum_app (s t : Sequence) : wvSum (s ++ t) = wvSum s + wvSum t := by
  unfold wvSum
  rw [List.map_append, List.sum_append]
theorem sums_le : ∀ {s : Sequence}, (∀ m ∈ s, PtOk m) → s.length ≤ wSum s ∧ wSum s ≤ 9 * s.length ∧ wvSum s ≤ 8991 * s.length
  | [], _ => ⟨Nat.le_refl _, Nat.le_refl _, Nat.le_refl _⟩
  | m :: r, h => by
    obtain ⟨i1, i2, i3⟩ := sums_le fun x hx => h x (List.mem_cons_of_mem _ hx)
    obtain ⟨a, b, c⟩ := h m (List.mem_cons_self ..)
    have e : m.weight * m.value ≤ 9 * 999 := Nat.mul_le_mul c a
    unfold wSum wvSum at *
    simp only [List.length_cons, List.map_cons, List.sum_cons]
    omega
theorem part_len {s : Sequence} {a b : Nat} (h : b < s.length) : (part s a b).length = b + 1 - a := by
  unfold part
  rw [List.length_take, List.length_drop]
  omega
theorem part_mem {s : Sequence} {a b : Nat} {m : Measurement} (h : m ∈ part s a b) : m ∈ s := List.mem_of_mem_drop (List.mem_of_mem_take h)
end My
namespace My
open Ks607
open Ks604 (Rational)
open Ks604.Rational (make zero ofNat le)
/-! ### the descents of a list of whole numbers -/
def dsc (ns : List Int) (i : Nat) : Nat := ((List.range i).filter fun i => decide (ns.getD (i + 1) 0 < ns.getD i 0)).length
theorem dsc_more {ns : List Int} {i : Nat} {a b : Int} (ha : ns[i]? = some a) (hb : ns[i + 1]? = some b) :
    dsc ns (i + 1) = if b < a then dsc ns i + 1 else dsc ns i := by
  have ea : ns.getD i 0 = a := by
    rw [List.getD_eq_getElem?_getD, ha]
    rfl
  have eb : ns.getD (i + 1) 0 = b := by
    rw [List.getD_eq_getElem?_getD, hb]
    rfl
  unfold dsc
  rw [List.range_succ, List.filter_append, List.length_append]
  by_cases c : b < a
  · rw [if_pos c, List.filter_cons_of_pos (by rw [ea, eb]; exact decide_eq_true c)]
    rfl
  · rw [if_neg c, List.filter_cons_of_neg (by rw [ea, eb]; simp [c])]
    rfl
/-- the values of the measurements -/
def valsOf (s : Sequence) : List Int := s.map fun m => (m.value : Int)
theorem valsOf_len (s : Sequence) : (valsOf s).length = s.length := List.length_map ..
theorem dsc_seq (s : Sequence) : dsc (valsOf s) (s.length - 1) = descents s := by
  rw [desc_eq]
  have g : ∀ i, i ≤ s.length - 1 → dsc (valsOf s) i = desc s i := by
    intro i
    induction i with
    | zero => exact fun _ => rfl
    | succ i ih =>
      intro h
      have h1 : i < s.length := by omega
      have h2 : i + 1 < s.length := by omega
      have g1 := List.getElem?_eq_getElem h1
      have g2 := List.getElem?_eq_getElem h2
      have e1 : (valsOf s)[i]? = some ((s[i].value : Nat) : Int) := by
        unfold valsOf
        rw [List.getElem?_map, g1]
        rfl
      have e2 : (valsOf s)[i + 1]? = some ((s[i + 1].value : Nat) : Int) := by
        unfold valsOf
        rw [List.getElem?_map, g2]
        rfl
      rw [dsc_more e1 e2, desc_more g1 g2, ih (by omega)]
      by_cases c : s[i + 1].value < s[i].value
      · rw [if_pos (by omega), if_pos c]
      · rw [if_neg (by omega), if_neg c]
  exact g _ (Nat.le_refl _)
theorem dsc_rising (ns : List Int) : decide ((dsc ns (ns.length - 1) : Int) = 0) = rising ns := by
  rw [Bool.eq_iff_iff, decide_eq_true_eq, rising_iff]
  unfold dsc
  rw [show ((((List.range (ns.length - 1)).filter fun i => decide (ns.getD (i + 1) 0 < ns.getD i 0)).length : Nat) : Int) = 0 ↔
    ((List.range (ns.length - 1)).filter fun i => decide (ns.getD (i + 1) 0 < ns.getD i 0)).length = 0 by omega, List.length_eq_zero_iff, List.filter_eq_nil_iff]
  constructor
  · intro h i hi
    have := h i (List.mem_range.mpr (by omega))
    rw [decide_eq_true_eq, List.getD_eq_getElem?_getD, List.getD_eq_getElem?_getD, List.getElem?_eq_getElem hi, List.getElem?_eq_getElem (show i < ns.length by omega)] at this
    exact Int.not_lt.mp this
  · intro h i hi
    have hi := List.mem_range.mp hi
    have hi2 : i + 1 < ns.length := by omega
    have := h i hi2
    rw [decide_eq_true_eq, List.getD_eq_getElem?_getD, List.getD_eq_getElem?_getD, List.getElem?_eq_getElem hi2, List.getElem?_eq_getElem (show i < ns.length by omega)]
    exact Int.not_lt.mpr this
theorem flat_more {qs : List Rational} {i : Nat} {q : Rational} (h : qs[i]? = some q) : (qs.take (i + 1)).flatMap encR = (qs.take i).flatMap encR ++ encR q := by
  rw [take_more h, List.flatMap_append]
  simp
theorem flat_len : ∀ qs : List Rational, (qs.flatMap encR).length = 2 * qs.length
  | [] => rfl
  | q :: r => by
    rw [List.flatMap_cons, List.length_append, flat_len r, List.length_cons]
    show 2 + _ = _
    omega
/-- den and values, as the program asks -/
theorem okV_iff {n : Nat} {den : Int} {vs : List Int} (h : ∀ v ∈ vs, 0 ≤ v) : (1 ≤ den ∧ den ≤ 99) ∧ ((vs.length : Int) = n ∧ ∀ v ∈ vs, 0 ≤ v ∧ v ≤ 99999) ↔ OkV n den vs := by
  unfold OkV
  constructor
  · rintro ⟨a, b, c⟩
    exact ⟨by omega, a, fun v hv => (c v hv).2⟩
  · rintro ⟨a, b, c⟩
    exact ⟨b, by omega, fun v hv => ⟨h v hv, c v hv⟩⟩
end My
namespace My
open Ks607
open Ks604 (Rational)
open Ks604.Rational (make zero ofNat le)
/-! ### law 6: the sums over some measurements, as the program's lists have them -/
def wvs (s : Sequence) : List Int := s.map fun m => (m.weight : Int) * (m.value : Int)
def wts (s : Sequence) : List Int := s.map fun m => (m.weight : Int)
theorem wvs_len (s : Sequence) : (wvs s).length = s.length := List.length_map ..
theorem wts_len (s : Sequence) : (wts s).length = s.length := List.length_map ..
theorem wvs_get {s : Sequence} {i : Nat} {m : Measurement} (h : s[i]? = some m) : (wvs s)[i]? = some ((m.weight : Int) * (m.value : Int)) := by
  unfold wvs
  rw [List.getElem?_map, h]
  rfl
theorem wts_get {s : Sequence} {i : Nat} {m : Measurement} (h : s[i]? = some m) : (wts s)[i]? = some (m.weight : Int) := by
  unfold wts
  rw [List.getElem?_map, h]
  rfl
theorem wvs_sum : ∀ s : Sequence, (wvs s).sum = ((wvSum s : Nat) : Int)
  | [] => rfl
  | m :: r => by
    have ih := wvs_sum r
    unfold wvs wvSum at *
    rw [List.map_cons, List.sum_cons, List.map_cons, List.sum_cons, ih]
    push_cast
    rfl
theorem wts_sum : ∀ s : Sequence, (wts s).sum = ((wSum s : Nat) : Int)
  | [] => rfl
  | m :: r => by
    have ih := wts_sum r
    unfold wts wSum at *
    rw [List.map_cons, List.sum_cons, List.map_cons, List.sum_cons, ih]
    push_cast
    rfl
end My
set_option maxRecDepth 100000
set_option maxHeartbeats 2000000
namespace My
open PySem PySem.Spec PyProof.Rows L2
/-! ### G. heaps: lists of tuples of whole numbers -/
/-- a list's items: tuples at addresses -/
def refs (zs : List (Addr × List Int)) : List V := zs.map fun z => V.ref z.1
/-- each of them holds its numbers -/
def Tups (H : Hp) (zs : List (Addr × List Int)) : Prop := ∀ z ∈ zs, H z.1 = some (.tup (z.2.map V.int))
def vals (zs : List (Addr × List Int)) : List (List Int) := zs.map fun z => z.2
theorem refs_len (zs : List (Addr × List Int)) : (refs zs).length = zs.length := by unfold refs; rw [List.length_map]
theorem vals_len (zs : List (Addr × List Int)) : (vals zs).length = zs.length := by unfold vals; rw [List.length_map]
theorem refs_app (zs ys : List (Addr × List Int)) : refs (zs ++ ys) = refs zs ++ refs ys := by unfold refs; rw [List.map_append]
theorem vals_app (zs ys : List (Addr × List Int)) : vals (zs ++ ys) = vals zs ++ vals ys := by unfold vals; rw [List.map_append]
theorem refs_get {zs : List (Addr × List Int)} {i : Nat} {z : Addr × List Int} (h : zs[i]? = some z) : (refs zs)[i]? = some (.ref z.1) := by
  unfold refs
  rw [List.getElem?_map, h]
  rfl
theorem vals_get {zs : List (Addr × List Int)} {i : Nat} {z : Addr × List Int} (h : zs[i]? = some z) : (vals zs)[i]? = some z.2 := by
  unfold vals
  rw [List.getElem?_map, h]
  rfl
theorem Tups.mono {H H' : Hp} {zs : List (Addr × List Int)} (h : Tups H zs) (s : Same H H') : Tups H' zs := fun z hz => s _ _ (h z hz)
theorem Tups.app {H : Hp} {zs ys : List (Addr × List Int)} (h : Tups H zs) (k : Tups H ys) : Tups H (zs ++ ys) := fun z hz => by
  rcases List.mem_append.mp hz with m | m
  · exact h z m
  · exact k z m
theorem Tups.nil {H : Hp} : Tups H [] := fun z hz => by cases hz
theorem Tups.one {H : Hp} {a : Addr} {l : List Int} (h : H a = some (.tup (l.map V.int))) : Tups H [(a, l)] := fun z hz => by
  cases hz with
  | head => exact h
  | tail _ hz => cases hz
theorem Tups.drop {H : Hp} {zs : List (Addr × List Int)} (h : Tups H zs) : Tups H zs.dropLast := fun z hz => h z ((List.dropLast_sublist zs).mem hz)
/-- a list stays apart from tuples -/
theorem Tups.upd {H : Hp} {zs : List (Addr × List Int)} {l : Addr} {xs ys : List V} (h : Tups H zs) (hl : H l = some (.lst xs)) : Tups (upd H l (.lst ys)) zs := fun z hz => by
  have e := h z hz
  rw [upd_ne (ne_of e hl (by intro z; cases z))]
  exact e
theorem Tups.updN {H : Hp} {zs : List (Addr × List Int)} {l : Addr} {o : HO} (h : Tups H zs) (hl : H l = none) : Tups (L2.upd H l o) zs := fun z hz => by
  have e := h z hz
  rw [upd_ne (ne_of_none e hl)]
  exact e
theorem same_upd {H : Hp} {p : Addr} {o : HO} (h : H p = none) : Same H (upd H p o) := fun b x e => by
  rw [upd_ne (ne_of_none e h)]
  exact e
/-- a list of one's own is changed: what stood before it was made stands -/
theorem same_own {H H1 : Hp} {l : Addr} {o : HO} (s : Same H H1) (h : H l = none) : Same H (upd H1 l o) := fun b x e => by
  rw [upd_ne (ne_of_none e h)]
  exact s _ _ e
theorem intV_get {ns : List Int} {i : Nat} {x : Int} (h : ns[i]? = some x) : (ns.map V.int)[i]? = some (.int x) := by
  rw [List.getElem?_map, h]
  rfl
theorem lt_line {n : Nat} (h : n ≤ 100000) : n < sizeLine := Nat.lt_of_le_of_lt h (by decide)
theorem le_line {n : Nat} (h : n ≤ 100000) : n ≤ sizeLine := Nat.le_trans h (by decide)
/-- range(0, n, 2), n even -/
theorem range_even {n : Nat} (h : n % 2 = 0) (hn : n ≤ 100000) : RgC 0 (n : Int) 2 (n / 2) := by
  have e : Builtin.Range.rangeSize 0 (n : Int) 2 = ((n / 2 : Nat) : Int) := by
    unfold Builtin.Range.rangeSize
    rw [if_pos (by decide)]
    split <;> omega
  refine ⟨by decide, by decide, ?_, e⟩
  have f : ∀ z : Int, 0 ≤ z → z ≤ 200000 → Builtin.Range.rangeFitsLong z = true := fun z h1 h2 => by
    unfold Builtin.Range.rangeFitsLong
    rw [Bool.and_eq_true]
    exact ⟨decide_eq_true (by omega), decide_eq_true (by omega)⟩
  unfold Builtin.Range.small
  rw [e, f 0 (by omega) (by omega), f n (by omega) (by omega), f 2 (by omega) (by omega), f ((n / 2 : Nat) : Int) (by omega) (by omega), if_pos (by decide), f _ (by omega) (by omega), Bool.or_true]
  rfl
end My
set_option maxRecDepth 100000
set_option maxHeartbeats 2000000
namespace My
open PySem PySem.Spec PyProof.Rows L2
open PySem.W (WData Codec OpenSpec)
/-! ### what is handed in -/
abbrev cN : Codec := .int 0 4294967295
abbrev cL (m : Nat) : Codec := .list 0 m cN
theorem int_dw {K : PySem.W.Frag} {H : Hp} {x : V} {i : Int} (h : Dw K H x (.int i)) : x = .int i := by
  cases h
  rfl
theorem int_in {x : Int} (h : Codec.within cN x = true) : 0 ≤ x ∧ x ≤ 4294967295 := Codec.inInt_iff.mp h
theorem list_in {m : Nat} {l : List Int} (h : Codec.within (cL m) l = true) : l.length ≤ m ∧ ∀ x ∈ l, 0 ≤ x ∧ x ≤ 4294967295 := by
  have q : (Codec.inLen 0 m l && l.all (Codec.inInt 0 4294967295)) = true := h
  rw [Bool.and_eq_true] at q
  exact ⟨(Codec.inNat_iff.mp q.1).2, fun x hx => Codec.inInt_iff.mp (List.all_eq_true.mp q.2 x hx)⟩
theorem list_dw {K : PySem.W.Frag} {H : Hp} {m : Nat} {x : V} {l : List Int} (h : Dw K H x (Codec.enc (cL m) l)) : ∃ a, x = .ref a ∧ SqL K H a (l.map V.int) := by
  have h' : Dw K H x (.list (l.map WData.int)) := h
  cases h' with
  | lst hs ha =>
    have e := L2.ints_dw l _ ha
    subst e
    exact ⟨_, rfl, hs⟩
theorem ans_dw {K : PySem.W.Frag} {H : Hp} {p : Addr} {l : List Int} {m : Nat} {c d : Int} (h : H p = some (.lst (l.map V.int))) : Dw K H (.ref p) (Codec.enc (.list 0 m (.int c d)) l) :=
  Dw.lst (L2.SqL.of h) (L2.dw_ints l)
theorem req_nl {K : PySem.W.Frag} {H : Hp} {xs : List V} {m : Nat} {a : Codec.denoteAll [cN, cL m]} (hwi : Codec.withinAll [cN, cL m] a = true) (hx : DwAll K H xs (Codec.encAll [cN, cL m] a)) :
    ∃ p, xs = [.int a.1, .ref p] ∧ SqL K H p (a.2.1.map V.int) ∧ (0 ≤ a.1 ∧ a.1 ≤ 4294967295) ∧ a.2.1.length ≤ m ∧ ∀ x ∈ a.2.1, 0 ≤ x ∧ x ≤ 4294967295 := by
  obtain ⟨v, l, u⟩ := a
  have q : (Codec.within cN v && (Codec.within (cL m) l && true)) = true := hwi
  rw [Bool.and_eq_true, Bool.and_eq_true] at q
  have hx' : DwAll K H xs [WData.int v, Codec.enc (cL m) l] := hx
  cases hx' with
  | cons h1 h2 =>
    cases h2 with
    | cons h2 h3 =>
      cases h3
      obtain ⟨p, rfl, hs⟩ := list_dw h2
      rw [int_dw h1]
      exact ⟨p, rfl, hs, int_in q.1, list_in q.2.1⟩
theorem req_nnl {K : PySem.W.Frag} {H : Hp} {xs : List V} {m : Nat} {a : Codec.denoteAll [cN, cN, cL m]} (hwi : Codec.withinAll [cN, cN, cL m] a = true) (hx : DwAll K H xs (Codec.encAll [cN, cN, cL m] a)) :
    ∃ p, xs = [.int a.1, .int a.2.1, .ref p] ∧ SqL K H p (a.2.2.1.map V.int) ∧ (0 ≤ a.1 ∧ a.1 ≤ 4294967295) ∧ (0 ≤ a.2.1 ∧ a.2.1 ≤ 4294967295) ∧ a.2.2.1.length ≤ m ∧ ∀ x ∈ a.2.2.1, 0 ≤ x ∧ x ≤ 4294967295 := by
  obtain ⟨i, v, l, u⟩ := a
  have q : (Codec.within cN i && (Codec.within cN v && (Codec.within (cL m) l && true))) = true := hwi
  rw [Bool.and_eq_true, Bool.and_eq_true, Bool.and_eq_true] at q
  have hx' : DwAll K H xs [WData.int i, WData.int v, Codec.enc (cL m) l] := hx
  cases hx' with
  | cons h0 h1 =>
    cases h1 with
    | cons h1 h2 =>
      cases h2 with
      | cons h2 h3 =>
        cases h3
        obtain ⟨p, rfl, hs⟩ := list_dw h2
        rw [int_dw h1, int_dw h0]
        exact ⟨p, rfl, hs, int_in q.1, int_in q.2.1, list_in q.2.2.1⟩
theorem req_nll {K : PySem.W.Frag} {H : Hp} {xs : List V} {m k : Nat} {a : Codec.denoteAll [cN, cL m, cL k]} (hwi : Codec.withinAll [cN, cL m, cL k] a = true) (hx : DwAll K H xs (Codec.encAll [cN, cL m, cL k] a)) :
    ∃ p r, xs = [.int a.1, .ref p, .ref r] ∧ SqL K H p (a.2.1.map V.int) ∧ SqL K H r (a.2.2.1.map V.int) ∧ (0 ≤ a.1 ∧ a.1 ≤ 4294967295) ∧ (a.2.1.length ≤ m ∧ ∀ x ∈ a.2.1, 0 ≤ x ∧ x ≤ 4294967295) ∧ a.2.2.1.length ≤ k ∧ ∀ x ∈ a.2.2.1, 0 ≤ x ∧ x ≤ 4294967295 := by
  obtain ⟨i, l, t, u⟩ := a
  have q : (Codec.within cN i && (Codec.within (cL m) l && (Codec.within (cL k) t && true))) = true := hwi
  rw [Bool.and_eq_true, Bool.and_eq_true, Bool.and_eq_true] at q
  have hx' : DwAll K H xs [WData.int i, Codec.enc (cL m) l, Codec.enc (cL k) t] := hx
  cases hx' with
  | cons h0 h1 =>
    cases h1 with
    | cons h1 h2 =>
      cases h2 with
      | cons h2 h3 =>
        cases h3
        obtain ⟨p, rfl, hs⟩ := list_dw h1
        obtain ⟨r, rfl, ht⟩ := list_dw h2
        rw [int_dw h0]
        exact ⟨p, r, rfl, hs, ht, int_in q.1, list_in q.2.1, list_in q.2.2.1⟩
end My
namespace My
open PySem PySem.Spec PyProof.Rows L2
/-! ### H. the program's text by places -/
def topS (i : Nat) : Stmt := PySem.Challenge.pw_risingfits_s06_range_mean.main.body.getD i (.Pass ⟨0, 0, 0, 0⟩)
abbrev sRm : Stmt := topS 7
abbrev sWithin : Stmt := topS 8
abbrev sPairs : Stmt := topS 9
abbrev sWm : Stmt := topS 10
abbrev sLow : Stmt := topS 11
abbrev sGcd : Stmt := topS 12
section
variable {P : Program} {w : World} {K : PySem.W.Frag} {mg : Str → Option Value} {base : Heap}
/-! ### value_weight_pairs -/
def encQ (p : Int × Int) : List Int := [p.1, p.2]
def spPairs (K : PySem.W.Frag) : Sp := fun vs H Q _ => ∃ (a : Addr) (ns : List Int), vs = [.ref a] ∧ SqL K H a (ns.map V.int) ∧ ns.length % 2 = 0 ∧ ns.length ≤ 1000 ∧
  ∀ (H' : Hp) (p : Addr) (zs : List (Addr × List Int)), Same H H' → H p = none → H' p = some (.lst (refs zs)) → Tups H' zs → vals zs = (pairsOf ns).map encQ → Q (.ref p) H'
theorem scPairs : FnScope ["measurements", "k"] ["measurements"] (defScope sPairs) := ⟨rfl, rfl, rfl, by decide +kernel, rfl, by decide +kernel, by decide +kernel⟩
theorem ok_pairs {f : Addr} {fd : FuncData} (F : Fun K "value_weight_pairs" "value_weight_pairs" sPairs f fd) (mr : mg "range" = none) (ml : mg "len" = none) :
    FnOk P w K mg base CX0 1 f fd ["measurements"] (spPairs K) := by
  refine F.ok scPairs (fun vs H Q E h => ?_) (fun cdv A outer s H vs Q E hr h => ?_)
  · obtain ⟨a, ns, rfl, _⟩ := h
    rfl
  · obtain ⟨a, ns, rfl, hS, hev, hlen, q⟩ := h
    refine ⟨_, pss_one (ps_ret (pe_lc (own := [("k", 1)]) (g := gName 1) (tt := tYes) (te := tTup (tCons (tOp (rIxL K) (tVar 0) (tVar 1)) (tCons (tOp (rIxL K) (tVar 0) (tOp (rI0 fun i j => .int (i + j)) (tVar 1) (tC (.int 1)))) tNil))) rfl scPairs.nd
      (pi_range3 (by rfl) mr (pa_cons pe_int (pa_cons (pe_callB call_len_seq (by rfl) ml PySem.boot_len (pa_cons (pv 0) pa_nil)) (pa_cons pe_int pa_nil))))
      (blkOk_by (own := [("k", 1)]) (N := ["measurements", "k"]) (sc := defScope sPairs) (by decide +kernel))
      (fun _ _ _ _ _ => pg_name (i := 1) scPairs.nd rfl (Or.inl rfl)) (fun _ _ _ _ _ => pts_nil)
      (fun _ _ _ _ _ => pe_tup (pa_cons (pe_ix (r := rIxL K) ix_list (pv 0) (pv 1) (fun _ _ => rfl)) (pa_cons (pe_ix (r := rIxL K) ix_list (pv 0) (pe_op op_add (pv 1) pe_int) (fun _ _ => rfl)) pa_nil))))), ?_⟩
    refine ⟨.ref a, rfl, a, _, rfl, .inl hS, 0, _, 2, ns.length / 2, rfl, ?_, fun D nD => ?_⟩
    · rw [List.length_map]
      exact range_even hev (by omega)
    refine lc_it walk_rangeC (fun i H3 => ∃ zs, Same H H3 ∧ H3 D = some (.lst (refs zs)) ∧ Tups H3 zs ∧ vals zs = ((pairsOf ns).take i).map encQ)
      ⟨[], same_upd nD, upd_same, Tups.nil, rfl⟩ (fun _ _ _ _ => trivial) ?_ ?_
    · rintro i x H3 H4 hi ⟨zs, s3, e3, t3, v3⟩ ⟨rfl, rfl⟩
      have h1 : 2 * i < ns.length := by omega
      have h2 : 2 * i + 1 < ns.length := by omega
      have g1 := List.getElem?_eq_getElem h1
      have g2 := List.getElem?_eq_getElem h2
      have gp := pairsOf_get ns i _ _ g1 g2
      have lz : zs.length = i := by
        rw [← vals_len, v3, List.length_map, List.length_take, pairsOf_len]
        omega
      have hA := s3.seq hS
      refine ⟨rfl, ?_⟩
      refine iteT (B := False) ?_
      refine ⟨_, rfl, _, rfl, a, _, _, V.int ns[2 * i], rfl, rfl, hA, at_of (j := 2 * i) (by omega) (intV_get g1), ?_⟩
      refine ⟨_, rfl, _, rfl, _, _, rfl, rfl, a, _, _, V.int ns[2 * i + 1], rfl, rfl, hA, at_of (j := 2 * i + 1) (by omega) (intV_get g2), ?_⟩
      refine ⟨by show 2 ≤ sizeLine; decide, fun p np => ?_⟩
      have npD : D ≠ p := ne_of_none e3 np
      have s4 := s3.trans (same_upd (o := .tup [V.int ns[2 * i], V.int ns[2 * i + 1]]) np)
      refine ⟨refs zs, ?_, ?_, zs ++ [(p, [ns[2 * i], ns[2 * i + 1]])], same_own s4 nD, ?_, ?_, ?_⟩
      · rw [upd_ne npD]
        exact e3
      · rw [refs_len]
        exact lt_line (by omega)
      · rw [upd_same, refs_app]
        rfl
      · have eD : (upd H4 p (.tup [V.int ns[2 * i], V.int ns[2 * i + 1]])) D = some (.lst (refs zs)) := by
          rw [upd_ne npD]
          exact e3
        exact ((t3.updN np).app (Tups.one upd_same)).upd eD
      · rw [vals_app, v3, take_more gp, List.map_append]
        rfl
    · rintro H3 ⟨zs, s3, e3, t3, v3⟩
      refine q H3 D zs s3 nD e3 t3 ?_
      rw [v3, List.take_of_length_le (by rw [pairsOf_len]; omega)]
end
section
variable {P : Program} {w : World} {K : PySem.W.Frag} {mg : Str → Option Value} {base : Heap}
/-! ### measurements_within_limits -/
theorem rv_int {i : Int} {t : Tok} : RelV (.int i) (.int i t) := ⟨t, rfl⟩
/-- a <= b <= c of whole numbers -/
theorem chain_le {ta tb tc : TE} {σ : L2.St} {H : Hp} {Q : Bool → Hp → Prop} {a b c : Int} (h1 : ∀ R : VK, R (.int a) H → ta σ H R) (h2 : ∀ R : VK, R (.int b) H → tb σ H R)
    (h3 : ∀ R : VK, R (.int c) H → tc σ H R) (q : Q (decide (a ≤ b ∧ b ≤ c)) H) :
    tTest (tChain (rI0 fun i j => .bl (decide (i ≤ j))) (rI0 fun i j => .bl (decide (i ≤ j))) ta tb tc) σ H Q := by
  refine h1 _ (h2 _ ⟨a, b, rfl, rfl, _, rfl, ?_⟩)
  refine ite2 (fun e => ?_) (fun e => ?_)
  · have e1 := of_decide_eq_true e
    refine h3 _ ⟨b, c, rfl, rfl, _, rfl, ?_⟩
    rw [show decide (b ≤ c) = decide (a ≤ b ∧ b ≤ c) by rw [decide_eq_decide]; exact ⟨fun z => ⟨e1, z⟩, fun z => z.2⟩]
    exact q
  · have e1 : ¬ a ≤ b := fun z => e (decide_eq_true z)
    refine ⟨_, rfl, ?_⟩
    rw [show (false : Bool) = decide (a ≤ b ∧ b ≤ c) by symm; exact decide_eq_false fun z => e1 z.1]
    exact q
/-- if not a <= b <= c: .. -/
theorem if_not {A B : Prop} {c : Prop} [Decidable c] (h1 : ¬ c → A) (h2 : c → B) : if (!decide c) = true then A else B := by
  by_cases h : c
  · rw [decide_eq_true h]
    exact iteF (h2 h)
  · rw [decide_eq_false h]
    exact iteT (h1 h)
theorem next_of {n b c : L2.St → Hp → Prop} {r : VK} {σ : L2.St} {H : Hp} (h : n σ H) : tNext { nx := n, rt := r, bk := b, ct := c } σ H := h
theorem nx_of {n b c : L2.St → Hp → Prop} {r : VK} {σ : L2.St} {H : Hp} (h : n σ H) : ({ nx := n, rt := r, bk := b, ct := c } : Ends).nx σ H := h
theorem seq_of {t u : TS} {D : Ends} {σ : L2.St} {H : Hp} (h : t { D with nx := u D } σ H) : tSeq t u D σ H := h
/-- if not a <= b <= c: .. else: .. -/
theorem if_chain {ta tb tc : TE} {t u : TS} {D : Ends} {σ : L2.St} {H : Hp} (a b c : Int) (h1 : ∀ R : VK, R (.int a) H → ta σ H R) (h2 : ∀ R : VK, R (.int b) H → tb σ H R)
    (h3 : ∀ R : VK, R (.int c) H → tc σ H R) (q1 : ¬ (a ≤ b ∧ b ≤ c) → t D σ H) (q2 : a ≤ b ∧ b ≤ c → u D σ H) :
    tIfS (tNot (tTest (tChain (rI0 fun i j => .bl (decide (i ≤ j))) (rI0 fun i j => .bl (decide (i ≤ j))) ta tb tc))) t u D σ H :=
  chain_le h1 h2 h3 (if_not q1 q2)
def spWithin (K : PySem.W.Frag) : Sp := fun vs H Q _ => ∃ (a : Addr) (ns : List Int), vs = [.ref a] ∧ SqL K H a (ns.map V.int) ∧ ns.length ≤ 1000 ∧
  ∀ H' : Hp, Same H H' → Q (.bl (decide (OkM ns))) H'
theorem scWithin : FnScope ["measurements", "value", "weight"] ["measurements"] (defScope sWithin) := ⟨rfl, rfl, rfl, by decide +kernel, rfl, by decide +kernel, by decide +kernel⟩
theorem ok_within {f fP : Addr} {fd fdP : FuncData} {tM tV tS tW : Tok} (F : Fun K "measurements_within_limits" "measurements_within_limits" sWithin f fd) (FP : Fun K "value_weight_pairs" "value_weight_pairs" sPairs fP fdP) (bP : Binds K fdP ["measurements"] [])
    (mP : mg "value_weight_pairs" = some (.ref fP)) (mr : mg "range" = none) (ml : mg "len" = none)
    (mM : mg "MOST_MEASUREMENTS" = some (.int 10 tM)) (mV : mg "LARGEST_VALUE" = some (.int 999 tV)) (mS : mg "SMALLEST_WEIGHT" = some (.int 1 tS)) (mW : mg "LARGEST_WEIGHT" = some (.int 9 tW)) :
    FnOk P w K mg base CX0 2 f fd ["measurements"] (spWithin K) := by
  have GP : FnOk P w K mg base CX0 1 fP fdP ["measurements"] (spPairs K) := ok_pairs FP mr ml
  refine F.ok scWithin (fun vs H Q E h => ?_) (fun cdv A outer s H vs Q E hr h => ?_)
  · obtain ⟨a, ns, rfl, _⟩ := h
    rfl
  · obtain ⟨a, ns, rfl, hS, hlen, q⟩ := h
    have nd := scWithin.nd
    refine ⟨_, pss_cons (ps_if (pt_cmpR op_ne (pe_op op_mod (pe_callB call_len_seq (by rfl) ml PySem.boot_len (pa_cons (pv 0) pa_nil)) pe_int) pe_int (nomark _)) (pss_one (ps_ret pe_bl)) pss_nil)
      (pss_cons (ps_if (pt_not (pt_chain op_le op_le pe_int (pe_op op_fdiv (pe_callB call_len_seq (by rfl) ml PySem.boot_len (pa_cons (pv 0) pa_nil)) pe_int) (pe_glob (by rfl) mM rv_int))) (pss_one (ps_ret pe_bl)) pss_nil)
      (pss_cons (ps_for PassesOwn.never rfl (pi_list (pe_call GP hr (by rfl) mP FP.kp bP .nil pass0 (pa_cons (pv 0) pa_nil)))
          (pg_tup rfl (pgs_cons (pg_name (i := 1) nd rfl (.inl rfl)) (pgs_cons (pg_name (i := 2) nd rfl (.inl rfl)) pgs_nil)))
          (pss_cons (ps_if (pt_not (pt_chain op_le op_le pe_int (pv 1) (pe_glob (by rfl) mV rv_int))) (pss_one (ps_ret pe_bl)) pss_nil)
          (pss_one (ps_if (pt_not (pt_chain op_le op_le (pe_glob (by rfl) mS rv_int) (pv 2) (pe_glob (by rfl) mW rv_int))) (pss_one (ps_ret pe_bl)) pss_nil))))
      (pss_one (ps_ret pe_bl)))), ?_⟩
    have bad : ¬ OkM ns → Q (.bl false) H := fun z => by
      have := q H (Same.refl H)
      rw [decide_eq_false z] at this
      exact this
    -- if len(measurements) % 2 != 0
    refine ⟨.ref a, rfl, a, _, rfl, .inl hS, _, _, rfl, rfl, (by show (0 : Int) < 2; decide), rfl, _, rfl, ?_⟩
    rw [List.length_map]
    refine ite2 (fun e => ?_) (fun e => ?_)
    · refine bad fun z => ?_
      have z1 := z.1.1
      have e1 : ¬ ((ns.length : Int) % 2 = 0) := by simpa using e
      omega
    have hev : ns.length % 2 = 0 := by
      have e1 : (ns.length : Int) % 2 = 0 := by simpa using e
      omega
    -- if not 1 <= len(measurements) // 2 <= MOST_MEASUREMENTS
    refine next_of (seq_of (if_chain 1 ((ns.length : Int) / 2) 10 ?_ ?_ ?_ (fun e => bad fun z => ?_) (fun e => ?_)))
    · exact fun R r => r
    · intro R r
      refine ⟨.ref a, rfl, a, _, rfl, .inl hS, _, _, rfl, rfl, ⟨by decide, by decide⟩, ?_⟩
      rw [List.length_map]
      exact r
    · exact fun R r => r
    · have z1 := z.1
      omega
    -- for value, weight in value_weight_pairs(measurements)
    refine ⟨.ref a, rfl, a, ns, rfl, hS, hev, hlen, fun H1 p zs s1 np ep tz vz => ?_⟩
    have bad1 : ¬ OkM ns → Q (.bl false) H1 := fun z => by
      have := q H1 s1
      rw [decide_eq_false z] at this
      exact this
    have lz : zs.length = (pairsOf ns).length := by rw [← vals_len, vz, List.length_map]
    refine ⟨p, rfl, ⟨_, SqL.of ep⟩, for_list (K := K) (a := p) (xs := refs zs) (fun i σ H' => H' = H1 ∧ (∃ v u, σ = [some (.ref a), v, u]) ∧ ∀ x ∈ (pairsOf ns).take i, PairOk x)
      ⟨rfl, ⟨none, none, rfl⟩, fun x hx => by simp at hx⟩ (fun i σ H' _ h => by rw [h.1]; exact SqL.of ep) ?_ ?_⟩
    · rintro i y σ H' hi ⟨rfl, ⟨v, u, rfl⟩, ok⟩
      have hi2 : i < zs.length := by
        rw [← refs_len]
        exact (List.getElem?_eq_some_iff.mp hi).1
      have gz := List.getElem?_eq_getElem hi2
      have ey : V.ref (zs[i]).1 = y := Option.some.inj ((refs_get gz).symm.trans hi)
      have hp2 : i < (pairsOf ns).length := by omega
      have gp := List.getElem?_eq_getElem hp2
      generalize hpq : (pairsOf ns)[i] = pq at gp
      obtain ⟨x1, x2⟩ := pq
      have ev : (zs[i]).2 = [x1, x2] := by
        have z := vals_get gz
        rw [vz, List.getElem?_map, gp] at z
        exact (Option.some.inj z).symm
      have et := tz _ (List.getElem_mem hi2)
      rw [ev] at et
      subst ey
      have bad2 : ¬ PairOk (x1, x2) → Q (.bl false) H' := fun z => bad1 fun y => z (y.2 _ (List.mem_of_getElem? gp))
      refine ⟨_, _, rfl, SqT.of et, rfl, V.int x1, [V.int x2], rfl, V.int x2, [], rfl, rfl, ?_⟩
      refine chain_le (a := 0) (b := x1) (c := 999) (fun R r => r) (fun R r => ⟨_, rfl, r⟩) (fun R r => r) ?_
      refine if_not (fun e => bad2 fun z => e z.1) (fun e1 => ?_)
      refine next_of (if_chain 1 x2 9 (fun R r => r) (fun R r => ⟨_, rfl, r⟩) (fun R r => r) (fun e => bad2 fun z => e z.2) (fun e2 => ?_))
      refine ⟨rfl, ⟨_, _, rfl⟩, fun x hx => ?_⟩
      rw [take_more gp, List.mem_append] at hx
      rcases hx with hx | hx
      · exact ok x hx
      · have ex : x = (x1, x2) := by simpa using hx
        rw [ex]
        exact ⟨e1, e2⟩
    · rintro σ H' ⟨rfl, ⟨v, u, rfl⟩, ok⟩
      rw [refs_len, lz, List.take_length] at ok
      have := q H' s1
      rw [decide_eq_true (show OkM ns from ⟨⟨hev, by omega, by omega⟩, ok⟩)] at this
      exact this
end
section
variable {P : Program} {w : World} {K : PySem.W.Frag} {mg : Str → Option Value} {base : Heap}
open Ks607 (Block Measurement Sequence pushBlock blockMean blocksOf)
open Ks604 (Rational)
open Ks604.Rational (make)
/-! ### the points -/
def encM (m : Measurement) : List Int := encQ (encP m)
/-- the points lie at a -/
structure Pts (H : Hp) (a : Addr) (s : Sequence) (ps : List (Addr × List Int)) : Prop where
  at_ : H a = some (.lst (refs ps))
  tups : Tups H ps
  are : vals ps = s.map encM
theorem Pts.mono {H H' : Hp} {a : Addr} {s : Sequence} {ps : List (Addr × List Int)} (h : Pts H a s ps) (k : Same H H') : Pts H' a s ps := ⟨k _ _ h.at_, h.tups.mono k, h.are⟩
theorem Pts.len {H : Hp} {a : Addr} {s : Sequence} {ps : List (Addr × List Int)} (h : Pts H a s ps) : ps.length = s.length := by
  rw [← vals_len, h.are, List.length_map]
theorem Pts.get {H : Hp} {a : Addr} {s : Sequence} {ps : List (Addr × List Int)} (h : Pts H a s ps) {i : Nat} {m : Measurement} (hm : s[i]? = some m) :
    ∃ t, (refs ps)[i]? = some (.ref t) ∧ H t = some (.tup [V.int m.value, V.int m.weight]) := by
  have hi : i < ps.length := by
    rw [h.len]
    exact (List.getElem?_eq_some_iff.mp hm).1
  have g := List.getElem?_eq_getElem hi
  have e : (ps[i]).2 = encM m := by
    have z := vals_get g
    rw [h.are, List.getElem?_map, hm] at z
    exact (Option.some.inj z).symm
  have t := h.tups _ (List.getElem_mem hi)
  rw [e] at t
  exact ⟨_, refs_get g, t⟩
end
section
/-! ### xs.extend(t), t a tuple: a rule that the layer lacks -/
theorem ext_tuple (dst : Addr) (olds : Array Value) (k1 : Nat) (src : Addr) (more : Array Value) (k2 : Nat) (dct : Option Addr) (slt : Array (Option Value))
    (fits : olds.size + more.size ≤ sizeLine) (short : ¬ (!olds.isEmpty && Builtin.List.listTooLong (olds.size + more.size)) = true) :
    Meets (Builtin.«list.extend» ⟨[.ref dst, .ref src], []⟩) fun _ R st =>
      st.heap.get? dst = some { cls := .type "list", data := .seq olds k1 } ∧
      st.heap.get? src = some { cls := .type "tuple", dict := dct, data := .seq more k2, slots := slt } ∧
      R (.ok (.ret Value.none)) { st with heap := st.heap.update dst (Obj.mapSeq fun x => x ++ more), toks := st.toks } := by
  refine Meets.of_wp fun prog w A R st hyp => ?_
  obtain ⟨hp, g1, d1, tk1, os1⟩ := st
  obtain ⟨atD, atS, goal⟩ := hyp
  have k0 := AutoSeq1.idx_int
  have kTT := AutoSeq1.sub_tuple_tuple
  have kLL := AutoSeq1.sub_list_list
  have kTL := AutoSeq1.sub_tuple_list
  have kLT := AutoSeq1.sub_list_tuple
  have small : olds.size ≤ sizeLine := by omega
  have both : (olds ++ more).size ≤ sizeLine + 1 := by
    rw [Array.size_append]
    omega
  wp_walk using (wpAny_updateSeq atD rfl (hz := small) (_hz' := both)),
    wpAny_loadPart' atD,
    wpAny_loadPart' atS
  exact ⟨_, rfl, goal⟩
/-- a list of one's own grows by the items of a tuple -/
def rGrowT : V → List V → Hp → VK → Prop := fun me args H Q =>
  ∃ dst src olds more, me = .ref dst ∧ args = [.ref src] ∧ H dst = some (.lst olds) ∧ H src = some (.tup more) ∧
    olds.length + more.length ≤ sizeLine ∧ Q .non (upd H dst (.lst (olds ++ more)))
theorem mt_growT {X : Cx} : MtM X "list.extend" rGrowT := by
  intro pins st σ H me args mv avs Q inv rel rels hyp
  obtain ⟨dst, src, olds, more, rfl, rfl, atD, atS, fits, goal⟩ := hyp
  cases rel
  obtain ⟨av, rfl, relA⟩ := Vals.one rels
  cases relA
  obtain ⟨_, its, k1, rv1, len1, hp1⟩ := inv.lstM atD
  obtain ⟨its2, rv2, ⟨ob, hp2, cls2, k2, dat2⟩, _⟩ := inv.tuple (SqT.of atS)
  obtain ⟨oc, od, oda, osl⟩ := ob
  have cls2' : oc = .type "tuple" := cls2
  have dat2' : oda = .seq its2.toArray k2 := dat2
  subst cls2' dat2'
  have len2 := rv2.length
  have sz : its.toArray.size + its2.toArray.size ≤ sizeLine := by
    rw [List.size_toArray, List.size_toArray]
    omega
  have short : ¬ (!its.toArray.isEmpty && Builtin.List.listTooLong (its.toArray.size + its2.toArray.size)) = true := by
    rw [notLongL sz, Bool.and_false]
    exact Bool.false_ne_true
  have meets := ext_tuple dst its.toArray k1 src its2.toArray k2 od osl sz short
  refine call_meets PySem.F.slot_list_extend ⟨_, hp1, rfl⟩ PySem.F.entry_list_extend
    (PySem.F.args_list_extend_2 _ _) meets ⟨hp1, hp2, ?_⟩
  refine ⟨.non, _, inv.lset (its' := its ++ its2) atD hp1 (by simp) (rv1.append rv2) ?_, rfl, goal⟩
  rw [List.length_append]
  exact fits
end
section
variable {P : Program} {w : World} {K : PySem.W.Frag} {mg : Str → Option Value} {base : Heap}
open Ks607 (Block Measurement Sequence pushBlock blockMean blocksOf)
open Ks604.Rational (make)
/-! ### greatest_common_divisor, lowest_terms -/
def spGcd : Sp := fun vs H Q _ => ∃ a b : Nat, vs = [.int a, .int b] ∧ Q (.int (Nat.gcd a b : Nat)) H
theorem scGcd : FnScope ["one", "other", "rest"] ["one", "other"] (defScope sGcd) := ⟨rfl, rfl, rfl, by decide +kernel, rfl, by decide +kernel, by decide +kernel⟩
theorem ok_gcd {f : Addr} {fd : FuncData} (F : Fun K "greatest_common_divisor" "greatest_common_divisor" sGcd f fd) : FnOk P w K mg base CX0 1 f fd ["one", "other"] spGcd := by
  refine F.ok scGcd (fun vs H Q E h => ?_) (fun cdv A outer sh H vs Q E hr h => ?_)
  · obtain ⟨a, b, rfl, _⟩ := h
    rfl
  · obtain ⟨a, b, rfl, q⟩ := h
    have nd := scGcd.nd
    refine ⟨_, pss_cons (ps_while PassesOwn.never (pt_cmpR op_gt (pv 1) pe_int (nomark _))
        (pss_cons (ps_set (i := 2) nd rfl (.inl rfl) (pe_op op_mod (pv 0) (pv 1)))
        (pss_cons (ps_set (i := 0) nd rfl (.inl rfl) (pv 1))
        (pss_one (ps_set (i := 1) nd rfl (.inl rfl) (pv 2))))))
      (pss_one (ps_ret (pv 0))), ?_⟩
    refine ⟨fun n σ H1 => ∃ (x y : Nat) (r : Option V), n = y ∧ H1 = H ∧ σ = [some (.int x), some (.int y), r] ∧ Nat.gcd x y = Nat.gcd a b, ⟨b, a, b, none, rfl, rfl, rfl, rfl⟩, ?_⟩
    rintro n σ H1 ⟨x, y, r, rfl, rfl, rfl, e⟩
    refine ⟨_, rfl, _, _, rfl, rfl, _, rfl, ite2 (fun c => ?_) (fun c => ?_)⟩
    · have c0 := of_decide_eq_true c
      refine ⟨fun σ' H' => ∃ x' y' r', y' < n ∧ H' = H1 ∧ σ' = [some (.int (x' : Nat)), some (.int (y' : Nat)), r'] ∧ Nat.gcd x' y' = Nat.gcd a b, fun σ' H' ⟨x', y', r', q1, q2, q3, q4⟩ => ⟨y', q1, x', y', r', rfl, q2, q3, q4⟩, ?_⟩
      refine ⟨_, rfl, _, rfl, _, _, rfl, rfl, by omega, ?_⟩
      refine ⟨_, rfl, _, rfl, n, x % n, some (V.int ((x : Int) % n)), Nat.mod_lt _ (by omega), rfl, ?_, ?_⟩
      · rw [Int.natCast_emod]
        rfl
      · rw [← e, Nat.gcd_comm x n, Nat.gcd_rec n x, Nat.gcd_comm]
    · have c0 : ¬ ((0 : Int) < n) := fun z => c (decide_eq_true z)
      have z : n = 0 := by omega
      subst z
      rw [Nat.gcd_zero_right] at e
      refine ⟨_, rfl, ?_⟩
      rw [e]
      exact q
/-- a new tuple r of the numbers l, nothing else changed -/
def NewTup (H H' : Hp) (r : Addr) (l : List Int) : Prop := Same H H' ∧ H r = none ∧ H' r = some (.tup (l.map V.int))
def spLow : Sp := fun vs H Q _ => ∃ (n : Int) (d : Nat), vs = [.int n, .int d] ∧ 0 ≤ n ∧ 0 < d ∧ d < 2 ^ 2000 ∧ ∀ (H' : Hp) (r : Addr), NewTup H H' r (encR (make n d)) → Q (.ref r) H'
theorem scLow : FnScope ["numerator", "denominator", "divisor"] ["numerator", "denominator"] (defScope sLow) := ⟨rfl, rfl, rfl, by decide +kernel, rfl, by decide +kernel, by decide +kernel⟩
theorem ok_low {f fA : Addr} {fd fdA : FuncData} (F : Fun K "lowest_terms" "lowest_terms" sLow f fd)
    (FA : Fun K "greatest_common_divisor" "greatest_common_divisor" sGcd fA fdA) (bA : Binds K fdA ["one", "other"] []) (mA : mg "greatest_common_divisor" = some (.ref fA)) :
    FnOk P w K mg base CX0 2 f fd ["numerator", "denominator"] spLow := by
  have GA : FnOk P w K mg base CX0 1 fA fdA ["one", "other"] spGcd := ok_gcd FA
  refine F.ok scLow (fun vs H Q E h => ?_) (fun cdv A outer sh H vs Q E hr h => ?_)
  · obtain ⟨n, d, rfl, _⟩ := h
    rfl
  · obtain ⟨n, d, rfl, hn, hd, hb, q⟩ := h
    have nd := scLow.nd
    refine ⟨_, pss_cons (ps_set (i := 2) nd rfl (.inl rfl) (pe_call GA hr (by rfl) mA FA.kp bA .nil pass0 (pa_cons (pv 0) (pa_cons (pv 1) pa_nil))))
      (pss_one (ps_ret (pe_tup (pa_cons (pe_op op_fdivW (pv 0) (pv 2)) (pa_cons (pe_op op_fdivW (pv 1) (pv 2)) pa_nil))))), ?_⟩
    have hg : 0 < Nat.gcd n.natAbs d := Nat.gcd_pos_of_pos_right _ hd
    have hgd : Nat.gcd n.natAbs d ≤ d := Nat.gcd_le_right _ hd
    have hw : ∀ i : Int, CDivW i ((Nat.gcd n.natAbs d : Nat) : Int) := fun i =>
      wide_div (b := 2000) (by omega) (by rw [Int.natAbs_natCast]; exact Nat.lt_of_le_of_lt hgd hb) (by decide) (by decide)
    refine ⟨_, rfl, _, rfl, n.natAbs, d, ?_, _, rfl, _, rfl, _, _, rfl, rfl, hw _, _, rfl, _, rfl, _, _, rfl, rfl, hw _, by show 2 ≤ sizeLine; decide, fun r nr => q _ r ⟨same_upd nr, nr, ?_⟩⟩
    · show [V.int n, V.int (d : Int)] = [V.int (n.natAbs : Int), V.int (d : Int)]
      rw [Int.natAbs_of_nonneg hn]
    · rw [upd_same, make_pos hd]
      show some (HO.tup [V.int (n / _), V.int ((d : Int) / _)]) = some (HO.tup [V.int (n / _), V.int (((d / _ : Nat)) : Int)])
      rw [Int.natCast_ediv]
end
section
/-! ### chains of comparisons -/
/-- a <= b < c of whole numbers -/
theorem chain_lt {ta tb tc : TE} {σ : L2.St} {H : Hp} {Q : Bool → Hp → Prop} {a b c : Int} (h1 : ∀ R : VK, R (.int a) H → ta σ H R) (h2 : ∀ R : VK, R (.int b) H → tb σ H R)
    (h3 : ∀ R : VK, R (.int c) H → tc σ H R) (q : Q (decide (a ≤ b ∧ b < c)) H) :
    tTest (tChain (rI0 fun i j => .bl (decide (i ≤ j))) (rI0 fun i j => .bl (decide (i < j))) ta tb tc) σ H Q := by
  refine h1 _ (h2 _ ⟨a, b, rfl, rfl, _, rfl, ?_⟩)
  refine ite2 (fun e => ?_) (fun e => ?_)
  · have e1 := of_decide_eq_true e
    refine h3 _ ⟨b, c, rfl, rfl, _, rfl, ?_⟩
    rw [show decide (b < c) = decide (a ≤ b ∧ b < c) by rw [decide_eq_decide]; exact ⟨fun z => ⟨e1, z⟩, fun z => z.2⟩]
    exact q
  · have e1 : ¬ a ≤ b := fun z => e (decide_eq_true z)
    refine ⟨_, rfl, ?_⟩
    rw [show (false : Bool) = decide (a ≤ b ∧ b < c) by symm; exact decide_eq_false fun z => e1 z.1]
    exact q
/-- if not a <= b < c: .. else: .. -/
theorem if_chain_lt {ta tb tc : TE} {t u : TS} {D : Ends} {σ : L2.St} {H : Hp} (a b c : Int) (h1 : ∀ R : VK, R (.int a) H → ta σ H R) (h2 : ∀ R : VK, R (.int b) H → tb σ H R)
    (h3 : ∀ R : VK, R (.int c) H → tc σ H R) (q1 : ¬ (a ≤ b ∧ b < c) → t D σ H) (q2 : a ≤ b ∧ b < c → u D σ H) :
    tIfS (tNot (tTest (tChain (rI0 fun i j => .bl (decide (i ≤ j))) (rI0 fun i j => .bl (decide (i < j))) ta tb tc))) t u D σ H :=
  chain_lt h1 h2 h3 (if_not q1 q2)
end
section
variable {P : Program} {w : World} {K : PySem.W.Frag} {mg : Str → Option Value} {base : Heap}
open Ks607 (Block Measurement Sequence pushBlock blockMean blocksOf)
open Ks604 (Rational)
open Ks604.Rational (make)
/-! ### weighted_mean -/
def spWm (K : PySem.W.Frag) : Sp := fun vs H Q _ => ∃ (a : Addr) (s : Sequence) (ps : List (Addr × List Int)), vs = [.ref a] ∧ Pts H a s ps ∧ (∀ m ∈ s, PtOk m) ∧ 1 ≤ s.length ∧ s.length ≤ 10 ∧
  ∀ (H' : Hp) (r : Addr), NewTup H H' r (encR (make ((wvSum s : Nat) : Int) (wSum s))) → Q (.ref r) H'
theorem scWm : FnScope ["points", "weighted_sum", "value", "weight"] ["points"] (defScope sWm) := ⟨rfl, rfl, rfl, by decide +kernel, rfl, by decide +kernel, by decide +kernel⟩
theorem ok_wm {f fL : Addr} {fd fdL : FuncData} (F : Fun K "weighted_mean" "weighted_mean" sWm f fd)
    (GL : FnOk P w K mg base CX0 2 fL fdL ["numerator", "denominator"] spLow) (kL : PySem.W.keepIn K (.ref fL) = true) (bL : Binds K fdL ["numerator", "denominator"] []) (mL : mg "lowest_terms" = some (.ref fL))
    (ms : mg "sum" = none) : FnOk P w K mg base CX0 3 f fd ["points"] (spWm K) := by
  refine F.ok scWm (fun vs H Q E h => ?_) (fun cdv A outer sh H vs Q E hr h => ?_)
  · obtain ⟨a, s, ps, rfl, _⟩ := h
    rfl
  · obtain ⟨a, s, ps, rfl, hP, hm, h1, h10, q⟩ := h
    have nd := scWm.nd
    refine ⟨_, pss_cons (ps_set (i := 1) nd rfl (.inl rfl) (pe_callB (cr_sum rfl) (by rfl) ms (by decide +kernel) (pa_cons
        (pe_lc (own := [("value", 2), ("weight", 3)]) (g := gTup K 2 (gCons (gName 2) (gCons (gName 3) gNil))) (tt := tYes) (te := tOp (rI CMul fun i j => .int (i * j)) (tVar 3) (tVar 2)) rfl nd (pi_list (pv 0))
          (blkOk_by (N := ["points", "weighted_sum", "value", "weight"]) (sc := defScope sWm) (by decide +kernel))
          (fun _ _ _ _ _ => pg_tup rfl (pgs_cons (pg_name (i := 2) nd rfl (.inl rfl)) (pgs_cons (pg_name (i := 3) nd rfl (.inl rfl)) pgs_nil))) (fun _ _ _ _ _ => pts_nil)
          (fun _ _ _ _ _ => pe_op op_mul (pv 3) (pv 2))) pa_nil)))
      (pss_one (ps_ret (pe_call GL hr (by rfl) mL kL bL .nil pass0 (pa_cons (pv 1) (pa_cons (pe_callB (cr_sum rfl) (by rfl) ms (by decide +kernel) (pa_cons
        (pe_lc (own := [("value", 2), ("weight", 3)]) (g := gTup K 2 (gCons (gName 2) (gCons (gName 3) gNil))) (tt := tYes) (te := tVar 3) rfl nd (pi_list (pv 0))
          (blkOk_by (N := ["points", "weighted_sum", "value", "weight"]) (sc := defScope sWm) (by decide +kernel))
          (fun _ _ _ _ _ => pg_tup rfl (pgs_cons (pg_name (i := 2) nd rfl (.inl rfl)) (pgs_cons (pg_name (i := 3) nd rfl (.inl rfl)) pgs_nil))) (fun _ _ _ _ _ => pts_nil)
          (fun _ _ _ _ _ => pv 3)) pa_nil)) pa_nil))))), ?_⟩
    -- weighted_sum = sum([weight * value for value, weight in points])
    refine ⟨_, rfl, a, rfl, ⟨_, SqL.of hP.at_⟩, fun L nL => ?_⟩
    have s1 := same_upd (o := .lst ([] : List V)) nL
    refine lc_list (K := K) (a := a) (xs := refs ps) (fun i H1 => Same H H1 ∧ H1 L = some (.lst (((wvs s).take i).map V.int))) ⟨s1, by rw [upd_same]; rfl⟩ (fun i H1 _ ⟨s2, _⟩ => SqL.of (hP.mono s2).at_) ?_ ?_
    · rintro i y H1 hi ⟨s2, e2⟩
      have hi2 : i < s.length := by
        rw [← hP.len, ← refs_len]
        exact (List.getElem?_eq_some_iff.mp hi).1
      have gm := List.getElem?_eq_getElem hi2
      have mok := hm _ (List.getElem_mem hi2)
      generalize s[i] = m at gm mok
      obtain ⟨t, gt, ht⟩ := (hP.mono s2).get gm
      have ey : V.ref t = y := Option.some.inj (gt.symm.trans hi)
      subst ey
      have gv := wvs_get gm
      obtain ⟨_, w1, w9⟩ := mok
      refine ⟨t, _, rfl, SqT.of ht, rfl, V.int m.value, [V.int m.weight], rfl, V.int m.weight, [], rfl, rfl, rfl, iteT (B := False) ⟨_, rfl, _, rfl, _, _, rfl, rfl, .inl ⟨by omega, by omega⟩, _, e2, ?_, same_own s2 nL, ?_⟩⟩
      · rw [List.length_map, List.length_take]
        exact lt_line (by omega)
      · rw [upd_same, take_more gv, List.map_append]
        rfl
    rintro H1 ⟨s2, e2⟩
    rw [refs_len, hP.len, ← wvs_len, List.take_length] at e2
    refine ⟨L, wvs s, rfl, SqL.of e2, ?_⟩
    -- return lowest_terms(weighted_sum, sum([weight for value, weight in points]))
    have hP1 := hP.mono s2
    refine ⟨_, rfl, _, rfl, a, rfl, ⟨_, SqL.of hP1.at_⟩, fun M nM => ?_⟩
    have s3 := same_upd (o := .lst ([] : List V)) nM
    refine lc_list (K := K) (a := a) (xs := refs ps) (fun i H3 => Same H1 H3 ∧ H3 M = some (.lst (((wts s).take i).map V.int))) ⟨s3, by rw [upd_same]; rfl⟩ (fun i H3 _ ⟨s4, _⟩ => SqL.of (hP1.mono s4).at_) ?_ ?_
    · rintro i y H3 hi ⟨s4, e4⟩
      have hi2 : i < s.length := by
        rw [← hP.len, ← refs_len]
        exact (List.getElem?_eq_some_iff.mp hi).1
      have gm := List.getElem?_eq_getElem hi2
      generalize s[i] = m at gm
      obtain ⟨t, gt, ht⟩ := (hP1.mono s4).get gm
      have ey : V.ref t = y := Option.some.inj (gt.symm.trans hi)
      subst ey
      have gv := wts_get gm
      refine ⟨t, _, rfl, SqT.of ht, rfl, V.int m.value, [V.int m.weight], rfl, V.int m.weight, [], rfl, rfl, rfl, iteT (B := False) ⟨_, rfl, _, e4, ?_, same_own s4 nM, ?_⟩⟩
      · rw [List.length_map, List.length_take]
        exact lt_line (by omega)
      · rw [upd_same, take_more gv, List.map_append]
        rfl
    rintro H3 ⟨s4, e4⟩
    rw [refs_len, hP.len, ← wts_len, List.take_length] at e4
    obtain ⟨z1, z2, z3⟩ := sums_le hm
    refine ⟨M, wts s, rfl, SqL.of e4, (wvs s).sum, wSum s, ?_, ?_, by omega, ?_, fun H5 r N5 => ?_⟩
    · rw [wts_sum]
      rfl
    · rw [wvs_sum]
      omega
    · exact Nat.lt_of_le_of_lt (show wSum s ≤ 2 ^ 10 by omega) (Nat.pow_lt_pow_right (by decide) (by decide))
    rw [wvs_sum] at N5
    have s5 := s2.trans s4
    exact q H5 r ⟨s5.trans N5.1, s5.free N5.2.1, N5.2.2⟩
end
section
variable {P : Program} {w : World} {K : PySem.W.Frag} {mg : Str → Option Value} {base : Heap}
open Ks607 (Block Measurement Sequence pushBlock blockMean blocksOf)
open Ks604 (Rational)
open Ks604.Rational (make)
/-! ### range_mean -/
/-- a slice of a list of tuples -/
theorem cut_refs {ps : List (Addr × List Int)} {i j : Int} (hi : 0 ≤ i) (hij : i ≤ j) (hj : j < ps.length) :
    cutV (refs ps) (some i) (some (j + 1)) = refs ((ps.drop i.toNat).take (j.toNat + 1 - i.toNat)) := by
  have ei : i = ((i.toNat : Nat) : Int) := (Int.toNat_of_nonneg hi).symm
  have ej : j + 1 = ((j.toNat + 1 : Nat) : Int) := by omega
  have l1 : min i.toNat (refs ps).length = i.toNat := by
    rw [refs_len]
    omega
  have l2 : min (j.toNat + 1) (refs ps).length = j.toNat + 1 := by
    rw [refs_len]
    omega
  unfold cutV
  rw [ej, ei, HT.sIx_nat, HT.sIx_nat, Int.toNat_natCast, l1, l2]
  unfold refs
  rw [List.map_take, List.map_drop]
theorem Pts.part {H : Hp} {a L : Addr} {s : Sequence} {ps : List (Addr × List Int)} (h : Pts H a s ps) {i j : Nat} (eL : H L = some (.lst (refs ((ps.drop i).take (j + 1 - i))))) :
    Pts H L (part s i j) ((ps.drop i).take (j + 1 - i)) := by
  refine ⟨eL, fun z hz => h.tups z (List.mem_of_mem_drop (List.mem_of_mem_take hz)), ?_⟩
  have e := h.are
  unfold vals at *
  unfold My.part
  rw [List.map_take, List.map_drop, e, ← List.map_drop, ← List.map_take]
def spRm (K : PySem.W.Frag) : Sp := fun vs H Q _ => ∃ (i j : Int) (a : Addr) (ns : List Int), vs = [.int i, .int j, .ref a] ∧ SqL K H a (ns.map V.int) ∧ 0 ≤ i ∧ 0 ≤ j ∧ ns.length ≤ 23 ∧ (∀ x ∈ ns, 0 ≤ x) ∧
  ∀ (H' : Hp) (p : Addr), H' p = some (.lst ((PyKs607.range_mean i j ns).map V.int)) → Q (.ref p) H'
theorem scRm : FnScope ["first", "last", "measurements", "points", "answer"] ["first", "last", "measurements"] (defScope sRm) := ⟨rfl, rfl, rfl, by decide +kernel, rfl, by decide +kernel, by decide +kernel⟩
theorem ok_rm {f fW fP fM : Addr} {fd fdW fdP fdM : FuncData} {tO tN : Tok} (F : Fun K "range_mean" "range_mean" sRm f fd)
    (GW : FnOk P w K mg base CX0 2 fW fdW ["measurements"] (spWithin K)) (kW : PySem.W.keepIn K (.ref fW) = true) (bW : Binds K fdW ["measurements"] []) (mW : mg "measurements_within_limits" = some (.ref fW))
    (GP : FnOk P w K mg base CX0 1 fP fdP ["measurements"] (spPairs K)) (kP : PySem.W.keepIn K (.ref fP) = true) (bP : Binds K fdP ["measurements"] []) (mP : mg "value_weight_pairs" = some (.ref fP))
    (GM : FnOk P w K mg base CX0 3 fM fdM ["points"] (spWm K)) (kM : PySem.W.keepIn K (.ref fM) = true) (bM : Binds K fdM ["points"] []) (mM : mg "weighted_mean" = some (.ref fM))
    (mO : mg "OUTSIDE_LIMITS" = some (.int (-22) tO)) (mN : mg "NO_SUCH_MEASUREMENT" = some (.int (-2) tN)) (ml : mg "len" = none) :
    FnOk P w K mg base CX0 4 f fd ["first", "last", "measurements"] (spRm K) := by
  refine F.ok scRm (fun vs H Q E h => ?_) (fun cdv A outer sh H vs Q E hr h => ?_)
  · obtain ⟨i, j, a, ns, rfl, _⟩ := h
    rfl
  · obtain ⟨i, j, a, ns, rfl, hS, hi0, hj0, h23, h0, q⟩ := h
    have nd := scRm.nd
    have hr1 : Room 1 _ := hr.mono (by decide)
    have hr2 : Room 2 _ := hr.mono (by decide)
    refine ⟨_, pss_cons (ps_if (pt_not (pt_val (pe_call GW hr2 (by rfl) mW kW bW .nil pass0 (pa_cons (pv 2) pa_nil)))) (pss_one (ps_ret (pe_lst (pa_cons (pe_glob (by rfl) mO rv_int) pa_nil)))) pss_nil)
      (pss_cons (ps_set (i := 3) nd rfl (.inl rfl) (pe_call GP hr1 (by rfl) mP kP bP .nil pass0 (pa_cons (pv 2) pa_nil)))
      (pss_cons (ps_if (pt_not (PW.pt (pw_and (pt_chain op_le op_lt pe_int (pv 0) (pe_callB call_len_seq (by rfl) ml PySem.boot_len (pa_cons (pv 3) pa_nil)))
          (pw_and1 (pt_chain op_le op_lt pe_int (pv 1) (pe_callB call_len_seq (by rfl) ml PySem.boot_len (pa_cons (pv 3) pa_nil)))))))
        (pss_one (ps_ret (pe_lst (pa_cons (pe_glob (by rfl) mN rv_int) pa_nil)))) pss_nil)
      (pss_cons (ps_if (pt_cmpR op_lt (pv 1) (pv 0) (nomark _)) (pss_one (ps_ret (pe_lst (pa_cons (pe_glob (by rfl) mO rv_int) pa_nil)))) pss_nil)
      (pss_cons (ps_set (i := 4) nd rfl (.inl rfl) (pe_lst (pa_cons pe_int pa_nil)))
      (pss_cons (ps_expr (pe_bm PySem.F.plainAttrs_list PySem.F.slot_list_extend PySem.F.type_list_extend mt_growT (pv 4)
        (pa_cons (pe_call GM hr (by rfl) mM kM bM .nil pass0 (pa_cons (pe_slice sl_list (pv 3) (po_some (pv 0)) (po_some (pe_op op_add (pv 1) pe_int))) pa_nil)) pa_nil)))
      (pss_one (ps_ret (pv 4)))))))), ?_⟩
    -- if not measurements_within_limits(measurements)
    refine ⟨_, rfl, a, ns, rfl, hS, by omega, fun H1 s1 => ⟨_, rfl, if_not (fun e => ?_) (fun e => ?_)⟩⟩
    · refine ⟨by show 1 ≤ sizeLine; decide, fun p np => q _ p ?_⟩
      rw [upd_same, rm_bad h0 e]
      rfl
    obtain ⟨s, hs, es, ew⟩ := with_ok h0 e
    have hev := e.1.1
    -- points = value_weight_pairs(measurements)
    refine next_of ⟨_, rfl, a, ns, rfl, s1.seq hS, hev, by omega, fun H2 p ps s2 np ep tp vp => ?_⟩
    have P2 : Pts H2 p s ps := ⟨ep, tp, by rw [vp, es, List.map_map]; rfl⟩
    have l10 := hs.high
    -- if not (0 <= first < len(points) and 0 <= last < len(points))
    have test : ∀ {t u : TS} {D : Ends} {tx : TE} {σ : L2.St}, σ[0]? = some (some (.int i)) → σ[1]? = some (some (.int j)) → (∀ R : VK, R (.int (s.length : Int)) H2 → tx σ H2 R) →
        (¬ (i < s.length ∧ j < s.length) → t D σ H2) → (i < s.length ∧ j < s.length → u D σ H2) →
        tIfS (tNot (tAnd (tTest (tChain (rI0 fun i j => V.bl (decide (i ≤ j))) (rI0 fun i j => V.bl (decide (i < j))) (tC (V.int 0)) (tVar 0) tx))
          (tTest (tChain (rI0 fun i j => V.bl (decide (i ≤ j))) (rI0 fun i j => V.bl (decide (i < j))) (tC (V.int 0)) (tVar 1) tx)))) t u D σ H2 := by
      intro t u D tx σ g0 g1 gx q1 q2
      refine chain_lt (a := 0) (b := i) (c := (s.length : Int)) (fun R r => r) (fun R r => ⟨_, g0, r⟩) gx ?_
      refine ite2 (fun e1 => ?_) (fun e1 => ?_)
      · have e1 := of_decide_eq_true e1
        refine chain_lt (a := 0) (b := j) (c := (s.length : Int)) (fun R r => r) (fun R r => ⟨_, g1, r⟩) gx ?_
        exact if_not (fun e2 => q1 fun z => e2 ⟨hj0, z.2⟩) (fun e2 => q2 ⟨e1.2, e2.2⟩)
      · have e1 : ¬ (0 ≤ i ∧ i < (s.length : Int)) := fun z => e1 (decide_eq_true z)
        exact iteT (q1 fun z => e1 ⟨hi0, z.1⟩)
    refine nx_of (seq_of (test rfl rfl (fun R r => ?_) (fun e1 => ?_) (fun e1 => ?_)))
    · refine ⟨_, rfl, p, _, rfl, .inl (SqL.of P2.at_), ?_⟩
      rw [refs_len, P2.len]
      exact r
    · refine ⟨by show 1 ≤ sizeLine; decide, fun r nr => q _ r ?_⟩
      rw [upd_same, rm_none ew (by omega)]
      rfl
    -- if last < first
    refine next_of ⟨_, rfl, _, rfl, _, _, rfl, rfl, _, rfl, ite2 (fun e2 => ?_) (fun e2 => ?_)⟩
    · have e2 := of_decide_eq_true e2
      refine ⟨by show 1 ≤ sizeLine; decide, fun r nr => q _ r ?_⟩
      rw [upd_same, rm_swapped ew hj0 e1.1 e1.2 e2]
      rfl
    have e2 : i ≤ j := by
      have z : ¬ j < i := fun z => e2 (decide_eq_true z)
      omega
    -- answer = [0]
    refine next_of ⟨by show 1 ≤ sizeLine; decide, fun D nD => ?_⟩
    have s3 := same_upd (o := .lst [V.int 0]) nD
    have P3 := P2.mono s3
    -- answer.extend(weighted_mean(points[first:last + 1]))
    have lj : j.toNat < s.length := by omega
    have hl : (part s i.toNat j.toNat).length = j.toNat + 1 - i.toNat := part_len lj
    refine ⟨_, rfl, .inl ⟨rfl, _, SqL.of upd_same⟩, _, rfl, _, rfl, i, rfl, _, rfl, _, _, rfl, rfl, j + 1, rfl, p, _, rfl, SqL.of P3.at_, fun L nL => ?_⟩
    rw [cut_refs hi0 e2 (by rw [P2.len]; exact e1.2)]
    have s4 := same_upd (o := .lst (refs ((ps.drop i.toNat).take (j.toNat + 1 - i.toNat)))) nL
    have P4 := P3.mono s4
    refine ⟨L, part s i.toNat j.toNat, _, rfl, P4.part upd_same, fun m hm => hs.pts m (part_mem hm), by omega, by omega, fun H6 r N6 => ?_⟩
    have e7 := N6.1 _ _ (s4 _ _ (upd_same (H := H2) (a := D) (o := .lst [V.int 0])))
    refine ⟨D, r, _, _, rfl, rfl, e7, N6.2.2, by show 1 + 2 ≤ sizeLine; decide, ?_⟩
    refine ⟨_, rfl, q _ D ?_⟩
    rw [upd_same, rm_ok ew hi0 e1.2 e2, rangeMean_eq]
    rfl
end
/-! ### the end: what the top has written -/
theorem all_mk {P : Program} {w : World} {K : PySem.W.Frag} {h : Heap} {mg : Str → Option Value} {fa : Addr} (X : K.In h) (G : h.Ns mainGlobals mg) (hfa : mg "range_mean" = some (.ref fa))
    {f1 f2 f3 f4 f5 f6 : Addr} {od1 an1 od2 an2 od3 an3 od4 an4 od5 an5 od6 an6 : Option Addr} {sl1 sl2 sl3 sl4 sl5 sl6 : Array (Option Value)}
    {oc1 kV1 dc1 pm1 cd1 ct1 oc2 kV2 dc2 pm2 cd2 ct2 oc3 kV3 dc3 pm3 cd3 ct3 oc4 kV4 dc4 pm4 cd4 ct4 oc5 kV5 dc5 pm5 cd5 ct5 oc6 kV6 dc6 pm6 cd6 ct6 : Value} {t1 t2 t3 t4 t5 t6 : Tok}
    (a1 : PySem.W.nsIn K mainGlobals "range_mean" = some (some (.ref f1)))
    (l1 : K.lookup f1 = some ⟨oc1, od1, .func (PySem.W.fnOf "range_mean" "range_mean" (defArgs sRm) (defBody sRm) (defScope sRm) .none kV1 dc1 pm1 an1 cd1 ct1), sl1⟩)
    (c1 : PySem.W.codeIn K cd1 "range_mean" = true) (k1 : PySem.W.keepIn K (.ref f1) = true)
    (a2 : PySem.W.nsIn K mainGlobals "measurements_within_limits" = some (some (.ref f2)))
    (l2 : K.lookup f2 = some ⟨oc2, od2, .func (PySem.W.fnOf "measurements_within_limits" "measurements_within_limits" (defArgs sWithin) (defBody sWithin) (defScope sWithin) .none kV2 dc2 pm2 an2 cd2 ct2), sl2⟩)
    (c2 : PySem.W.codeIn K cd2 "measurements_within_limits" = true) (k2 : PySem.W.keepIn K (.ref f2) = true)
    (a3 : PySem.W.nsIn K mainGlobals "value_weight_pairs" = some (some (.ref f3)))
    (l3 : K.lookup f3 = some ⟨oc3, od3, .func (PySem.W.fnOf "value_weight_pairs" "value_weight_pairs" (defArgs sPairs) (defBody sPairs) (defScope sPairs) .none kV3 dc3 pm3 an3 cd3 ct3), sl3⟩)
    (c3 : PySem.W.codeIn K cd3 "value_weight_pairs" = true) (k3 : PySem.W.keepIn K (.ref f3) = true)
    (a4 : PySem.W.nsIn K mainGlobals "weighted_mean" = some (some (.ref f4)))
    (l4 : K.lookup f4 = some ⟨oc4, od4, .func (PySem.W.fnOf "weighted_mean" "weighted_mean" (defArgs sWm) (defBody sWm) (defScope sWm) .none kV4 dc4 pm4 an4 cd4 ct4), sl4⟩)
    (c4 : PySem.W.codeIn K cd4 "weighted_mean" = true) (k4 : PySem.W.keepIn K (.ref f4) = true)
    (a5 : PySem.W.nsIn K mainGlobals "lowest_terms" = some (some (.ref f5)))
    (l5 : K.lookup f5 = some ⟨oc5, od5, .func (PySem.W.fnOf "lowest_terms" "lowest_terms" (defArgs sLow) (defBody sLow) (defScope sLow) .none kV5 dc5 pm5 an5 cd5 ct5), sl5⟩)
    (c5 : PySem.W.codeIn K cd5 "lowest_terms" = true) (k5 : PySem.W.keepIn K (.ref f5) = true)
    (a6 : PySem.W.nsIn K mainGlobals "greatest_common_divisor" = some (some (.ref f6)))
    (l6 : K.lookup f6 = some ⟨oc6, od6, .func (PySem.W.fnOf "greatest_common_divisor" "greatest_common_divisor" (defArgs sGcd) (defBody sGcd) (defScope sGcd) .none kV6 dc6 pm6 an6 cd6 ct6), sl6⟩)
    (c6 : PySem.W.codeIn K cd6 "greatest_common_divisor" = true) (k6 : PySem.W.keepIn K (.ref f6) = true)
    (u1 : PySem.W.nsIn K mainGlobals "NO_SUCH_MEASUREMENT" = some (some (.int (-2) t1)))
    (u2 : PySem.W.nsIn K mainGlobals "OUTSIDE_LIMITS" = some (some (.int (-22) t2)))
    (u3 : PySem.W.nsIn K mainGlobals "MOST_MEASUREMENTS" = some (some (.int (10) t3)))
    (u4 : PySem.W.nsIn K mainGlobals "LARGEST_VALUE" = some (some (.int (999) t4)))
    (u5 : PySem.W.nsIn K mainGlobals "SMALLEST_WEIGHT" = some (some (.int (1) t5)))
    (u6 : PySem.W.nsIn K mainGlobals "LARGEST_WEIGHT" = some (some (.int (9) t6)))
    (z1 : PySem.W.nsIn K mainGlobals "len" = some none)
    (z2 : PySem.W.nsIn K mainGlobals "range" = some none)
    (z3 : PySem.W.nsIn K mainGlobals "sum" = some none)
    : ∃ fd : FuncData, (∀ (s : Shared) (us : List Value), us.length = (["first", "last", "measurements"] : List Str).length → BindsTo s fd ⟨us, []⟩ ((["first", "last", "measurements"] : List Str).zip us)) ∧
      ∀ base : Heap, K.In base → base.Ns mainGlobals mg → FnOk P w K mg base CX0 4 fa fd ["first", "last", "measurements"] (spRm K) := by
  have e := hfa.symm.trans (PySem.W.mg_of X G a1)
  cases e
  have F1 := fun_mk (st := sRm) l1 c1 k1
  have F2 := fun_mk (st := sWithin) l2 c2 k2
  have b2 := F2.binds (ps := ["measurements"]) fun _ _ _ _ _ _ us hl => match us, hl with | [_], _ => rfl
  have m2 := PySem.W.mg_of X G a2
  have F3 := fun_mk (st := sPairs) l3 c3 k3
  have b3 := F3.binds (ps := ["measurements"]) fun _ _ _ _ _ _ us hl => match us, hl with | [_], _ => rfl
  have m3 := PySem.W.mg_of X G a3
  have F4 := fun_mk (st := sWm) l4 c4 k4
  have b4 := F4.binds (ps := ["points"]) fun _ _ _ _ _ _ us hl => match us, hl with | [_], _ => rfl
  have m4 := PySem.W.mg_of X G a4
  have F5 := fun_mk (st := sLow) l5 c5 k5
  have b5 := F5.binds (ps := ["numerator", "denominator"]) fun _ _ _ _ _ _ us hl => match us, hl with | [_, _], _ => rfl
  have m5 := PySem.W.mg_of X G a5
  have F6 := fun_mk (st := sGcd) l6 c6 k6
  have b6 := F6.binds (ps := ["one", "other"]) fun _ _ _ _ _ _ us hl => match us, hl with | [_, _], _ => rfl
  have m6 := PySem.W.mg_of X G a6
  have v1 := PySem.W.mg_of X G u1
  have v2 := PySem.W.mg_of X G u2
  have v3 := PySem.W.mg_of X G u3
  have v4 := PySem.W.mg_of X G u4
  have v5 := PySem.W.mg_of X G u5
  have v6 := PySem.W.mg_of X G u6
  have y1 := PySem.W.mg_none_of X G z1
  have y2 := PySem.W.mg_none_of X G z2
  have y3 := PySem.W.mg_none_of X G z3
  exact ⟨PySem.W.fnOf "range_mean" "range_mean" (defArgs sRm) (defBody sRm) (defScope sRm) .none kV1 dc1 pm1 an1 cd1 ct1, fun s us hu => match us, hu with | [_, _, _], _ => .of_eq rfl, fun base _ _ =>
    ok_rm F1 (ok_within F2 F3 b3 m3 y2 y1 v3 v4 v5 v6) k2 b2 m2 (ok_pairs F3 y2 y1) k3 b3 m3 (ok_wm F4 (ok_low F5 F6 b6 m6) k5 b5 m5 y3) k4 b4 m4 v2 v1 y1⟩
end My
open PySem PySem.W PyProof.Rows
set_option maxRecDepth 100000 in
set_option maxHeartbeats 8000000 in
theorem PySem.Challenge.cw_risingfits_s06_range_mean_holds : PySem.Challenge.rw_risingfits_s06_range_mean.Holds := by
  w_on; k_headS; (case hw => exact ⟨[.int 0, .int 0, .list []], by decide +kernel, by decide +kernel⟩)
  k_fillS
  refine L2.walk_specK (r := PySem.Challenge.rw_risingfits_s06_range_mean) (k := 4) (CX := L2.CX0) (ps := ["first", "last", "measurements"]) (sp := My.spRm) (by decide +kernel) rfl rfl ⟨rfl, by decide, by decide⟩ (fun w h Y => PySem.W.kIn_of Y) ?F ?S (fun _ _ _ _ z => z)
  case F =>
    intro w mg fa h Y KX G hmg
    refine' My.all_mk KX G hmg ?a1 ?l1 ?c1 ?k1 ?a2 ?l2 ?c2 ?k2 ?a3 ?l3 ?c3 ?k3 ?a4 ?l4 ?c4 ?k4 ?a5 ?l5 ?c5 ?k5 ?a6 ?l6 ?c6 ?k6 ?u1 ?u2 ?u3 ?u4 ?u5 ?u6 ?z1 ?z2 ?z3
    (case a1 => k_is); (case l1 => k_is); (case c1 => k_is); (case k1 => k_is)
    (case a2 => k_is); (case l2 => k_is); (case c2 => k_is); (case k2 => k_is)
    (case a3 => k_is); (case l3 => k_is); (case c3 => k_is); (case k3 => k_is)
    (case a4 => k_is); (case l4 => k_is); (case c4 => k_is); (case k4 => k_is)
    (case a5 => k_is); (case l5 => k_is); (case c5 => k_is); (case k5 => k_is)
    (case a6 => k_is); (case l6 => k_is); (case c6 => k_is); (case k6 => k_is)
    (case u1 => k_is); (case u2 => k_is); (case u3 => k_is); (case u4 => k_is); (case u5 => k_is); (case u6 => k_is); (case z1 => k_is); (case z2 => k_is); (case z3 => k_is)
  case S =>
    intro K H xs a hO hwi hask hx
    obtain ⟨p, rfl, hp, h1, h2, h3, h4⟩ := My.req_nnl hwi hx
    exact ⟨a.1, a.2.1, p, a.2.2.1, rfl, hp, h1.1, h2.1, h3, fun x hx => (h4 x hx).1, fun H' p hp => My.ans_dw hp⟩
