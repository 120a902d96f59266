import PyProof.Rows.All
import Wide.All
import OpenK.AllK
import Wide.FinOn
import HandS.ForMost
import HandS.ForExc
import HandS.Wide
import HandS.WideBits
import HandS.WideMore
import HandS.Gcd
import HandS.IsInst
import HandS.Lambda
import HandS.TryMany
import HandS.Conv
import HandS.Deep
import HandS.Zip
import HandS.TupAny
import HandS.More
import HandS.Flow
import HandS.Codes
import KE.KMathG
import KE.KMathGC
import Flt.RightSqrt
import HandS.RaiseMore
import HandS.HeadHook1
import KE.KDflt
import KE.IntBitsLaws
import HandS.HeadHook2
import HandS.HeadEnd
import HandS.HeadWalk
import HandS.EndTab
import HandS.EndBits
import HandS.Head0
import HandS.Head1
import HandS.Head2
import HandS.Head3
import KE.KStateDown
import PySem.Challenge.RW_treespace_k00_whole_sums
section
/-! Reals as Cauchy sequences of rationals: an ordered field with square roots of naturals. Own work; core Lean alone. -/
namespace TS
abbrev Sq := Nat → Rat
def Cau (f : Sq) : Prop := ∀ e : Rat, 0 < e → ∃ N, ∀ m n, N ≤ m → N ≤ n → f m - f n < e
def Nul (f : Sq) : Prop := ∀ e : Rat, 0 < e → ∃ N, ∀ n, N ≤ n → -e < f n ∧ f n < e
def Bnd (f : Sq) : Prop := ∃ B : Rat, 0 < B ∧ ∃ N, ∀ n, N ≤ n → -B < f n ∧ f n < B
def Pos (f : Sq) : Prop := ∃ e : Rat, 0 < e ∧ ∃ N, ∀ n, N ≤ n → e < f n

theorem mul_bd {a b A B : Rat} (h1 : -A < a) (h2 : a < A) (h3 : -B < b) (h4 : b < B) : -(A * B) < a * b ∧ a * b < A * B := by
  have p1 := Rat.mul_pos (a := A - a) (b := B + b) (by grind) (by grind)
  have p2 := Rat.mul_pos (a := A + a) (b := B - b) (by grind) (by grind)
  have p3 := Rat.mul_pos (a := A - a) (b := B - b) (by grind) (by grind)
  have p4 := Rat.mul_pos (a := A + a) (b := B + b) (by grind) (by grind)
  constructor <;> grind

theorem Cau.bnd {f : Sq} (h : Cau f) : Bnd f := by
  obtain ⟨N, hN⟩ := h 1 (by grind)
  by_cases h0 : 0 ≤ f N
  · refine ⟨f N + 2, by grind, N, fun n hn => ?_⟩
    have a := hN n N hn (Nat.le_refl _)
    have b := hN N n (Nat.le_refl _) hn
    grind
  · refine ⟨- f N + 2, by grind, N, fun n hn => ?_⟩
    have a := hN n N hn (Nat.le_refl _)
    have b := hN N n (Nat.le_refl _) hn
    grind

theorem Nul.add {f g : Sq} (hf : Nul f) (hg : Nul g) : Nul (fun n => f n + g n) := fun e he => by
  obtain ⟨N, hN⟩ := hf (e/2) (by grind)
  obtain ⟨M, hM⟩ := hg (e/2) (by grind)
  refine ⟨max N M, fun n hn => ?_⟩
  have a := hN n (by omega)
  have b := hM n (by omega)
  constructor <;> grind
theorem Nul.neg {f : Sq} (hf : Nul f) : Nul (fun n => - f n) := fun e he => by
  obtain ⟨N, hN⟩ := hf e he
  refine ⟨N, fun n hn => ?_⟩
  have a := hN n hn
  constructor <;> grind
theorem Nul.mul {f g : Sq} (hf : Nul f) (hg : Bnd g) : Nul (fun n => f n * g n) := fun e he => by
  obtain ⟨B, hB, M, hM⟩ := hg
  have h2 : 0 < e / B := by rw [Rat.div_def]; exact Rat.mul_pos he (Rat.inv_pos.mpr hB)
  obtain ⟨N, hN⟩ := hf (e / B) h2
  refine ⟨max N M, fun n hn => ?_⟩
  have a := hN n (by omega)
  have b := hM n (by omega)
  have c := mul_bd a.1 a.2 b.1 b.2
  have d : e / B * B = e := by
    rw [Rat.div_def, Rat.mul_assoc, Rat.inv_mul_cancel _ (by grind), Rat.mul_one]
  rw [d] at c
  exact c
theorem nul_zero : Nul (fun _ => 0) := fun e he => ⟨0, fun n _ => by constructor <;> grind⟩

theorem Cau.add {f g : Sq} (hf : Cau f) (hg : Cau g) : Cau (fun n => f n + g n) := fun e he => by
  obtain ⟨N, hN⟩ := hf (e/2) (by grind)
  obtain ⟨M, hM⟩ := hg (e/2) (by grind)
  refine ⟨max N M, fun m n hm hn => ?_⟩
  have a := hN m n (by omega) (by omega)
  have b := hM m n (by omega) (by omega)
  show f m + g m - (f n + g n) < e
  grind
theorem Cau.neg {f : Sq} (hf : Cau f) : Cau (fun n => - f n) := fun e he => by
  obtain ⟨N, hN⟩ := hf e he
  refine ⟨N, fun m n hm hn => ?_⟩
  have a := hN n m hn hm
  show - f m - (- f n) < e
  grind
theorem Cau.mul {f g : Sq} (hf : Cau f) (hg : Cau g) : Cau (fun n => f n * g n) := fun e he => by
  obtain ⟨B, hB, N1, hN1⟩ := hf.bnd
  obtain ⟨C, hC, N2, hN2⟩ := hg.bnd
  have eB : 0 < e / (2 * B) := by rw [Rat.div_def]; exact Rat.mul_pos he (Rat.inv_pos.mpr (by grind))
  have eC : 0 < e / (2 * C) := by rw [Rat.div_def]; exact Rat.mul_pos he (Rat.inv_pos.mpr (by grind))
  obtain ⟨N, hN⟩ := hf _ eC
  obtain ⟨M, hM⟩ := hg _ eB
  refine ⟨max (max N M) (max N1 N2), fun m n hm hn => ?_⟩
  have a1 := hN m n (by omega) (by omega)
  have a2 := hN n m (by omega) (by omega)
  have b1 := hM m n (by omega) (by omega)
  have b2 := hM n m (by omega) (by omega)
  have c1 := hN1 m (by omega)
  have c2 := hN2 n (by omega)
  have p := mul_bd (a := g m - g n) (b := f m) (A := e / (2 * B)) (B := B) (by grind) (by grind) c1.1 c1.2
  have q := mul_bd (a := f m - f n) (b := g n) (A := e / (2 * C)) (B := C) (by grind) (by grind) c2.1 c2.2
  have d1 : e / (2 * B) * B = e / 2 := by
    have : B ≠ 0 := by grind
    grind
  have d2 : e / (2 * C) * C = e / 2 := by
    have : C ≠ 0 := by grind
    grind
  rw [d1] at p
  rw [d2] at q
  show f m * g m - f n * g n < e
  have := p.2
  have := q.2
  grind
theorem cau_const (q : Rat) : Cau (fun _ => q) := fun e he => ⟨0, fun m n _ _ => by show q - q < e; grind⟩

theorem Cau.tri {f : Sq} (hf : Cau f) (h : ¬ Nul f) : Pos f ∨ Pos (fun n => - f n) := by
  have h1 : ∃ e : Rat, 0 < e ∧ ∀ N, ∃ n, N ≤ n ∧ ¬ (-e < f n ∧ f n < e) := by
    refine Classical.byContradiction fun hc => h fun e he => ?_
    refine Classical.byContradiction fun hd => hc ⟨e, he, fun N => ?_⟩
    refine Classical.byContradiction fun hx => hd ⟨N, fun n hn => ?_⟩
    refine Classical.byContradiction fun hy => hx ⟨n, hn, hy⟩
  obtain ⟨e, he, hh⟩ := h1
  obtain ⟨N, hN⟩ := hf (e/2) (by grind)
  obtain ⟨n, hn, hx⟩ := hh N
  by_cases h2 : f n < e
  · right
    refine ⟨e/4, by grind, N, fun m hm => ?_⟩
    have a := hN m n hm hn
    have b : ¬ (-e < f n) := fun q => hx ⟨q, h2⟩
    grind
  · left
    refine ⟨e/4, by grind, N, fun m hm => ?_⟩
    have a := hN n m hn hm
    grind
theorem Pos.addp {f g : Sq} (hf : Pos f) (hg : Pos g) : Pos (fun n => f n + g n) := by
  obtain ⟨e, he, N, hN⟩ := hf
  obtain ⟨d, hd, M, hM⟩ := hg
  refine ⟨e, he, max N M, fun n hn => ?_⟩
  have a := hN n (by omega)
  have b := hM n (by omega)
  grind
theorem Pos.mulp {f g : Sq} (hf : Pos f) (hg : Pos g) : Pos (fun n => f n * g n) := by
  obtain ⟨e, he, N, hN⟩ := hf
  obtain ⟨d, hd, M, hM⟩ := hg
  refine ⟨e * d, Rat.mul_pos he hd, max N M, fun n hn => ?_⟩
  have a := hN n (by omega)
  have b := hM n (by omega)
  have p := Rat.mul_pos (a := f n - e) (b := g n) (by grind) (by grind)
  have q := Rat.mul_pos (a := e) (b := g n - d) (by grind) (by grind)
  grind
theorem Pos.nul {f g : Sq} (hf : Pos f) (hg : Nul (fun n => f n - g n)) : Pos g := by
  obtain ⟨e, he, N, hN⟩ := hf
  obtain ⟨M, hM⟩ := hg (e/2) (by grind)
  refine ⟨e/2, by grind, max N M, fun n hn => ?_⟩
  have a := hN n (by omega)
  have b := hM n (by omega)
  grind
theorem Pos.not_nul {f : Sq} (hf : Pos f) (hg : Nul f) : False := by
  obtain ⟨e, he, N, hN⟩ := hf
  obtain ⟨M, hM⟩ := hg e he
  have a := hN (max N M) (by omega)
  have b := hM (max N M) (by omega)
  grind

structure CS where
  f : Sq
  c : Cau f
instance csS : Setoid CS where
  r x y := Nul (fun n => x.f n - y.f n)
  iseqv := {
    refl := fun x e he => ⟨0, fun n _ => by constructor <;> grind⟩
    symm := fun {x y} h e he => by
      obtain ⟨N, hN⟩ := h e he
      refine ⟨N, fun n hn => ?_⟩
      have a := hN n hn
      constructor <;> grind
    trans := fun {x y z} h g e he => by
      obtain ⟨N, hN⟩ := h (e/2) (by grind)
      obtain ⟨M, hM⟩ := g (e/2) (by grind)
      refine ⟨max N M, fun n hn => ?_⟩
      have a := hN n (by omega)
      have b := hM n (by omega)
      constructor <;> grind }
def Rl := Quotient csS
def mkR (f : Sq) (h : Cau f) : Rl := Quotient.mk csS ⟨f, h⟩
theorem mk_eq {f g : Sq} {hf : Cau f} {hg : Cau g} (h : Nul (fun n => f n - g n)) : mkR f hf = mkR g hg := Quotient.sound (s := csS) h
theorem mk_eq_iff {f g : Sq} {hf : Cau f} {hg : Cau g} : mkR f hf = mkR g hg ↔ Nul (fun n => f n - g n) :=
  ⟨fun e => Quotient.exact (s := csS) e, mk_eq⟩
theorem ptw {f g : Sq} {hf : Cau f} {hg : Cau g} (h : ∀ n, f n = g n) : mkR f hf = mkR g hg := by
  have : f = g := funext h
  subst this
  rfl
def ofQ (q : Rat) : Rl := mkR (fun _ => q) (cau_const q)
def addR : Rl → Rl → Rl := Quotient.lift₂ (fun x y => mkR (fun n => x.f n + y.f n) (x.c.add y.c)) (by
  intro a b c d h1 h2
  refine mk_eq ?_
  have := Nul.add h1 h2
  refine cast (congrArg Nul (funext fun n => ?_)) this
  show a.f n - c.f n + (b.f n - d.f n) = a.f n + b.f n - (c.f n + d.f n)
  grind)
def negR : Rl → Rl := Quotient.lift (fun x => mkR (fun n => - x.f n) x.c.neg) (by
  intro a b h1
  refine mk_eq ?_
  have := Nul.neg h1
  refine cast (congrArg Nul (funext fun n => ?_)) this
  show -(a.f n - b.f n) = - a.f n - (- b.f n)
  grind)
def mulR : Rl → Rl → Rl := Quotient.lift₂ (fun x y => mkR (fun n => x.f n * y.f n) (x.c.mul y.c)) (by
  intro a b c d h1 h2
  refine mk_eq ?_
  have := Nul.add (Nul.mul h1 b.c.bnd) (Nul.mul h2 c.c.bnd)
  refine cast (congrArg Nul (funext fun n => ?_)) this
  show (a.f n - c.f n) * b.f n + (b.f n - d.f n) * c.f n = a.f n * b.f n - c.f n * d.f n
  grind)
instance : Add Rl := ⟨addR⟩
instance : Neg Rl := ⟨negR⟩
instance : Mul Rl := ⟨mulR⟩
instance : Sub Rl := ⟨fun a b => a + (-b)⟩
instance : NatCast Rl := ⟨fun n => ofQ (n : Rat)⟩
instance : IntCast Rl := ⟨fun n => ofQ (n : Rat)⟩
instance (n : Nat) : OfNat Rl n := ⟨ofQ (n : Rat)⟩
def powR (x : Rl) : Nat → Rl
  | 0 => ofQ ((1 : Nat) : Rat)
  | n + 1 => powR x n * x
instance : HPow Rl Nat Rl := ⟨powR⟩
theorem mk_add {f g : Sq} {hf : Cau f} {hg : Cau g} : mkR f hf + mkR g hg = mkR (fun n => f n + g n) (hf.add hg) := rfl
theorem mk_mul {f g : Sq} {hf : Cau f} {hg : Cau g} : mkR f hf * mkR g hg = mkR (fun n => f n * g n) (hf.mul hg) := rfl
theorem mk_neg {f : Sq} {hf : Cau f} : - mkR f hf = mkR (fun n => - f n) hf.neg := rfl
theorem ofQ_add (p q : Rat) : ofQ (p + q) = ofQ p + ofQ q := rfl
theorem ofQ_mul (p q : Rat) : ofQ (p * q) = ofQ p * ofQ q := rfl
theorem ofQ_neg (p : Rat) : ofQ (-p) = - ofQ p := rfl
instance instCR : Lean.Grind.CommRing Rl where
  nsmul := ⟨fun n x => (n : Rl) * x⟩
  zsmul := ⟨fun n x => (n : Rl) * x⟩
  add_zero := by rintro ⟨x⟩; exact ptw fun n => by show x.f n + ((0 : Nat) : Rat) = x.f n; grind
  add_comm := by rintro ⟨x⟩ ⟨y⟩; exact ptw fun n => by show x.f n + y.f n = y.f n + x.f n; grind
  add_assoc := by rintro ⟨x⟩ ⟨y⟩ ⟨z⟩; exact ptw fun n => by show x.f n + y.f n + z.f n = x.f n + (y.f n + z.f n); grind
  mul_assoc := by rintro ⟨x⟩ ⟨y⟩ ⟨z⟩; exact ptw fun n => by show x.f n * y.f n * z.f n = x.f n * (y.f n * z.f n); grind
  mul_comm := by rintro ⟨x⟩ ⟨y⟩; exact ptw fun n => by show x.f n * y.f n = y.f n * x.f n; grind
  mul_one := by rintro ⟨x⟩; exact ptw fun n => by show x.f n * ((1 : Nat) : Rat) = x.f n; grind
  left_distrib := by rintro ⟨x⟩ ⟨y⟩ ⟨z⟩; exact ptw fun n => by show x.f n * (y.f n + z.f n) = x.f n * y.f n + x.f n * z.f n; grind
  zero_mul := by rintro ⟨x⟩; exact ptw fun n => by show ((0 : Nat) : Rat) * x.f n = ((0 : Nat) : Rat); grind
  one_mul := by rintro ⟨x⟩; exact ptw fun n => by show ((1 : Nat) : Rat) * x.f n = x.f n; grind
  right_distrib := by rintro ⟨x⟩ ⟨y⟩ ⟨z⟩; exact ptw fun n => by show (x.f n + y.f n) * z.f n = x.f n * z.f n + y.f n * z.f n; grind
  mul_zero := by rintro ⟨x⟩; exact ptw fun n => by show x.f n * ((0 : Nat) : Rat) = ((0 : Nat) : Rat); grind
  pow_zero := fun x => rfl
  pow_succ := fun x n => rfl
  ofNat_succ := fun n => by
    show ofQ ((n + 1 : Nat) : Rat) = ofQ (n : Rat) + ofQ ((1 : Nat) : Rat)
    rw [← ofQ_add]
    exact congrArg ofQ (Rat.natCast_add n 1)
  neg_add_cancel := by rintro ⟨x⟩; exact ptw fun n => by show - x.f n + x.f n = ((0 : Nat) : Rat); grind
  sub_eq_add_neg := fun a b => rfl
  neg_zsmul := fun i x => by
    show ofQ ((-i : Int) : Rat) * x = - (ofQ (i : Rat) * x)
    rw [Rat.intCast_neg, ofQ_neg]
    obtain ⟨x⟩ := x
    exact ptw fun n => by show -(i : Rat) * x.f n = -((i : Rat) * x.f n); grind
  intCast_neg := fun i => by
    show ofQ ((-i : Int) : Rat) = - ofQ (i : Rat)
    rw [Rat.intCast_neg, ofQ_neg]

def PosR : Rl → Prop := Quotient.lift (fun x => Pos x.f) (by
  intro a b h
  refine propext ⟨fun p => p.nul h, fun p => p.nul (csS.iseqv.symm h)⟩)
instance : LT Rl := ⟨fun a b => PosR (b - a)⟩
instance : LE Rl := ⟨fun a b => ¬ PosR (a - b)⟩
theorem lt_def {a b : Rl} : a < b ↔ PosR (b - a) := Iff.rfl
theorem le_def {a b : Rl} : a ≤ b ↔ ¬ PosR (a - b) := Iff.rfl
theorem posR_add {a b : Rl} : PosR a → PosR b → PosR (a + b) := by
  revert a b
  rintro ⟨a⟩ ⟨b⟩ h g
  exact Pos.addp h g
theorem posR_mul {a b : Rl} : PosR a → PosR b → PosR (a * b) := by
  revert a b
  rintro ⟨a⟩ ⟨b⟩ h g
  exact Pos.mulp h g
theorem posR_tri (a : Rl) : a = 0 ∨ PosR a ∨ PosR (-a) := by
  obtain ⟨x⟩ := a
  by_cases h : Nul x.f
  · left
    refine mk_eq (f := x.f) (hf := x.c) (g := fun _ => ((0 : Nat) : Rat)) (hg := cau_const _) ?_
    refine cast (congrArg Nul (funext fun n => ?_)) h
    show x.f n = x.f n - ((0 : Nat) : Rat)
    grind
  · right
    exact x.c.tri h
theorem not_posR_zero : ¬ PosR 0 := fun h => Pos.not_nul h (by
  show Nul (fun _ => ((0 : Nat) : Rat))
  exact nul_zero)
theorem not_posR_both {a : Rl} (h : PosR a) (g : PosR (-a)) : False := not_posR_zero (by
  have := posR_add h g
  rwa [show a + -a = 0 by grind] at this)
instance : Std.IsLinearOrder Rl where
  le_refl := fun a h => not_posR_zero (by rwa [show a - a = 0 by grind] at h)
  le_trans := fun a b c h g k => by
    rcases posR_tri (a - b) with e | e | e
    · have : a - c = b - c := by grind
      rw [this] at k
      exact g k
    · exact h e
    · refine g ?_
      have := posR_add k e
      rwa [show a - c + -(a - b) = b - c by grind] at this
  le_antisymm := fun a b h g => by
    rcases posR_tri (a - b) with e | e | e
    · grind
    · exact (h e).elim
    · exact (g (by rwa [show -(a - b) = b - a by grind] at e)).elim
  le_total := fun a b => by
    by_cases h : PosR (a - b)
    · right
      exact fun g => not_posR_both h (by rwa [show -(a - b) = b - a by grind])
    · exact .inl h
instance : Std.LawfulOrderLT Rl where
  lt_iff := fun a b => by
    constructor
    · intro h
      exact ⟨fun g => not_posR_both h (by rwa [show -(b - a) = a - b by grind]), fun g => g h⟩
    · intro h
      exact Classical.byContradiction fun g => h.2 g
theorem zero_lt_iff {a : Rl} : 0 < a ↔ PosR a := by
  rw [lt_def, show a - 0 = a by grind]
theorem posR_ofQ {q : Rat} (h : 0 < q) : PosR (ofQ q) := ⟨q/2, by grind, 0, fun n _ => by show q/2 < q; grind⟩
instance : Lean.Grind.OrderedRing Rl where
  add_le_left_iff := fun {a b} c => by
    rw [le_def, le_def, show a + c - (b + c) = a - b by grind]
  zero_lt_one := by
    rw [zero_lt_iff]
    exact posR_ofQ (q := ((1 : Nat) : Rat)) (by decide)
  mul_lt_mul_of_pos_left := fun {a b c} h g => by
    rw [lt_def] at *
    rw [show c - 0 = c by grind] at g
    have := posR_mul g h
    rwa [show c * (b - a) = c * b - c * a by grind] at this
  mul_lt_mul_of_pos_right := fun {a b c} h g => by
    rw [lt_def] at *
    rw [show c - 0 = c by grind] at g
    have := posR_mul h g
    rwa [show (b - a) * c = b * c - a * c by grind] at this

example (a b c : Rl) (h : a < b) (g : b ≤ c) : a + 1 < c + 2 := by grind
example (a b c : Rl) : (a + b) * (a - b) + c = a * a - b * b + c := by grind
theorem mul_pos {a b : Rl} (h : 0 < a) (g : 0 < b) : 0 < a * b := by
  rw [zero_lt_iff] at *
  exact posR_mul h g
theorem mul_nonneg {a b : Rl} (h : 0 ≤ a) (g : 0 ≤ b) : 0 ≤ a * b := by
  by_cases h1 : a = 0
  · subst h1; grind
  · by_cases h2 : b = 0
    · subst h2; grind
    · have := mul_pos (a := a) (b := b) (by grind) (by grind)
      grind
theorem mul_self_nn (a : Rl) : 0 ≤ a * a := by
  rcases Std.le_total (a := (0 : Rl)) (b := a) with h | h
  · exact mul_nonneg h h
  · have := mul_nonneg (a := -a) (b := -a) (by grind) (by grind)
    grind
theorem mul_eq_zero {a b : Rl} (h : a * b = 0) : a = 0 ∨ b = 0 := by
  refine Classical.byContradiction fun hc => ?_
  have h1 : a ≠ 0 := fun e => hc (.inl e)
  have h2 : b ≠ 0 := fun e => hc (.inr e)
  have h3 : 0 < a ∨ 0 < -a := by grind
  have h4 : 0 < b ∨ 0 < -b := by grind
  rcases h3 with h3 | h3 <;> rcases h4 with h4 | h4 <;> (have := mul_pos h3 h4; grind)
theorem sq_zero {a : Rl} (h : a * a = 0) : a = 0 := by rcases mul_eq_zero h with h | h <;> exact h
theorem lt_of_sq {a b : Rl} (hb : 0 ≤ b) (h : a * a < b * b) : a < b := by
  refine Classical.byContradiction fun hc => ?_
  have h1 : b ≤ a := by grind
  have := mul_nonneg (a := a - b) (b := a + b) (by grind) (by grind)
  grind
theorem le_of_sq {a b : Rl} (hb : 0 ≤ b) (h : a * a ≤ b * b) : a ≤ b := by
  refine Classical.byContradiction fun hc => ?_
  have := mul_pos (a := a - b) (b := a + b) (by grind) (by grind)
  grind

/-! casts -/
theorem natCast_def (n : Nat) : (n : Rl) = ofQ (n : Rat) := rfl
theorem intCast_def (n : Int) : (n : Rl) = ofQ (n : Rat) := rfl
theorem nat_add (a b : Nat) : ((a + b : Nat) : Rl) = (a : Rl) + (b : Rl) := by
  rw [natCast_def, natCast_def, natCast_def, ← ofQ_add, Rat.natCast_add]
theorem nat_mul (a b : Nat) : ((a * b : Nat) : Rl) = (a : Rl) * (b : Rl) := by
  rw [natCast_def, natCast_def, natCast_def, ← ofQ_mul, Rat.natCast_mul]
theorem int_add (a b : Int) : ((a + b : Int) : Rl) = (a : Rl) + (b : Rl) := by
  rw [intCast_def, intCast_def, intCast_def, ← ofQ_add, Rat.intCast_add]
theorem int_mul (a b : Int) : ((a * b : Int) : Rl) = (a : Rl) * (b : Rl) := by
  rw [intCast_def, intCast_def, intCast_def, ← ofQ_mul, Rat.intCast_mul]
theorem int_neg (a : Int) : ((-a : Int) : Rl) = -(a : Rl) := by
  rw [intCast_def, intCast_def, ← ofQ_neg, Rat.intCast_neg]
theorem int_sub (a b : Int) : ((a - b : Int) : Rl) = (a : Rl) - (b : Rl) := by
  rw [show a - b = a + -b by omega, int_add, int_neg]; grind
theorem int_nat (a : Nat) : ((a : Int) : Rl) = (a : Rl) := by
  rw [intCast_def, natCast_def]; congr 1
theorem ofQ_lt {p q : Rat} (h : p < q) : ofQ p < ofQ q := by
  rw [lt_def, show ofQ q - ofQ p = ofQ (q + -p) from rfl]
  exact posR_ofQ (by grind)
theorem ofQ_le {p q : Rat} (h : p ≤ q) : ofQ p ≤ ofQ q := by
  by_cases e : p = q
  · subst e; exact Std.le_refl _
  · have := ofQ_lt (p := p) (q := q) (by grind)
    grind
theorem int_lt {a b : Int} : (a : Rl) < (b : Rl) ↔ a < b := by
  constructor
  · intro h
    refine Classical.byContradiction fun hc => ?_
    have := ofQ_le (Rat.intCast_le_intCast.mpr (show b ≤ a by omega))
    rw [← intCast_def, ← intCast_def] at this
    grind
  · intro h
    exact ofQ_lt (Rat.intCast_lt_intCast.mpr h)
theorem int_le {a b : Int} : (a : Rl) ≤ (b : Rl) ↔ a ≤ b := by
  have := int_lt (a := b) (b := a)
  constructor
  · intro h
    refine Classical.byContradiction fun hc => ?_
    have := this.mpr (by omega)
    grind
  · intro h
    refine Classical.byContradiction fun hc => ?_
    have := this.mp (by grind)
    omega
theorem int_inj {a b : Int} (h : (a : Rl) = (b : Rl)) : a = b := by
  have h1 := int_le (a := a) (b := b)
  have h2 := int_le (a := b) (b := a)
  rw [h] at h1 h2
  have h3 := h1.mp (Std.le_refl _)
  have h4 := h2.mp (Std.le_refl _)
  omega
theorem int_zero : ((0 : Int) : Rl) = 0 := rfl
theorem int_one : ((1 : Int) : Rl) = 1 := rfl
theorem nat_lt {a b : Nat} : (a : Rl) < (b : Rl) ↔ a < b := by
  rw [← int_nat, ← int_nat, int_lt]; omega
theorem nat_le {a b : Nat} : (a : Rl) ≤ (b : Rl) ↔ a ≤ b := by
  rw [← int_nat, ← int_nat, int_le]; omega
theorem nat_inj {a b : Nat} (h : (a : Rl) = (b : Rl)) : a = b := by
  rw [← int_nat, ← int_nat] at h
  have := int_inj h
  omega
theorem nat_zero : ((0 : Nat) : Rl) = 0 := rfl
theorem nat_one : ((1 : Nat) : Rl) = 1 := rfl
theorem nat_nn (a : Nat) : 0 ≤ (a : Rl) := by
  have := (nat_le (a := 0) (b := a)).mpr (Nat.zero_le _)
  rwa [nat_zero] at this
end TS
end
section
/-! square roots of naturals in the reals of TsReal -/
namespace TS
theorem isq_ex (n : Nat) : ∃ s, s * s ≤ n ∧ n < (s + 1) * (s + 1) := by
  induction n with
  | zero => exact ⟨0, by omega, by omega⟩
  | succ n ih =>
    obtain ⟨s, h1, h2⟩ := ih
    by_cases h : (s + 1) * (s + 1) ≤ n + 1
    · exact ⟨s + 1, h, by grind⟩
    · exact ⟨s, by omega, by omega⟩
noncomputable def isq (n : Nat) : Nat := Classical.choose (isq_ex n)
theorem isq_le (n : Nat) : isq n * isq n ≤ n := (Classical.choose_spec (isq_ex n)).1
theorem isq_lt (n : Nat) : n < (isq n + 1) * (isq n + 1) := (Classical.choose_spec (isq_ex n)).2
noncomputable def rtS (n : Nat) (k : Nat) : Rat := (isq (n * ((k + 1) * (k + 1))) : Rat) / ((k : Rat) + 1)
def dS (k : Nat) : Rat := 1 / ((k : Rat) + 1)
theorem rat_nn (k : Nat) : (0 : Rat) ≤ (k : Rat) := by
  have := Rat.intCast_le_intCast.mpr (show (0 : Int) ≤ (k : Int) by omega)
  exact this
theorem dS_pos (k : Nat) : 0 < dS k := by
  have := rat_nn k
  unfold dS
  rw [Rat.div_def, Rat.one_mul]
  exact Rat.inv_pos.mpr (by grind)
theorem ratnat_le {a b : Nat} (h : a ≤ b) : (a : Rat) ≤ (b : Rat) := Rat.intCast_le_intCast.mpr (show (a : Int) ≤ (b : Int) by omega)
theorem ratnat_lt {a b : Nat} (h : a < b) : (a : Rat) < (b : Rat) := Rat.intCast_lt_intCast.mpr (show (a : Int) < (b : Int) by omega)
theorem rtS_nn (n k : Nat) : 0 ≤ rtS n k := by
  have h := rat_nn (isq (n * ((k + 1) * (k + 1))))
  have d := dS_pos k
  unfold dS at d
  have : rtS n k = (isq (n * ((k + 1) * (k + 1))) : Rat) * (1 / ((k : Rat) + 1)) := by unfold rtS; grind
  rw [this]
  exact Rat.mul_nonneg h (by grind)
theorem rtS_sq (n k : Nat) : rtS n k * rtS n k ≤ n ∧ (n : Rat) < (rtS n k + dS k) * (rtS n k + dS k) := by
  have hk := rat_nn k
  have h1 := ratnat_le (isq_le (n * ((k + 1) * (k + 1))))
  have h2 := ratnat_lt (isq_lt (n * ((k + 1) * (k + 1))))
  have d := dS_pos k
  have dd := Rat.mul_pos d d
  unfold dS at d dd ⊢
  unfold rtS
  generalize isq (n * ((k + 1) * (k + 1))) = s at h1 h2
  rw [Rat.natCast_mul, Rat.natCast_mul, Rat.natCast_mul, Rat.natCast_add] at h1 h2
  rw [Rat.natCast_add] at h2
  have one : ((1 : Nat) : Rat) = 1 := rfl
  rw [one] at h1 h2
  have e : ((k : Rat) + 1) ≠ 0 := by grind
  generalize hd : (1 / ((k : Rat) + 1)) = z at d dd
  have hz : z * ((k : Rat) + 1) = 1 := by rw [← hd]; grind
  have q1 : (s : Rat) / ((k : Rat) + 1) = s * z := by rw [← hd]; grind
  rw [q1]
  constructor
  · have := Rat.mul_le_mul_of_nonneg_left h1 (c := z * z) (by grind)
    have e1 : z * z * ((n : Rat) * (((k : Rat) + 1) * ((k : Rat) + 1))) = n * ((z * ((k : Rat) + 1)) * (z * ((k : Rat) + 1))) := by grind
    rw [e1, hz] at this
    grind
  · have := Rat.mul_pos (a := z * z) (b := ((s : Rat) + 1) * ((s : Rat) + 1) - (n : Rat) * (((k : Rat) + 1) * ((k : Rat) + 1))) dd (by grind)
    have e1 : z * z * ((n : Rat) * (((k : Rat) + 1) * ((k : Rat) + 1))) = n * ((z * ((k : Rat) + 1)) * (z * ((k : Rat) + 1))) := by grind
    have e2 : z * z * (((s : Rat) + 1) * ((s : Rat) + 1) - (n : Rat) * (((k : Rat) + 1) * ((k : Rat) + 1))) = z * z * (((s : Rat) + 1) * ((s : Rat) + 1)) - z * z * ((n : Rat) * (((k : Rat) + 1) * ((k : Rat) + 1))) := by grind
    rw [e2, e1, hz] at this
    grind
theorem rat_lt_of_sq {a b : Rat} (hb : 0 ≤ b) (h : a * a < b * b) : a < b := by
  refine Classical.byContradiction fun hc => ?_
  have := Rat.mul_nonneg (a := a - b) (b := a + b) (by grind) (by grind)
  grind
theorem rtS_step (n k m : Nat) : rtS n k - rtS n m < dS m := by
  have h1 := (rtS_sq n k).1
  have h2 := (rtS_sq n m).2
  have h3 := rtS_nn n m
  have h4 := dS_pos m
  have := rat_lt_of_sq (a := rtS n k) (b := rtS n m + dS m) (by grind) (by grind)
  grind
theorem dS_small {e : Rat} (he : 0 < e) : ∃ N, ∀ n, N ≤ n → dS n < e := by
  refine ⟨(1 / e).ceil.toNat + 1, fun n hn => ?_⟩
  have h1 := Rat.le_ceil (x := 1 / e)
  have h2 : (1 / e) < ((n : Int) : Rat) := by
    have h3 : (1 / e).ceil < (n : Int) := by omega
    have := Rat.intCast_lt_intCast.mpr h3
    grind
  have h4 : ((n : Int) : Rat) = (n : Rat) := rfl
  rw [h4] at h2
  have h5 := rat_nn n
  unfold dS
  have e0 : e ≠ 0 := by grind
  have e1 : (n : Rat) + 1 ≠ 0 := by grind
  have h6 := Rat.mul_pos (a := e) (b := (n : Rat) - 1 / e) he (by grind)
  have h7 : e * ((n : Rat) - 1 / e) = e * n - 1 := by grind
  rw [h7] at h6
  have d := dS_pos n
  unfold dS at d
  generalize hd : (1 / ((n : Rat) + 1)) = z at d
  have hz : z * ((n : Rat) + 1) = 1 := by rw [← hd]; grind
  have h8 := Rat.mul_pos (a := z) (b := e * ((n : Rat) + 1) - 1) d (by grind)
  have h9 : z * (e * ((n : Rat) + 1) - 1) = e * (z * ((n : Rat) + 1)) - z := by grind
  rw [h9, hz] at h8
  grind
theorem cau_rt (n : Nat) : Cau (rtS n) := fun e he => by
  obtain ⟨N, hN⟩ := dS_small he
  refine ⟨N, fun m k hm hk => ?_⟩
  have a := rtS_step n m k
  have b := hN k hk
  grind
noncomputable def rt (n : Nat) : Rl := mkR (rtS n) (cau_rt n)
theorem rt_nn (n : Nat) : 0 ≤ rt n := by
  rw [le_def]
  intro h
  obtain ⟨e, he, N, hN⟩ := (show Pos (fun k => ((0 : Nat) : Rat) + - rtS n k) from h)
  have := hN N (Nat.le_refl _)
  have := rtS_nn n N
  grind
theorem rt_sq (n : Nat) : rt n * rt n = (n : Rl) := by
  refine mk_eq (fun e he => ?_)
  obtain ⟨B, hB, M, hM⟩ := (cau_rt n).bnd
  obtain ⟨N, hN⟩ := dS_small (e := e / (2 * B + 1)) (by rw [Rat.div_def]; exact Rat.mul_pos he (Rat.inv_pos.mpr (by grind)))
  obtain ⟨N2, hN2⟩ := dS_small (e := 1) (by grind)
  refine ⟨max (max N M) N2, fun k hk => ?_⟩
  have a := hN k (by omega)
  have b := hM k (by omega)
  have c := rtS_sq n k
  have d := dS_pos k
  have d1 := hN2 k (by omega)
  have p := Rat.mul_pos (a := dS k) (b := B - rtS n k) d (by grind)
  have q := Rat.mul_pos (a := dS k) (b := 1 - dS k) d (by grind)
  have r := Rat.mul_pos (a := 2 * B + 1) (b := e / (2 * B + 1) - dS k) (by grind) (by grind)
  have e0 : 2 * B + 1 ≠ 0 := by grind
  have e1 : (2 * B + 1) * (e / (2 * B + 1) - dS k) = e - (2 * B + 1) * dS k := by grind
  rw [e1] at r
  show -e < rtS n k * rtS n k - (n : Rat) ∧ rtS n k * rtS n k - (n : Rat) < e
  constructor <;> grind
theorem rt_pos {n : Nat} (h : 0 < n) : 0 < rt n := by
  have h1 := rt_nn n
  have h2 := rt_sq n
  have h3 := (nat_lt (a := 0) (b := n)).mpr h
  rw [nat_zero] at h3
  by_cases e : rt n = 0
  · rw [e] at h2
    grind
  · grind
theorem rt_unique {n : Nat} {x : Rl} (h0 : 0 ≤ x) (h : x * x = (n : Rl)) : x = rt n := by
  have h1 := rt_nn n
  have h2 := rt_sq n
  have a := le_of_sq (a := x) (b := rt n) h1 (by grind)
  have b := le_of_sq (a := rt n) (b := x) h0 (by grind)
  grind
theorem rt_mul (a b : Nat) : rt (a * b) = rt a * rt b := by
  refine (rt_unique (mul_nonneg (rt_nn a) (rt_nn b)) ?_).symm
  have h1 := rt_sq a
  have h2 := rt_sq b
  rw [nat_mul]
  grind
theorem rt_square (a : Nat) : rt (a * a) = (a : Rl) := (rt_unique (nat_nn a) (nat_mul a a).symm).symm
theorem rt_one : rt 1 = 1 := by
  have := rt_square 1
  rwa [nat_one] at this
theorem rt_zero : rt 0 = 0 := by
  have := rt_square 0
  rwa [nat_zero] at this
theorem rt_le {a b : Nat} (h : a ≤ b) : rt a ≤ rt b := by
  refine le_of_sq (rt_nn b) ?_
  rw [rt_sq, rt_sq]
  exact nat_le.mpr h
theorem rt_lt {a b : Nat} (h : a < b) : rt a < rt b := by
  refine lt_of_sq (rt_nn b) ?_
  rw [rt_sq, rt_sq]
  exact nat_lt.mpr h
/-- the interval of a floor root -/
theorem rt_floor {n t : Nat} (h1 : t * t ≤ n) (h2 : n < (t + 1) * (t + 1)) : (t : Rl) ≤ rt n ∧ rt n < (t : Rl) + 1 := by
  constructor
  · rw [← rt_square]
    exact rt_le h1
  · have := rt_lt h2
    rw [rt_square, nat_add, nat_one] at this
    exact this
end TS
end
section
/-! square roots of distinct naturals without square divisors are linearly independent over the integers -/
namespace TS
def Sqf (n : Nat) : Prop := 0 < n ∧ ∀ d, d * d ∣ n → d = 1
def Pr (p : Nat) : Prop := 1 < p ∧ ∀ d, d ∣ p → d = 1 ∨ d = p
theorem ex_prime : ∀ n : Nat, 1 < n → ∃ q, Pr q ∧ q ∣ n := by
  intro n
  induction n using Nat.strongRecOn with
  | ind n ih =>
    intro h
    by_cases hp : Pr n
    · exact ⟨n, hp, Nat.dvd_refl n⟩
    · have : ∃ d, d ∣ n ∧ ¬ (d = 1 ∨ d = n) := by
        refine Classical.byContradiction fun hc => hp ⟨h, fun d hd => ?_⟩
        refine Classical.byContradiction fun hx => hc ⟨d, hd, hx⟩
      obtain ⟨d, hd, hx⟩ := this
      have h1 := Nat.le_of_dvd (by omega) hd
      have h2 : 0 < d := Nat.pos_of_dvd_of_pos hd (by omega)
      obtain ⟨q, hq, hqd⟩ := ih d (by omega) (by omega)
      exact ⟨q, hq, Nat.dvd_trans hqd hd⟩
theorem Pr.cop {p a : Nat} (h : Pr p) (ha : ¬ p ∣ a) : Nat.Coprime p a := by
  rcases h.2 (Nat.gcd p a) (Nat.gcd_dvd_left p a) with e | e
  · exact e
  · exact (ha (e ▸ Nat.gcd_dvd_right p a)).elim
theorem Pr.dvd_mul {p a b : Nat} (h : Pr p) (hd : p ∣ a * b) : p ∣ a ∨ p ∣ b := by
  by_cases ha : p ∣ a
  · exact .inl ha
  · exact .inr (Nat.Coprime.dvd_of_dvd_mul_left (h.cop ha) hd)
theorem Pr.sqf {p : Nat} (h : Pr p) : Sqf p := by
  refine ⟨by have := h.1; omega, fun d hd => ?_⟩
  have h1 : d ∣ p := Nat.dvd_trans (Nat.dvd_mul_right d d) hd
  rcases h.2 d h1 with e | e
  · exact e
  · subst e
    have h2 := Nat.le_of_dvd (by have := h.1; omega) hd
    have h3 := h.1
    have h4 : d * 2 ≤ d * d := Nat.mul_le_mul_left d h3
    omega
theorem sqf_one : Sqf 1 := ⟨by omega, fun d hd => by
  have := Nat.eq_one_of_dvd_one hd
  exact Nat.eq_one_of_mul_eq_one_left this⟩
theorem sqf_of_prime {n : Nat} (h0 : 0 < n) (h : ∀ q, Pr q → ¬ q * q ∣ n) : Sqf n := by
  refine ⟨h0, fun d hd => ?_⟩
  refine Classical.byContradiction fun hc => ?_
  have hd0 : 0 < d := by
    rcases Nat.eq_zero_or_pos d with e | e
    · subst e
      have := Nat.eq_zero_of_zero_dvd (by simpa using hd)
      omega
    · exact e
  obtain ⟨q, hq, hqd⟩ := ex_prime d (by omega)
  exact h q hq (Nat.dvd_trans (Nat.mul_dvd_mul hqd hqd) hd)
theorem Sqf.dvd {n m : Nat} (h : Sqf n) (hd : m ∣ n) : Sqf m :=
  ⟨Nat.pos_of_dvd_of_pos hd h.1, fun d hx => h.2 d (Nat.dvd_trans hx hd)⟩
theorem Sqf.mul_pr {m p : Nat} (h : Sqf m) (hp : Pr p) (hn : ¬ p ∣ m) : Sqf (m * p) := by
  refine sqf_of_prime (Nat.mul_pos h.1 (by have := hp.1; omega)) fun q hq hd => ?_
  by_cases e : q = p
  · subst e
    exact hn (Nat.dvd_of_mul_dvd_mul_right (by have := hq.1; omega) hd)
  · have hqp : ¬ q ∣ p := fun hx => by
      rcases hp.2 q hx with e1 | e1
      · have := hq.1; omega
      · exact e e1
    have c : Nat.Coprime (q * q) p := Nat.Coprime.mul_left (hq.cop hqp) (hq.cop hqp)
    have := Nat.Coprime.dvd_of_dvd_mul_right c hd
    have := h.2 q this
    have := hq.1
    omega
/-- coprime parts -/
theorem Sqf.mul {m n : Nat} (h : Sqf m) (g : Sqf n) (c : Nat.Coprime m n) : Sqf (m * n) := by
  refine sqf_of_prime (Nat.mul_pos h.1 g.1) fun q hq hd => ?_
  have hq1 := hq.1
  rcases hq.dvd_mul (Nat.dvd_trans (Nat.dvd_mul_right q q) hd) with e | e
  · have e2 : ¬ q ∣ n := fun x => by
      have := Nat.dvd_gcd e x
      rw [c] at this
      have := Nat.eq_one_of_dvd_one this
      omega
    have c2 : Nat.Coprime (q * q) n := Nat.Coprime.mul_left (hq.cop e2) (hq.cop e2)
    have := h.2 q (Nat.Coprime.dvd_of_dvd_mul_right c2 hd)
    omega
  · have e2 : ¬ q ∣ m := fun x => by
      have := Nat.dvd_gcd x e
      rw [c] at this
      have := Nat.eq_one_of_dvd_one this
      omega
    have c2 : Nat.Coprime (q * q) m := Nat.Coprime.mul_left (hq.cop e2) (hq.cop e2)
    have := g.2 q (Nat.Coprime.dvd_of_dvd_mul_left c2 hd)
    omega
theorem base_nat {m d x : Nat} (hm : Sqf m) (h1 : 1 < m) (h : m * (d * d) = x * x) : d = 0 := by
  refine Classical.byContradiction fun hc => ?_
  have hg : 0 < Nat.gcd d x := Nat.gcd_pos_of_pos_left _ (by omega)
  obtain ⟨g, d', x', hg', hcop, e1, e2⟩ : ∃ g d' x' : Nat, 0 < g ∧ Nat.Coprime d' x' ∧ d = d' * g ∧ x = x' * g :=
    ⟨Nat.gcd d x, d / Nat.gcd d x, x / Nat.gcd d x, hg, Nat.coprime_div_gcd_div_gcd hg, (Nat.div_mul_cancel (Nat.gcd_dvd_left d x)).symm, (Nat.div_mul_cancel (Nat.gcd_dvd_right d x)).symm⟩
  subst e1 e2
  have h2 : (g * g) * (m * (d' * d')) = (g * g) * (x' * x') := by grind
  have h3 : m * (d' * d') = x' * x' := Nat.eq_of_mul_eq_mul_left (Nat.mul_pos hg' hg') h2
  have h4 : d' ∣ x' := Nat.Coprime.dvd_of_dvd_mul_left hcop (by rw [← h3]; exact Nat.dvd_trans (Nat.dvd_mul_right d' d') (Nat.dvd_mul_left _ _))
  have h5 : d' = 1 := Nat.eq_one_of_dvd_one (by rw [← show Nat.gcd d' x' = 1 from hcop]; exact Nat.dvd_gcd (Nat.dvd_refl _) h4)
  subst h5
  have h6 : m = x' * x' := by omega
  have h7 := hm.2 x' (by rw [h6]; exact Nat.dvd_refl _)
  subst h7
  omega
def InK : List Nat → Rl → Prop
  | [], x => ∃ i : Int, x = (i : Rl)
  | p :: ps, x => ∃ a b, InK ps a ∧ InK ps b ∧ x = a + b * rt p
theorem inK_int : ∀ (ps : List Nat) (i : Int), InK ps (i : Rl)
  | [], i => ⟨i, rfl⟩
  | p :: ps, i => ⟨(i : Rl), ((0 : Int) : Rl), inK_int ps i, inK_int ps 0, by rw [int_zero]; grind⟩
theorem InK.add : ∀ {ps : List Nat} {x y : Rl}, InK ps x → InK ps y → InK ps (x + y)
  | [], _, _, ⟨i, e⟩, ⟨j, f⟩ => ⟨i + j, by rw [int_add, e, f]⟩
  | p :: ps, _, _, ⟨a, b, ha, hb, e⟩, ⟨c, d, hc, hd, f⟩ => ⟨a + c, b + d, ha.add hc, hb.add hd, by rw [e, f]; grind⟩
theorem InK.mul : ∀ {ps : List Nat} {x y : Rl}, InK ps x → InK ps y → InK ps (x * y)
  | [], _, _, ⟨i, e⟩, ⟨j, f⟩ => ⟨i * j, by rw [int_mul, e, f]⟩
  | p :: ps, _, _, ⟨a, b, ha, hb, e⟩, ⟨c, d, hc, hd, f⟩ => by
    refine ⟨a * c + b * d * ((p : Int) : Rl), a * d + b * c, (ha.mul hc).add ((hb.mul hd).mul (inK_int ps p)), (ha.mul hd).add (hb.mul hc), ?_⟩
    have := rt_sq p
    rw [e, f, int_nat]
    grind
theorem InK.neg {ps : List Nat} {x : Rl} (h : InK ps x) : InK ps (-x) := by
  have := (inK_int ps (-1)).mul h
  rwa [show ((-1 : Int) : Rl) * x = -x by rw [int_neg, int_one]; grind] at this
theorem InK.sub {ps : List Nat} {x y : Rl} (h : InK ps x) (g : InK ps y) : InK ps (x - y) := by
  have := h.add g.neg
  rwa [show x + -y = x - y by grind] at this
theorem inK_nat (ps : List Nat) (n : Nat) : InK ps (n : Rl) := by
  rw [← int_nat]
  exact inK_int ps n
theorem alg1 {u v s q w : Rl} (k : w = (u + v * s) * (u + v * s)) (sp : s * s = q) : w - u * u - q * (v * v) = 2 * (u * v) * s := by grind
theorem alg2 {u v s q : Rl} (sp : s * s = q) : q * ((2 * (u * v)) * (2 * (u * v))) = (2 * (u * v) * s) * (2 * (u * v) * s) := by grind
theorem alg3 {d d1 d2 s q N : Rl} (ed : d = d1 + d2 * s) (eN : d1 * d1 - q * (d2 * d2) = N) (sp : s * s = q) : N = d * (d1 - d2 * s) := by grind
theorem alg4 {x x1 x2 d1 d2 s q u v : Rl} (ex : x = x1 + x2 * s) (eu : x1 * d1 - q * (x2 * d2) = u) (ev : x2 * d1 - x1 * d2 = v) (sp : s * s = q) : u + v * s = x * (d1 - d2 * s) := by grind
theorem alg5 {m d x t : Rl} (h : m * (d * d) = x * x) : m * ((d * t) * (d * t)) = (x * t) * (x * t) := by grind
theorem alg6 {a : Rl} (h : 2 * a = 0) : a = 0 := by grind
theorem alg7 {m q s N u v : Rl} (k : m * (N * N) = (u + v * s) * (u + v * s)) (sp : s * s = q) (e : u = 0) : m * q * (N * N) = (q * v) * (q * v) := by grind
theorem alg8 {m s N u v : Rl} (k : m * (N * N) = (u + v * s) * (u + v * s)) (e : v = 0) : m * (N * N) = u * u := by grind
theorem alg9 {q d1 d2 N : Rl} (eN : d1 * d1 - q * (d2 * d2) = N) (e : N = 0) : q * (d2 * d2) = d1 * d1 := by grind
theorem alg10 {q d1 d2 N : Rl} (eN : d1 * d1 - q * (d2 * d2) = N) (e : N = 0) (e2 : d2 = 0) : d1 * d1 = 0 := by grind
theorem alg11 {s : Rl} : (0 : Rl) + 0 * s = 0 := by grind
theorem main_S : ∀ (ps : List Nat), (∀ p ∈ ps, Pr p) → ps.Nodup → ∀ m : Nat, Sqf m → 1 < m → (∀ p ∈ ps, ¬ p ∣ m) → ∀ x d, InK ps x → InK ps d → (m : Rl) * (d * d) = x * x → d = 0
  | [], _, _, m, hm, h1, _, x, d, ⟨i, ei⟩, ⟨j, ej⟩, h => by
    rw [ei, ej, ← int_nat, ← int_mul, ← int_mul, ← int_mul] at h
    have h2 := int_inj h
    have h3 : m * (j.natAbs * j.natAbs) = i.natAbs * i.natAbs := by
      have := congrArg Int.natAbs h2
      rwa [Int.natAbs_mul, Int.natAbs_mul, Int.natAbs_mul, Int.natAbs_natCast] at this
    have h4 := base_nat hm h1 h3
    have h5 : j = 0 := by omega
    rw [ej, h5, int_zero]
  | p :: ps, hps, nd, m, hm, h1, hdv, x, d, ⟨x1, x2, hx1, hx2, ex⟩, ⟨d1, d2, hd1, hd2, ed⟩, h => by
    have hp : Pr p := hps p (List.mem_cons_self ..)
    have hps' : ∀ q ∈ ps, Pr q := fun q hq => hps q (List.mem_cons_of_mem _ hq)
    obtain ⟨hpn, nd'⟩ := List.nodup_cons.mp nd
    have ih := main_S ps hps' nd'
    have hpp : ∀ q ∈ ps, ¬ q ∣ p := fun q hq hd => by
      rcases hp.2 q hd with e | e
      · have := (hps' q hq).1; omega
      · subst e; exact hpn hq
    have sp := rt_sq p
    have pp : 0 < rt p := rt_pos (by have := hp.1; omega)
    -- N = d1² − p d2²
    have hN : InK ps (d1 * d1 - (p : Rl) * (d2 * d2)) := (hd1.mul hd1).sub ((inK_nat ps p).mul (hd2.mul hd2))
    have hu : InK ps (x1 * d1 - (p : Rl) * (x2 * d2)) := (hx1.mul hd1).sub ((inK_nat ps p).mul (hx2.mul hd2))
    have hv : InK ps (x2 * d1 - x1 * d2) := (hx2.mul hd1).sub (hx1.mul hd2)
    generalize eN : d1 * d1 - (p : Rl) * (d2 * d2) = N at hN
    generalize eu : x1 * d1 - (p : Rl) * (x2 * d2) = u at hu
    generalize ev : x2 * d1 - x1 * d2 = v at hv
    have k1 : (m : Rl) * (N * N) = (u + v * rt p) * (u + v * rt p) := by
      rw [alg3 ed eN sp, alg4 ex eu ev sp]
      exact alg5 h
    have k2 : (p : Rl) * ((2 * (u * v)) * (2 * (u * v))) = ((m : Rl) * (N * N) - u * u - (p : Rl) * (v * v)) * ((m : Rl) * (N * N) - u * u - (p : Rl) * (v * v)) := by
      rw [alg1 k1 sp]
      exact alg2 sp
    have two : InK ps (2 : Rl) := inK_nat ps 2
    have k3 := ih p hp.sqf hp.1 hpp _ _ (((inK_nat ps m).mul (hN.mul hN)).sub (hu.mul hu) |>.sub ((inK_nat ps p).mul (hv.mul hv))) (two.mul (hu.mul hv)) k2
    have k4 : u * v = 0 := alg6 k3
    have hN0 : N = 0 := by
      rcases mul_eq_zero k4 with e | e
      · have hmp : Sqf (m * p) := hm.mul_pr hp (hdv p (List.mem_cons_self ..))
        refine ih (m * p) hmp ?_ ?_ ((p : Rl) * v) N ((inK_nat ps p).mul hv) hN ?_
        · have := hp.1
          have : 1 * 1 < m * p := Nat.mul_lt_mul'' h1 hp.1
          omega
        · intro q hq hd
          rcases (hps' q hq).dvd_mul hd with e2 | e2
          · exact hdv q (List.mem_cons_of_mem _ hq) e2
          · exact hpp q hq e2
        · rw [nat_mul]
          exact alg7 k1 sp e
      · exact ih m hm h1 (fun q hq => hdv q (List.mem_cons_of_mem _ hq)) u N hu hN (alg8 k1 e)
    have hd20 : d2 = 0 := ih p hp.sqf hp.1 hpp d1 d2 hd1 hd2 (alg9 eN hN0)
    have hd10 : d1 = 0 := sq_zero (alg10 eN hN0 hd20)
    rw [ed, hd10, hd20]
    exact alg11
/-- the value of a sum: pairs (radicand, factor) -/
noncomputable def sv : List (Nat × Int) → Rl
  | [] => 0
  | t :: l => (t.2 : Rl) * rt t.1 + sv l
theorem rt_inK : ∀ (ps : List Nat), (∀ p ∈ ps, Pr p) → ∀ r, Sqf r → (∀ q, Pr q → q ∣ r → q ∈ ps) → InK ps (rt r)
  | [], _, r, hr, h => by
    have : r = 1 := by
      refine Classical.byContradiction fun hc => ?_
      obtain ⟨q, hq, hd⟩ := ex_prime r (by have := hr.1; omega)
      exact absurd (h q hq hd) (by simp)
    subst this
    rw [rt_one, ← int_one]
    exact inK_int [] 1
  | p :: ps, hps, r, hr, h => by
    have hp : Pr p := hps p (List.mem_cons_self ..)
    have hps' : ∀ q ∈ ps, Pr q := fun q hq => hps q (List.mem_cons_of_mem _ hq)
    by_cases hd : p ∣ r
    · obtain ⟨r', e⟩ := hd
      have hr' : Sqf r' := hr.dvd ⟨p, by rw [e, Nat.mul_comm]⟩
      have hpr : ¬ p ∣ r' := fun ⟨t, ht⟩ => by
        have := hr.2 p ⟨t, by rw [e, ht, Nat.mul_assoc]⟩
        have := hp.1
        omega
      refine ⟨0, rt r', (by rw [← int_zero]; exact inK_int ps 0), rt_inK ps hps' r' hr' (fun q hq hqd => ?_), ?_⟩
      · have := h q hq (Nat.dvd_trans hqd ⟨p, by rw [e, Nat.mul_comm]⟩)
        rcases List.mem_cons.mp this with e2 | e2
        · subst e2; exact (hpr hqd).elim
        · exact e2
      · rw [e, rt_mul]; grind
    · refine ⟨rt r, 0, rt_inK ps hps' r hr (fun q hq hqd => ?_), (by rw [← int_zero]; exact inK_int ps 0), by grind⟩
      have := h q hq hqd
      rcases List.mem_cons.mp this with e2 | e2
      · subst e2; exact (hd hqd).elim
      · exact e2
theorem sv_inK {ps : List Nat} (hps : ∀ p ∈ ps, Pr p) : ∀ l : List (Nat × Int), (∀ t ∈ l, Sqf t.1 ∧ ∀ q, Pr q → q ∣ t.1 → q ∈ ps) → InK ps (sv l)
  | [], _ => by
    show InK ps 0
    rw [← int_zero]
    exact inK_int ps 0
  | t :: l, h => by
    have h1 := h t (List.mem_cons_self ..)
    exact ((inK_int ps t.2).mul (rt_inK ps hps t.1 h1.1 h1.2)).add (sv_inK hps l fun u hu => h u (List.mem_cons_of_mem _ hu))
open Classical in
theorem sv_split (p : Nat) : ∀ l : List (Nat × Int), sv l = sv (l.filter fun t => decide (¬ p ∣ t.1)) + rt p * sv ((l.filter fun t => decide (p ∣ t.1)).map fun t => (t.1 / p, t.2))
  | [] => by
    show (0 : Rl) = 0 + rt p * 0
    grind
  | t :: l => by
    have ih := sv_split p l
    by_cases h : p ∣ t.1
    · have e1 : (t :: l).filter (fun t => decide (¬ p ∣ t.1)) = l.filter (fun t => decide (¬ p ∣ t.1)) := List.filter_cons_of_neg (by simp [h])
      have e2 : (t :: l).filter (fun t => decide (p ∣ t.1)) = t :: l.filter (fun t => decide (p ∣ t.1)) := List.filter_cons_of_pos (by simp [h])
      rw [e1, e2]
      show (t.2 : Rl) * rt t.1 + sv l = _ + rt p * ((t.2 : Rl) * rt (t.1 / p) + sv _)
      have e3 : rt t.1 = rt p * rt (t.1 / p) := by rw [← rt_mul, Nat.mul_div_cancel' h]
      rw [e3, ih]
      grind
    · have e1 : (t :: l).filter (fun t => decide (¬ p ∣ t.1)) = t :: l.filter (fun t => decide (¬ p ∣ t.1)) := List.filter_cons_of_pos (by simp [h])
      have e2 : (t :: l).filter (fun t => decide (p ∣ t.1)) = l.filter (fun t => decide (p ∣ t.1)) := List.filter_cons_of_neg (by simp [h])
      rw [e1, e2]
      show (t.2 : Rl) * rt t.1 + sv l = ((t.2 : Rl) * rt t.1 + sv _) + _
      rw [ih]
      grind
open Classical in
theorem indep_ps : ∀ (ps : List Nat), (∀ p ∈ ps, Pr p) → ps.Nodup → ∀ l : List (Nat × Int), (∀ t ∈ l, Sqf t.1 ∧ ∀ q, Pr q → q ∣ t.1 → q ∈ ps) → (l.map (·.1)).Nodup → sv l = 0 → ∀ t ∈ l, t.2 = 0
  | [], _, _, l, h, nd, hs, t, ht => by
    have one : ∀ u ∈ l, u.1 = 1 := fun u hu => by
      obtain ⟨h1, h2⟩ := h u hu
      refine Classical.byContradiction fun hc => ?_
      obtain ⟨q, hq, hd⟩ := ex_prime u.1 (by have := h1.1; omega)
      exact absurd (h2 q hq hd) (by simp)
    match l, ht with
    | [u], ht =>
      have e : t = u := by simpa using ht
      subst e
      have h1 : (t.2 : Rl) * rt t.1 + 0 = 0 := hs
      rw [one t (by simp), rt_one] at h1
      have h2 : (t.2 : Rl) = 0 := by grind
      rw [← int_zero] at h2
      exact int_inj h2
    | u :: v :: r, _ =>
      exfalso
      have h1 := one u (by simp)
      have h2 := one v (by simp)
      simp [h1, h2] at nd
  | p :: ps, hps, ndp, l, h, nd, hs, t, ht => by
    have hp : Pr p := hps p (List.mem_cons_self ..)
    have hps' : ∀ q ∈ ps, Pr q := fun q hq => hps q (List.mem_cons_of_mem _ hq)
    obtain ⟨hpn, nd'⟩ := List.nodup_cons.mp ndp
    have hpp : ∀ q ∈ ps, ¬ q ∣ p := fun q hq hd => by
      rcases hp.2 q hd with e | e
      · have := (hps' q hq).1; omega
      · subst e; exact hpn hq
    rw [sv_split p l] at hs
    generalize eA : (l.filter fun t => decide (¬ p ∣ t.1)) = A at hs
    generalize eB : ((l.filter fun t => decide (p ∣ t.1)).map fun t => (t.1 / p, t.2)) = B at hs
    have hA : ∀ u ∈ A, Sqf u.1 ∧ ∀ q, Pr q → q ∣ u.1 → q ∈ ps := fun u hu => by
      rw [← eA] at hu
      obtain ⟨hu1, hu2⟩ := List.mem_filter.mp hu
      have hu3 : ¬ p ∣ u.1 := of_decide_eq_true hu2
      refine ⟨(h u hu1).1, fun q hq hd => ?_⟩
      rcases List.mem_cons.mp ((h u hu1).2 q hq hd) with e | e
      · subst e; exact (hu3 hd).elim
      · exact e
    have hB : ∀ u ∈ B, Sqf u.1 ∧ ∀ q, Pr q → q ∣ u.1 → q ∈ ps := fun u hu => by
      rw [← eB] at hu
      obtain ⟨w, hw, e⟩ := List.mem_map.mp hu
      obtain ⟨hu1, hu2⟩ := List.mem_filter.mp hw
      have hu3 : p ∣ w.1 := of_decide_eq_true hu2
      subst e
      have hdv : w.1 / p ∣ w.1 := ⟨p, (Nat.div_mul_cancel hu3).symm⟩
      refine ⟨(h w hu1).1.dvd hdv, fun q hq hd => ?_⟩
      rcases List.mem_cons.mp ((h w hu1).2 q hq (Nat.dvd_trans hd hdv)) with e | e
      · subst e
        exfalso
        obtain ⟨k, hk⟩ := hd
        have hk : w.1 / q = q * k := hk
        have e1 : w.1 = q * q * k := by
          rw [Nat.mul_assoc, ← hk, Nat.mul_div_cancel' hu3]
        have := (h w hu1).1.2 q ⟨k, e1⟩
        have := hq.1
        omega
      · exact e
    have kA := sv_inK hps' A hA
    have kB := sv_inK hps' B hB
    have sp := rt_sq p
    have b0 : sv B = 0 := by
      refine main_S ps hps' nd' p hp.sqf hp.1 hpp (sv A) (sv B) kA kB ?_
      have : sv A = -(rt p * sv B) := by grind
      rw [this]
      grind
    have a0 : sv A = 0 := by rw [b0] at hs; grind
    have ndA : (A.map (·.1)).Nodup := by
      rw [← eA]
      exact List.Pairwise.sublist (List.Sublist.map _ List.filter_sublist) nd
    have ndB : (B.map (·.1)).Nodup := by
      rw [← eB]
      have n1 : ((l.filter fun t => decide (p ∣ t.1)).map (·.1)).Nodup := List.Pairwise.sublist (List.Sublist.map _ List.filter_sublist) nd
      rw [List.map_map]
      rw [List.Nodup, List.pairwise_map] at n1 ⊢
      refine List.Pairwise.imp_of_mem (fun {a b} ha hb hne e => hne ?_) n1
      have ha2 : p ∣ a.1 := of_decide_eq_true (List.mem_filter.mp ha).2
      have hb2 : p ∣ b.1 := of_decide_eq_true (List.mem_filter.mp hb).2
      have e : a.1 / p = b.1 / p := e
      rw [← Nat.div_mul_cancel ha2, ← Nat.div_mul_cancel hb2, e]
    by_cases hd : p ∣ t.1
    · have ht' : (t.1 / p, t.2) ∈ B := by
        rw [← eB]
        exact List.mem_map.mpr ⟨t, List.mem_filter.mpr ⟨ht, decide_eq_true hd⟩, rfl⟩
      have := indep_ps ps hps' nd' B hB ndB b0 (t.1 / p, t.2) ht'
      exact this
    · have ht' : t ∈ A := by
        rw [← eA]
        exact List.mem_filter.mpr ⟨ht, decide_eq_true hd⟩
      exact indep_ps ps hps' nd' A hA ndA a0 _ ht'
theorem le_foldr_max : ∀ (l : List (Nat × Int)) (t : Nat × Int), t ∈ l → t.1 ≤ l.foldr (fun u m => max u.1 m) 0
  | u :: l, t, h => by
    rw [List.foldr_cons]
    rcases List.mem_cons.mp h with e | e
    · subst e; omega
    · have := le_foldr_max l t e; omega
open Classical in
/-- distinct radicands without squares: a sum is 0 only if all its factors are -/
theorem indep (l : List (Nat × Int)) (h : ∀ t ∈ l, Sqf t.1) (nd : (l.map (·.1)).Nodup) (hs : sv l = 0) : ∀ t ∈ l, t.2 = 0 := by
  refine indep_ps ((List.range (l.foldr (fun u m => max u.1 m) 0 + 1)).filter fun q => decide (Pr q)) ?_ ?_ l (fun t ht => ⟨h t ht, fun q hq hd => ?_⟩) nd hs
  · intro p hp
    exact of_decide_eq_true (List.mem_filter.mp hp).2
  · exact List.Pairwise.sublist List.filter_sublist List.nodup_range
  · refine List.mem_filter.mpr ⟨List.mem_range.mpr ?_, decide_eq_true hq⟩
    have h1 := Nat.le_of_dvd (h t ht).1 hd
    have h2 := le_foldr_max l t ht
    omega
end TS
end
section
/-! a sum of square roots that is not 0 is not too near to 0 -/
namespace TS
def Ab (a A : Rl) : Prop := -A ≤ a ∧ a ≤ A
theorem Ab.nn {a A : Rl} (h : Ab a A) : 0 ≤ A := by
  obtain ⟨h1, h2⟩ := h
  grind
theorem Ab.mul {a b A B : Rl} (h : Ab a A) (g : Ab b B) : Ab (a * b) (A * B) := by
  obtain ⟨h1, h2⟩ := h
  obtain ⟨g1, g2⟩ := g
  have p1 := mul_nonneg (a := A - a) (b := B + b) (by grind) (by grind)
  have p2 := mul_nonneg (a := A + a) (b := B - b) (by grind) (by grind)
  have p3 := mul_nonneg (a := A - a) (b := B - b) (by grind) (by grind)
  have p4 := mul_nonneg (a := A + a) (b := B + b) (by grind) (by grind)
  constructor <;> grind
theorem Ab.add {a b A B : Rl} (h : Ab a A) (g : Ab b B) : Ab (a + b) (A + B) := by
  obtain ⟨h1, h2⟩ := h
  obtain ⟨g1, g2⟩ := g
  constructor <;> grind
theorem Ab.neg {a A : Rl} (h : Ab a A) : Ab (-a) A := by
  obtain ⟨h1, h2⟩ := h
  constructor <;> grind
theorem Ab.sub {a b A B : Rl} (h : Ab a A) (g : Ab b B) : Ab (a - b) (A + B) := by
  obtain ⟨h1, h2⟩ := h
  obtain ⟨g1, g2⟩ := g
  constructor <;> grind
theorem Ab.mono {a A B : Rl} (h : Ab a A) (g : A ≤ B) : Ab a B := by
  obtain ⟨h1, h2⟩ := h
  constructor <;> grind
/-- functions that are polynomials over the integers -/
inductive ZP : (Rl → Rl) → Prop
  | const (i : Int) : ZP (fun _ => (i : Rl))
  | idp : ZP (fun x => x)
  | add {f g : Rl → Rl} : ZP f → ZP g → ZP (fun x => f x + g x)
  | mul {f g : Rl → Rl} : ZP f → ZP g → ZP (fun x => f x * g x)
theorem ZP.congr {f g : Rl → Rl} (h : ZP f) (e : ∀ x, g x = f x) : ZP g := by
  have : g = f := funext e
  rw [this]
  exact h
theorem ZP.int {f : Rl → Rl} (h : ZP f) (k : Int) : ∃ j : Int, f (k : Rl) = (j : Rl) := by
  induction h with
  | const i => exact ⟨i, rfl⟩
  | idp => exact ⟨k, rfl⟩
  | add _ _ ih1 ih2 =>
    obtain ⟨a, ha⟩ := ih1
    obtain ⟨b, hb⟩ := ih2
    exact ⟨a + b, by dsimp only; rw [int_add, ha, hb]⟩
  | mul _ _ ih1 ih2 =>
    obtain ⟨a, ha⟩ := ih1
    obtain ⟨b, hb⟩ := ih2
    exact ⟨a * b, by dsimp only; rw [int_mul, ha, hb]⟩
theorem ZP.split {f : Rl → Rl} (h : ZP f) (s : Rl) (a : Int) (hs : s * s = (a : Rl)) : ∃ A B, ZP A ∧ ZP B ∧ ∀ x, f (x + s) = A x + s * B x ∧ f (x - s) = A x - s * B x := by
  induction h with
  | const i =>
    refine ⟨_, _, .const i, .const 0, fun x => ?_⟩
    rw [int_zero]
    constructor <;> grind
  | idp =>
    refine ⟨_, _, .idp, .const 1, fun x => ?_⟩
    rw [int_one]
    constructor <;> grind
  | add _ _ ih1 ih2 =>
    obtain ⟨A, B, hA, hB, h1⟩ := ih1
    obtain ⟨C, D, hC, hD, h2⟩ := ih2
    refine ⟨_, _, hA.add hC, hB.add hD, fun x => ?_⟩
    obtain ⟨p1, p2⟩ := h1 x
    obtain ⟨q1, q2⟩ := h2 x
    dsimp only
    rw [p1, p2, q1, q2]
    constructor <;> grind
  | mul _ _ ih1 ih2 =>
    obtain ⟨A, B, hA, hB, h1⟩ := ih1
    obtain ⟨C, D, hC, hD, h2⟩ := ih2
    refine ⟨_, _, (hA.mul hC).add ((ZP.const a).mul (hB.mul hD)), (hA.mul hD).add (hB.mul hC), fun x => ?_⟩
    obtain ⟨p1, p2⟩ := h1 x
    obtain ⟨q1, q2⟩ := h2 x
    dsimp only
    rw [p1, p2, q1, q2, ← hs]
    constructor <;> grind
/-- one term -/
noncomputable def tv (t : Nat × Int) : Rl := (t.2 : Rl) * rt t.1
theorem tv_sq (t : Nat × Int) : tv t * tv t = ((t.2 * t.2 * (t.1 : Int) : Int) : Rl) := by
  have := rt_sq t.1
  unfold tv
  rw [int_mul, int_mul, int_nat]
  grind
noncomputable def T : List (Nat × Int) → Rl → Rl
  | [], x => x
  | t :: l, x => T l (x + tv t) * T l (x - tv t)
theorem T_zp : ∀ l, ZP (T l)
  | [] => ZP.idp
  | t :: l => by
    obtain ⟨A, B, hA, hB, h⟩ := (T_zp l).split (tv t) _ (tv_sq t)
    refine ((hA.mul hA).add ((ZP.const (-1)).mul ((ZP.const (t.2 * t.2 * (t.1 : Int))).mul (hB.mul hB)))).congr fun x => ?_
    show T l (x + tv t) * T l (x - tv t) = _
    rw [(h x).1, (h x).2, ← tv_sq, int_neg, int_one]
    grind
/-- the same radicands, each factor or its negative -/
inductive Sg : List (Nat × Int) → List (Nat × Int) → Prop
  | nil : Sg [] []
  | same {t l m} : Sg l m → Sg (t :: l) (t :: m)
  | flip {t l m} : Sg l m → Sg (t :: l) ((t.1, -t.2) :: m)
theorem tv_flip (t : Nat × Int) : tv (t.1, -t.2) = - tv t := by
  unfold tv
  rw [int_neg]
  grind
theorem T_zero : ∀ (l : List (Nat × Int)) (x : Rl), T l x = 0 → ∃ m, Sg l m ∧ x + sv m = 0
  | [], x, h => ⟨[], .nil, by
    have h : x = 0 := h
    show x + 0 = 0
    rw [h]; grind⟩
  | t :: l, x, h => by
    rcases mul_eq_zero (show T l (x + tv t) * T l (x - tv t) = 0 from h) with e | e
    · obtain ⟨m, hm, q⟩ := T_zero l _ e
      refine ⟨t :: m, .same hm, ?_⟩
      show x + (tv t + sv m) = 0
      grind
    · obtain ⟨m, hm, q⟩ := T_zero l _ e
      refine ⟨(t.1, -t.2) :: m, .flip hm, ?_⟩
      show x + (tv (t.1, -t.2) + sv m) = 0
      rw [tv_flip]
      grind
theorem Sg.rads {l m : List (Nat × Int)} (h : Sg l m) : m.map (·.1) = l.map (·.1) := by
  induction h with
  | nil => rfl
  | same _ ih => rw [List.map_cons, List.map_cons, ih]
  | flip _ ih => rw [List.map_cons, List.map_cons, ih]
theorem Sg.nz {l m : List (Nat × Int)} (h : Sg l m) (g : ∀ t ∈ l, t.2 ≠ 0) : ∀ t ∈ m, t.2 ≠ 0 := by
  induction h with
  | nil => intro t ht; cases ht
  | same _ ih =>
    intro u hu
    rcases List.mem_cons.mp hu with e | e
    · rw [e]; exact g _ (List.mem_cons_self ..)
    · exact ih (fun v hv => g v (List.mem_cons_of_mem _ hv)) u e
  | @flip t l m _ ih =>
    intro u hu
    rcases List.mem_cons.mp hu with e | e
    · rw [e]
      have := g t (List.mem_cons_self ..)
      show -t.2 ≠ 0
      omega
    · exact ih (fun v hv => g v (List.mem_cons_of_mem _ hv)) u e
theorem Sg.sqf {l m : List (Nat × Int)} (h : Sg l m) (g : ∀ t ∈ l, Sqf t.1) : ∀ t ∈ m, Sqf t.1 := by
  intro t ht
  have h1 : t.1 ∈ m.map (·.1) := List.mem_map.mpr ⟨t, ht, rfl⟩
  rw [h.rads] at h1
  obtain ⟨u, hu, e⟩ := List.mem_map.mp h1
  rw [← e]
  exact g u hu
theorem Sg.self : ∀ l : List (Nat × Int), Sg l l
  | [] => .nil
  | _ :: l => .same (Sg.self l)
/-- what is asked of a sum with a whole number beside it -/
structure Fine (k : Int) (l : List (Nat × Int)) : Prop where
  sqf : ∀ t ∈ l, Sqf t.1
  nd : (l.map (·.1)).Nodup
  nz : ∀ t ∈ l, t.2 ≠ 0
  one : k ≠ 0 → ∀ t ∈ l, t.1 ≠ 1
  some : k ≠ 0 ∨ l ≠ []
theorem Fine.ne {k : Int} {l m : List (Nat × Int)} (h : Fine k l) (g : Sg l m) : (k : Rl) + sv m ≠ 0 := by
  intro e
  have nd : (m.map (·.1)).Nodup := by rw [g.rads]; exact h.nd
  have sq := g.sqf h.sqf
  have nz := g.nz h.nz
  by_cases hk : k = 0
  · subst hk
    have e2 : sv m = 0 := by rw [int_zero] at e; grind
    have i := indep m sq nd e2
    have : l ≠ [] := by
      rcases h.some with q | q
      · exact (q rfl).elim
      · exact q
    match m, g, i, nz with
    | [], .nil, _, _ => exact this rfl
    | t :: m, _, i, nz => exact nz t (List.mem_cons_self ..) (i t (List.mem_cons_self ..))
  · have e2 : sv ((1, k) :: m) = 0 := by
      show (k : Rl) * rt 1 + sv m = 0
      rw [rt_one]
      grind
    have nd2 : (((1, k) :: m).map (·.1)).Nodup := by
      rw [List.map_cons]
      refine List.nodup_cons.mpr ⟨fun hx => ?_, nd⟩
      rw [g.rads] at hx
      obtain ⟨t, ht, q⟩ := List.mem_map.mp hx
      exact h.one hk t ht q
    have sq2 : ∀ t ∈ ((1, k) :: m), Sqf t.1 := by
      intro t ht
      rcases List.mem_cons.mp ht with q | q
      · rw [q]; exact sqf_one
      · exact sq t q
    exact hk (indep _ sq2 nd2 e2 (1, k) (List.mem_cons_self ..))
theorem Fine.T_ne {k : Int} {l : List (Nat × Int)} (h : Fine k l) : T l (k : Rl) ≠ 0 := fun e => by
  obtain ⟨m, hm, q⟩ := T_zero l _ e
  exact h.ne hm q
theorem pw_succ (M n : Nat) : M ^ (2 ^ (n + 1)) = M ^ (2 ^ n) * M ^ (2 ^ n) := by
  rw [← Nat.pow_add]
  congr 1
  omega
theorem pw_pred (M n : Nat) : M ^ (2 ^ (n + 1) - 1) = M ^ (2 ^ n - 1) * M ^ (2 ^ n) := by
  rw [← Nat.pow_add]
  congr 1
  have := Nat.two_pow_pos n
  omega
theorem T_le (M : Nat) : ∀ (l : List (Nat × Int)) (x : Rl), (∀ m, Sg l m → Ab (x + sv m) (M : Rl)) → Ab (T l x) ((M ^ (2 ^ l.length) : Nat) : Rl)
  | [], x, h => by
    have h1 := h [] .nil
    have e : x + sv [] = x := by show x + 0 = x; grind
    rw [e] at h1
    show Ab x ((M ^ 1 : Nat) : Rl)
    rw [Nat.pow_one]
    exact h1
  | t :: l, x, h => by
    have h1 := T_le M l (x + tv t) fun m hm => by
      have := h (t :: m) (.same hm)
      rwa [show x + sv (t :: m) = x + tv t + sv m by show x + (tv t + sv m) = x + tv t + sv m; grind] at this
    have h2 := T_le M l (x - tv t) fun m hm => by
      have := h ((t.1, -t.2) :: m) (.flip hm)
      rwa [show x + sv ((t.1, -t.2) :: m) = x - tv t + sv m by show x + (tv (t.1, -t.2) + sv m) = x - tv t + sv m; rw [tv_flip]; grind] at this
    have := h1.mul h2
    rw [List.length_cons, pw_succ, nat_mul]
    exact this
theorem T_near (M : Nat) (Q w : Rl) : ∀ (l : List (Nat × Int)) (x : Rl), (∀ m, Sg l m → Ab (x + sv m) (M : Rl)) → Ab (Q * (x + sv l)) w → Ab (Q * T l x) (w * ((M ^ (2 ^ l.length - 1) : Nat) : Rl))
  | [], x, _, h => by
    have e : x + sv [] = x := by show x + 0 = x; grind
    rw [e] at h
    show Ab (Q * x) (w * ((M ^ 0 : Nat) : Rl))
    rw [Nat.pow_zero, nat_one, show w * 1 = w by grind]
    exact h
  | t :: l, x, h, g => by
    have h1 : ∀ m, Sg l m → Ab (x + tv t + sv m) (M : Rl) := fun m hm => by
      have := h (t :: m) (.same hm)
      rwa [show x + sv (t :: m) = x + tv t + sv m by show x + (tv t + sv m) = x + tv t + sv m; grind] at this
    have h2 := T_le M l (x - tv t) fun m hm => by
      have := h ((t.1, -t.2) :: m) (.flip hm)
      rwa [show x + sv ((t.1, -t.2) :: m) = x - tv t + sv m by show x + (tv (t.1, -t.2) + sv m) = x - tv t + sv m; rw [tv_flip]; grind] at this
    have h3 := T_near M Q w l (x + tv t) h1 (by
      rwa [show x + sv (t :: l) = x + tv t + sv l by show x + (tv t + sv l) = x + tv t + sv l; grind] at g)
    have h4 := h3.mul h2
    rw [List.length_cons, pw_pred, nat_mul]
    rw [show Q * T (t :: l) x = Q * T l (x + tv t) * T l (x - tv t) by show Q * (T l (x + tv t) * T l (x - tv t)) = _; grind]
    rw [show w * (((M ^ (2 ^ l.length - 1) : Nat) : Rl) * ((M ^ (2 ^ l.length) : Nat) : Rl)) = w * ((M ^ (2 ^ l.length - 1) : Nat) : Rl) * ((M ^ (2 ^ l.length) : Nat) : Rl) by grind]
    exact h4
/-- the sum of the sizes of the terms -/
noncomputable def sz : List (Nat × Int) → Rl
  | [] => 0
  | t :: l => ((t.2.natAbs : Nat) : Rl) * rt t.1 + sz l
theorem natAbs_ab (i : Int) : Ab (i : Rl) ((i.natAbs : Nat) : Rl) := by
  rw [← int_nat]
  constructor
  · rw [← int_neg]; exact int_le.mpr (by omega)
  · exact int_le.mpr (by omega)
theorem tv_ab (t : Nat × Int) : Ab (tv t) (((t.2.natAbs : Nat) : Rl) * rt t.1) := by
  have h := rt_nn t.1
  exact (natAbs_ab t.2).mul ⟨by grind, by grind⟩
theorem Sg.ab {l m : List (Nat × Int)} (h : Sg l m) : Ab (sv m) (sz l) := by
  induction h with
  | nil => exact ⟨by show -(0 : Rl) ≤ 0; grind, by show (0 : Rl) ≤ 0; grind⟩
  | same _ ih => exact (tv_ab _).add ih
  | @flip t l m _ ih =>
    show Ab (tv (t.1, -t.2) + sv m) _
    rw [tv_flip]
    exact (tv_ab t).neg.add ih
/-- not too near to 0 -/
theorem norm_bound {k : Int} {l : List (Nat × Int)} (h : Fine k l) (M Q w : Nat) (hM : ((k.natAbs : Nat) : Rl) + sz l ≤ (M : Rl)) (hw : Ab ((Q : Rl) * ((k : Rl) + sv l)) (w : Rl)) : Q ≤ w * M ^ (2 ^ l.length - 1) := by
  have h1 := T_near M (Q : Rl) (w : Rl) l (k : Rl) (fun m hm => ((natAbs_ab k).add hm.ab).mono hM) hw
  obtain ⟨j, hj⟩ := (T_zp l).int k
  have h2 := h.T_ne
  rw [hj] at h1 h2
  have j0 : j ≠ 0 := fun e => h2 (by rw [e, int_zero])
  rw [← int_nat Q, ← int_mul, ← nat_mul, ← int_nat] at h1
  obtain ⟨a, b⟩ := h1
  rw [← int_neg] at a
  have a := int_le.mp a
  have b := int_le.mp b
  by_cases hp : 0 < j
  · have : (Q : Int) * 1 ≤ Q * j := Int.mul_le_mul_of_nonneg_left (by omega) (by omega)
    omega
  · have : (Q : Int) * 1 ≤ Q * (-j) := Int.mul_le_mul_of_nonneg_left (by omega) (by omega)
    have e : (Q : Int) * (-j) = -(Q * j) := by rw [Int.mul_neg]
    omega
#print axioms norm_bound
end TS
end
section
/-! the squareless part of a number, by trial division -/
namespace TS
theorem sqf_unique {o r o' r' : Nat} (hr : Sqf r) (hr' : Sqf r') (ho : 0 < o) (h : o * o * r = o' * o' * r') : o = o' ∧ r = r' := by
  have e1 : rt (o * o * r) = (o : Rl) * rt r := by rw [rt_mul, rt_square]
  have e2 : rt (o' * o' * r') = (o' : Rl) * rt r' := by rw [rt_mul, rt_square]
  have hrr : r = r' := by
    refine Classical.byContradiction fun hc => ?_
    have h0 : sv [(r, (o : Int)), (r', -(o' : Int))] = 0 := by
      show ((o : Int) : Rl) * rt r + (((-(o' : Int) : Int) : Rl) * rt r' + 0) = 0
      rw [int_neg, int_nat, int_nat]
      rw [h] at e1
      grind
    have := indep [(r, (o : Int)), (r', -(o' : Int))] (by
      intro t ht
      rcases List.mem_cons.mp ht with q | q
      · rw [q]; exact hr
      · rw [List.mem_singleton] at q; rw [q]; exact hr') (by simpa using hc) h0 (r, (o : Int)) (List.mem_cons_self ..)
    have : (o : Int) = 0 := this
    omega
  subst hrr
  have h3 : o * o = o' * o' := Nat.eq_of_mul_eq_mul_right hr.1 h
  refine ⟨?_, rfl⟩
  rcases Nat.lt_trichotomy o o' with q | q | q
  · have := Nat.mul_lt_mul'' q q; omega
  · exact q
  · have := Nat.mul_lt_mul'' q q; omega
/-- what holds between two turns -/
structure Spl (n O R m f : Nat) : Prop where
  eq : O * O * R * m = n
  m0 : 0 < m
  O0 : 0 < O
  sq : Sqf R
  cp : Nat.Coprime R m
  f2 : 2 ≤ f
  nd : ∀ d, 2 ≤ d → d < f → ¬ d ∣ m
theorem Spl.start {n : Nat} (h : 0 < n) : Spl n 1 1 n 2 := ⟨by omega, h, by omega, sqf_one, Nat.coprime_one_left n, by omega, fun d h1 h2 => by omega⟩
theorem Spl.next {n O R m f : Nat} (h : Spl n O R m f) (hm : m % f ≠ 0) (hodd : f = 2 ∨ f % 2 = 1) : Spl n O R m (f + if f = 2 then 1 else 2) := by
  refine ⟨h.eq, h.m0, h.O0, h.sq, h.cp, by have := h.f2; omega, fun d h1 h2 hd => ?_⟩
  have hf := h.f2
  by_cases e : f = 2
  · rw [if_pos e] at h2
    have : d = 2 := by omega
    subst this
    rw [e] at hm
    exact hm (Nat.mod_eq_zero_of_dvd hd)
  · rw [if_neg e] at h2
    by_cases h3 : d < f
    · exact h.nd d h1 h3 hd
    · by_cases h4 : d = f
      · subst h4; exact hm (Nat.mod_eq_zero_of_dvd hd)
      · have h5 : d = f + 1 := by omega
        have h6 : 2 ∣ d := by omega
        exact h.nd 2 (by omega) (by omega) (Nat.dvd_trans h6 hd)
theorem Spl.prime {n O R m f : Nat} (h : Spl n O R m f) (hm : f ∣ m) : Pr f := by
  refine ⟨h.f2, fun d hd => ?_⟩
  have hf := h.f2
  have h1 := Nat.le_of_dvd (by omega) hd
  have h2 : 0 < d := Nat.pos_of_dvd_of_pos hd (by omega)
  by_cases e : d = 1
  · exact .inl e
  · right
    refine Classical.byContradiction fun hc => ?_
    exact h.nd d (by omega) (by omega) (Nat.dvd_trans hd hm)
theorem Spl.twice {n O R m f : Nat} (h : Spl n O R (m * f * f) f) (hm : 0 < m) : Spl n (O * f) R m f := by
  refine ⟨?_, hm, Nat.mul_pos h.O0 (by have := h.f2; omega), h.sq, ?_, h.f2, fun d h1 h2 hd => h.nd d h1 h2 (Nat.dvd_trans hd ⟨f * f, by rw [Nat.mul_assoc]⟩)⟩
  · have := h.eq
    rw [← this]
    grind
  · exact Nat.Coprime.coprime_dvd_right ⟨f * f, by rw [Nat.mul_assoc]⟩ h.cp
theorem Spl.once {n O R m f : Nat} (h : Spl n O R (m * f) f) (hm : 0 < m) (hn : ¬ f ∣ m) : Spl n O (R * f) m f := by
  have hp := h.prime ⟨m, Nat.mul_comm m f⟩
  have hR : ¬ f ∣ R := fun hd => by
    have : f ∣ Nat.gcd R (m * f) := Nat.dvd_gcd hd ⟨m, Nat.mul_comm m f⟩
    rw [h.cp] at this
    have := Nat.eq_one_of_dvd_one this
    have := h.f2
    omega
  refine ⟨?_, hm, h.O0, h.sq.mul_pr hp hR, ?_, h.f2, fun d h1 h2 hd => h.nd d h1 h2 (Nat.dvd_trans hd ⟨f, rfl⟩)⟩
  · have := h.eq
    rw [← this]
    grind
  · exact Nat.Coprime.mul_left (Nat.Coprime.coprime_dvd_right ⟨f, rfl⟩ h.cp) (hp.cop hn)
theorem Spl.last_sq {n O R m f t : Nat} (h : Spl n O R m f) (ht : t * t = m) : O * t * (O * t) * R = n := by
  rw [← h.eq, ← ht]
  grind
theorem Spl.last_no {n O R m f : Nat} (h : Spl n O R m f) (hx : m < f * f * f) (ht : ∀ t, t * t ≠ m) : Sqf (R * m) ∧ O * O * (R * m) = n := by
  refine ⟨h.sq.mul (sqf_of_prime h.m0 fun q hq ⟨k, hk⟩ => ?_) h.cp, by rw [← h.eq]; grind⟩
  have hq1 := hq.1
  have hqf : f ≤ q := Nat.le_of_not_lt fun hlt => h.nd q hq1 hlt ⟨q * k, by rw [hk, Nat.mul_assoc]⟩
  by_cases k1 : k = 1
  · subst k1
    exact ht q (by rw [hk, Nat.mul_one])
  · have k0 : 0 < k := by
      rcases Nat.eq_zero_or_pos k with e | e
      · subst e; have := h.m0; rw [hk] at this; omega
      · exact e
    have kf : k < f := by
      refine Nat.lt_of_not_le fun hle => ?_
      have h1 : f * f ≤ q * q := Nat.mul_le_mul hqf hqf
      have h2 : f * f * f ≤ q * q * k := Nat.mul_le_mul h1 hle
      omega
    exact h.nd k (by omega) kf ⟨q * q, by rw [hk, Nat.mul_comm]⟩
/-- every number has its squareless part -/
theorem sqf_ex : ∀ n : Nat, 0 < n → ∃ o r : Nat, Sqf r ∧ o * o * r = n := by
  intro n
  induction n using Nat.strongRecOn with
  | ind n ih =>
    intro h
    by_cases hs : Sqf n
    · exact ⟨1, n, hs, by omega⟩
    · have : ∃ q, Pr q ∧ q * q ∣ n := by
        refine Classical.byContradiction fun hc => hs (sqf_of_prime h fun q hq hd => hc ⟨q, hq, hd⟩)
      obtain ⟨q, hq, k, hk⟩ := this
      have hq1 := hq.1
      have k0 : 0 < k := by
        rcases Nat.eq_zero_or_pos k with e | e
        · subst e; omega
        · exact e
      have : k * 1 < q * q * k := by
        rw [Nat.mul_comm (q * q) k]
        exact Nat.mul_lt_mul_of_pos_left (by have := Nat.mul_lt_mul'' hq1 hq1; omega) k0
      obtain ⟨o, r, h1, h2⟩ := ih k (by omega) k0
      exact ⟨q * o, r, h1, by rw [hk, ← h2]; grind⟩
theorem sqf_le {o r n : Nat} (h : o * o * r = n) (h0 : 0 < n) : o ≤ n ∧ r ≤ n := by
  have o0 : 0 < o := by
    rcases Nat.eq_zero_or_pos o with e | e
    · subst e; simp at h; omega
    · exact e
  have r0 : 0 < r := by
    rcases Nat.eq_zero_or_pos r with e | e
    · subst e; simp at h; omega
    · exact e
  rw [← h]
  exact ⟨by rw [Nat.mul_assoc]; exact Nat.le_mul_of_pos_right o (Nat.mul_pos o0 r0), Nat.le_mul_of_pos_left r (Nat.mul_pos o0 o0)⟩
end TS
end
section
/-! values of sums over rational coefficients: linear, bounds, integer forms. Own work; core Lean alone. -/
namespace TS
abbrev QTrm := Nat × Rat
def cof : List QTrm → Nat → Rat
  | [], _ => 0
  | t :: l, r => (if t.1 = r then t.2 else 0) + cof l r
noncomputable def vR : List QTrm → Rl
  | [] => 0
  | t :: l => ofQ t.2 * rt t.1 + vR l
def qa (q : Rat) : Rat := if q < 0 then -q else q
noncomputable def aR : List QTrm → Rl
  | [] => 0
  | t :: l => ofQ (qa t.2) * rt t.1 + aR l
noncomputable def sumN (f : Nat → Rat) : Nat → Rl
  | 0 => 0
  | n + 1 => sumN f n + ofQ (f n) * rt n
theorem ofQ_zero : ofQ 0 = 0 := rfl
theorem ofQ_one : ofQ 1 = 1 := rfl
theorem sumN_congr {f g : Nat → Rat} (h : ∀ r, f r = g r) (N : Nat) : sumN f N = sumN g N := by
  induction N with
  | zero => rfl
  | succ n ih => show sumN f n + ofQ (f n) * rt n = sumN g n + ofQ (g n) * rt n; rw [ih, h]
theorem sumN_add (f g : Nat → Rat) (N : Nat) : sumN (fun r => f r + g r) N = sumN f N + sumN g N := by
  induction N with
  | zero => show (0 : Rl) = 0 + 0; grind
  | succ n ih => show sumN (fun r => f r + g r) n + ofQ (f n + g n) * rt n = sumN f n + ofQ (f n) * rt n + (sumN g n + ofQ (g n) * rt n); rw [ih, ofQ_add]; grind
theorem sumN_single (r0 : Nat) (q : Rat) (N : Nat) : sumN (fun r => if r0 = r then q else 0) N = if r0 < N then ofQ q * rt r0 else 0 := by
  induction N with
  | zero => rfl
  | succ n ih =>
    show sumN (fun r => if r0 = r then q else 0) n + ofQ (if r0 = n then q else 0) * rt n = _
    rw [ih]
    by_cases h : r0 = n
    · subst h
      rw [if_neg (Nat.lt_irrefl _), if_pos rfl, if_pos (Nat.lt_succ_self _)]; grind
    · rw [if_neg h, ofQ_zero]
      by_cases h2 : r0 < n
      · rw [if_pos h2, if_pos (by omega)]; grind
      · rw [if_neg h2, if_neg (by omega)]; grind
theorem vR_sumN : ∀ (l : List QTrm) (N : Nat), (∀ t ∈ l, t.1 < N) → vR l = sumN (cof l) N
  | [], N, _ => by
    show (0 : Rl) = _
    induction N with
    | zero => rfl
    | succ n ih => show (0 : Rl) = sumN (cof []) n + ofQ 0 * rt n; rw [← ih (fun _ h => by cases h), ofQ_zero]; grind
  | t :: l, N, h => by
    show ofQ t.2 * rt t.1 + vR l = sumN (fun r => (if t.1 = r then t.2 else 0) + cof l r) N
    rw [sumN_add, sumN_single, if_pos (h t (List.mem_cons_self ..)), vR_sumN l N fun u hu => h u (List.mem_cons_of_mem _ hu)]
theorem ex_above (l : List QTrm) : ∃ N, ∀ t ∈ l, t.1 < N := by
  induction l with
  | nil => exact ⟨0, fun _ h => by cases h⟩
  | cons t l ih =>
    obtain ⟨N, h⟩ := ih
    refine ⟨max N (t.1 + 1), fun u hu => ?_⟩
    rcases List.mem_cons.mp hu with e | e
    · subst e; omega
    · have := h u e; omega
theorem vR_ext {l m : List QTrm} (h : ∀ r, cof l r = cof m r) : vR l = vR m := by
  obtain ⟨N, hN⟩ := ex_above l
  obtain ⟨M, hM⟩ := ex_above m
  rw [vR_sumN l (max N M) fun t ht => by have := hN t ht; omega, vR_sumN m (max N M) fun t ht => by have := hM t ht; omega]
  exact sumN_congr h _
theorem cof_app (l m : List QTrm) (r : Nat) : cof (l ++ m) r = cof l r + cof m r := by
  induction l with
  | nil => show cof m r = 0 + cof m r; grind
  | cons t l ih => show (if t.1 = r then t.2 else 0) + cof (l ++ m) r = (if t.1 = r then t.2 else 0) + cof l r + cof m r; rw [ih]; grind
theorem vR_app (l m : List QTrm) : vR (l ++ m) = vR l + vR m := by
  induction l with
  | nil => show vR m = 0 + vR m; grind
  | cons t l ih => show ofQ t.2 * rt t.1 + vR (l ++ m) = ofQ t.2 * rt t.1 + vR l + vR m; rw [ih]; grind
theorem aR_app (l m : List QTrm) : aR (l ++ m) = aR l + aR m := by
  induction l with
  | nil => show aR m = 0 + aR m; grind
  | cons t l ih => show ofQ (qa t.2) * rt t.1 + aR (l ++ m) = ofQ (qa t.2) * rt t.1 + aR l + aR m; rw [ih]; grind
def sc (c : Rat) (l : List QTrm) : List QTrm := l.map fun t => (t.1, t.2 * c)
theorem cof_sc (c : Rat) (l : List QTrm) (r : Nat) : cof (sc c l) r = cof l r * c := by
  induction l with
  | nil => show (0 : Rat) = 0 * c; grind
  | cons t l ih =>
    show (if t.1 = r then t.2 * c else 0) + cof (sc c l) r = ((if t.1 = r then t.2 else 0) + cof l r) * c
    rw [ih]
    split <;> grind
theorem vR_sc (c : Rat) (l : List QTrm) : vR (sc c l) = ofQ c * vR l := by
  induction l with
  | nil => show (0 : Rl) = ofQ c * 0; grind
  | cons t l ih => show ofQ (t.2 * c) * rt t.1 + vR (sc c l) = ofQ c * (ofQ t.2 * rt t.1 + vR l); rw [ih, ofQ_mul]; grind
theorem qa_nn (q : Rat) : 0 ≤ qa q := by unfold qa; split <;> grind
theorem qa_add (p q : Rat) : qa (p + q) ≤ qa p + qa q := by unfold qa; (repeat' split) <;> grind
theorem qa_zero : qa 0 = 0 := rfl
theorem qa_mul (p q : Rat) : qa (p * q) = qa p * qa q := by
  have pp : ∀ {a b : Rat}, 0 ≤ a → 0 ≤ b → 0 ≤ a * b := fun h g => Rat.mul_nonneg h g
  unfold qa
  by_cases hp : p < 0
  · by_cases hq : q < 0
    · have := pp (show 0 ≤ -p by grind) (show 0 ≤ -q by grind)
      rw [if_pos hp, if_pos hq, if_neg (by grind)]; grind
    · have := pp (show 0 ≤ -p by grind) (show 0 ≤ q by grind)
      rw [if_pos hp, if_neg hq]
      split <;> grind
  · by_cases hq : q < 0
    · have := pp (show 0 ≤ p by grind) (show 0 ≤ -q by grind)
      rw [if_neg hp, if_pos hq]
      split <;> grind
    · have := pp (show 0 ≤ p by grind) (show 0 ≤ q by grind)
      rw [if_neg hp, if_neg hq, if_neg (by grind)]
theorem aR_sc (c : Rat) (l : List QTrm) : aR (sc c l) = ofQ (qa c) * aR l := by
  induction l with
  | nil => show (0 : Rl) = ofQ (qa c) * 0; grind
  | cons t l ih => show ofQ (qa (t.2 * c)) * rt t.1 + aR (sc c l) = ofQ (qa c) * (ofQ (qa t.2) * rt t.1 + aR l); rw [ih, qa_mul, ofQ_mul]; grind
theorem sumN_le {f g : Nat → Rat} (h : ∀ r, f r ≤ g r) (N : Nat) : sumN f N ≤ sumN g N := by
  induction N with
  | zero => show (0 : Rl) ≤ 0; grind
  | succ n ih =>
    show sumN f n + ofQ (f n) * rt n ≤ sumN g n + ofQ (g n) * rt n
    have h1 := ofQ_le (h n)
    have h2 := mul_nonneg (show 0 ≤ ofQ (g n) - ofQ (f n) by grind) (rt_nn n)
    grind
theorem aR_ge : ∀ (l : List QTrm) (N : Nat), (∀ t ∈ l, t.1 < N) → sumN (fun r => qa (cof l r)) N ≤ aR l
  | [], N, _ => by
    have : sumN (fun r => qa (cof [] r)) N = 0 := by
      induction N with
      | zero => rfl
      | succ n ih => show sumN (fun r => qa (cof [] r)) n + ofQ (qa 0) * rt n = 0; rw [ih (fun _ h => by cases h), qa_zero, ofQ_zero]; grind
    rw [this]; show (0 : Rl) ≤ 0; grind
  | t :: l, N, h => by
    have ih := aR_ge l N fun u hu => h u (List.mem_cons_of_mem _ hu)
    have h1 : sumN (fun r => qa (cof (t :: l) r)) N ≤ sumN (fun r => (if t.1 = r then qa t.2 else 0) + qa (cof l r)) N := sumN_le (fun r => by
      show qa ((if t.1 = r then t.2 else 0) + cof l r) ≤ _
      have := qa_add (if t.1 = r then t.2 else 0) (cof l r)
      by_cases e : t.1 = r
      · rw [if_pos e] at *; rw [if_pos e]; exact this
      · rw [if_neg e] at *; rw [if_neg e]; exact this) N
    rw [sumN_add, sumN_single, if_pos (h t (List.mem_cons_self ..))] at h1
    show _ ≤ ofQ (qa t.2) * rt t.1 + aR l
    grind
theorem cof_none {l : List QTrm} {r : Nat} (h : ∀ t ∈ l, t.1 ≠ r) : cof l r = 0 := by
  induction l with
  | nil => rfl
  | cons t l ih =>
    show (if t.1 = r then t.2 else 0) + cof l r = 0
    rw [if_neg (h t (List.mem_cons_self ..)), ih fun u hu => h u (List.mem_cons_of_mem _ hu)]
    grind
theorem aR_eq : ∀ (l : List QTrm) (N : Nat), (l.map (·.1)).Nodup → (∀ t ∈ l, t.1 < N) → aR l = sumN (fun r => qa (cof l r)) N
  | [], N, _, _ => by
    show (0 : Rl) = _
    induction N with
    | zero => rfl
    | succ n ih => show (0 : Rl) = sumN (fun r => qa (cof [] r)) n + ofQ (qa 0) * rt n; rw [← ih (fun _ h => by cases h), qa_zero, ofQ_zero]; grind
  | t :: l, N, nd, h => by
    rw [List.map_cons] at nd
    obtain ⟨n1, n2⟩ := List.nodup_cons.mp nd
    have ih := aR_eq l N n2 fun u hu => h u (List.mem_cons_of_mem _ hu)
    have e0 : cof l t.1 = 0 := cof_none fun u hu e => n1 (List.mem_map.mpr ⟨u, hu, e⟩)
    have h1 : sumN (fun r => qa (cof (t :: l) r)) N = sumN (fun r => (if t.1 = r then qa t.2 else 0) + qa (cof l r)) N := sumN_congr (fun r => by
      show qa ((if t.1 = r then t.2 else 0) + cof l r) = _
      by_cases e : t.1 = r
      · rw [if_pos e, if_pos e, ← e, e0, qa_zero, Rat.add_zero, Rat.add_zero]
      · rw [if_neg e, if_neg e, Rat.zero_add, Rat.zero_add]) N
    rw [h1, sumN_add, sumN_single, if_pos (h t (List.mem_cons_self ..))]
    show ofQ (qa t.2) * rt t.1 + aR l = _
    rw [ih]
/-- what is collected is not larger -/
theorem aR_le {l m : List QTrm} (nd : (l.map (·.1)).Nodup) (h : ∀ r, cof l r = cof m r) : aR l ≤ aR m := by
  obtain ⟨N, hN⟩ := ex_above l
  obtain ⟨M, hM⟩ := ex_above m
  have h1 := aR_ge m (max N M) fun t ht => by have := hM t ht; omega
  rw [aR_eq l (max N M) nd fun t ht => by have := hN t ht; omega]
  rw [sumN_congr (fun r => by rw [h r]) (max N M)]
  exact h1
theorem aR_nn (l : List QTrm) : 0 ≤ aR l := by
  induction l with
  | nil => show (0 : Rl) ≤ 0; grind
  | cons t l ih =>
    have := mul_nonneg (show 0 ≤ ofQ (qa t.2) by have := ofQ_le (qa_nn t.2); rw [ofQ_zero] at this; exact this) (rt_nn t.1)
    show 0 ≤ ofQ (qa t.2) * rt t.1 + aR l
    grind
theorem aR_mem {l : List QTrm} {t : QTrm} (h : t ∈ l) : ofQ (qa t.2) * rt t.1 ≤ aR l := by
  induction l with
  | nil => cases h
  | cons u l ih =>
    have p := mul_nonneg (show 0 ≤ ofQ (qa u.2) by have := ofQ_le (qa_nn u.2); rw [ofQ_zero] at this; exact this) (rt_nn u.1)
    show _ ≤ ofQ (qa u.2) * rt u.1 + aR l
    rcases List.mem_cons.mp h with e | e
    · subst e
      have := aR_nn l
      grind
    · have := ih e
      grind
/-! the integer form over a common low D -/
def zD (D : Nat) (t : QTrm) : Int := t.2.num * ((D : Int) / (t.2.den : Int))
def iF (D : Nat) (l : List QTrm) : List (Nat × Int) := l.map fun t => (t.1, zD D t)
theorem num_eq (q : Rat) : ((q.num : Int) : Rat) = q * ((q.den : Nat) : Rat) := by
  have h : ((q.den : Nat) : Rat) ≠ 0 := by
    have := q.den_nz
    exact fun e => this (Rat.natCast_eq_zero_iff.mp e)
  have e : q = ((q.num : Int) : Rat) / ((q.den : Nat) : Rat) := by
    rw [← Rat.mkRat_eq_div, Rat.mkRat_self]
  have : ((q.num : Int) : Rat) / ((q.den : Nat) : Rat) * ((q.den : Nat) : Rat) = ((q.num : Int) : Rat) := Rat.div_mul_cancel h
  rw [← e] at this
  exact this.symm
theorem zD_q {D : Nat} {t : QTrm} (h : t.2.den ∣ D) : ((zD D t : Int) : Rat) = ((D : Nat) : Rat) * t.2 := by
  obtain ⟨c, rfl⟩ := h
  have d0 := t.2.den_nz
  unfold zD
  rw [Int.natCast_mul, Int.mul_ediv_cancel_left _ (by omega), Rat.intCast_mul, num_eq, Rat.natCast_mul, Rat.intCast_natCast]
  grind
theorem zD_R {D : Nat} {t : QTrm} (h : t.2.den ∣ D) : ((zD D t : Int) : Rl) = (D : Rl) * ofQ t.2 := by
  rw [intCast_def, natCast_def, zD_q h, ofQ_mul]
theorem iF_sv {D : Nat} {l : List QTrm} (h : ∀ t ∈ l, t.2.den ∣ D) : sv (iF D l) = (D : Rl) * vR l := by
  induction l with
  | nil => show (0 : Rl) = (D : Rl) * 0; grind
  | cons t l ih =>
    show ((zD D t : Int) : Rl) * rt t.1 + sv (iF D l) = (D : Rl) * (ofQ t.2 * rt t.1 + vR l)
    rw [ih fun u hu => h u (List.mem_cons_of_mem _ hu), zD_R (h t (List.mem_cons_self ..))]
    grind
theorem natAbs_R (i : Int) : ((i.natAbs : Nat) : Rl) = if i < 0 then -(i : Rl) else (i : Rl) := by
  rw [← int_nat]
  by_cases h : i < 0
  · rw [if_pos h, ← int_neg]; congr 1; omega
  · rw [if_neg h]; congr 1; omega
theorem iF_sz {D : Nat} {l : List QTrm} (h : ∀ t ∈ l, t.2.den ∣ D) : sz (iF D l) = (D : Rl) * aR l := by
  induction l with
  | nil => show (0 : Rl) = (D : Rl) * 0; grind
  | cons t l ih =>
    have hd := h t (List.mem_cons_self ..)
    show (((zD D t).natAbs : Nat) : Rl) * rt t.1 + sz (iF D l) = (D : Rl) * (ofQ (qa t.2) * rt t.1 + aR l)
    have e : (((zD D t).natAbs : Nat) : Rl) = (D : Rl) * ofQ (qa t.2) := by
      have z := zD_R hd
      have zq := zD_q hd
      have Dn : (0 : Rat) ≤ ((D : Nat) : Rat) := Rat.natCast_nonneg
      have pp : ∀ {a b : Rat}, 0 ≤ a → 0 ≤ b → 0 ≤ a * b := fun h g => Rat.mul_nonneg h g
      rw [natAbs_R, z]
      unfold qa
      by_cases hq : t.2 < 0
      · rw [if_pos hq, ofQ_neg]
        by_cases hz : zD D t < 0
        · rw [if_pos hz]; grind
        · rw [if_neg hz]
          have z0 : zD D t = 0 := by
            have h1 := pp Dn (show 0 ≤ -t.2 by grind)
            have h2 : ((zD D t : Int) : Rat) ≤ ((0 : Int) : Rat) := by rw [zq]; show _ ≤ (0 : Rat); grind
            have := Rat.intCast_le_intCast.mp h2
            omega
          have : (D : Rl) * ofQ t.2 = 0 := by rw [← z, z0, int_zero]
          grind
      · rw [if_neg hq]
        by_cases hz : zD D t < 0
        · have h1 := pp Dn (show 0 ≤ t.2 by grind)
          have h2 : ((0 : Int) : Rat) ≤ ((zD D t : Int) : Rat) := by rw [zq]; exact h1
          have := Rat.intCast_le_intCast.mp h2
          omega
        · rw [if_neg hz]
    rw [ih fun u hu => h u (List.mem_cons_of_mem _ hu), e]
    grind
theorem zD_ne {D : Nat} {t : QTrm} (hD : 0 < D) (h : t.2.den ∣ D) (hn : t.2 ≠ 0) : zD D t ≠ 0 := fun e => by
  have z := zD_q h
  rw [e] at z
  have z : (0 : Rat) = ((D : Nat) : Rat) * t.2 := z
  have D0 : ((D : Nat) : Rat) ≠ 0 := fun e => by have := Rat.natCast_eq_zero_iff.mp e; omega
  rcases Rat.mul_eq_zero.mp z.symm with q | q
  · exact D0 q
  · exact hn q
theorem iF_rads (D : Nat) (l : List QTrm) : (iF D l).map (·.1) = l.map (·.1) := by
  unfold iF
  rw [List.map_map]
  rfl
/-- the part over 1 and the rest, of a list of unlike radicands -/
theorem split1 : ∀ {p : List (Nat × Int)}, (p.map (·.1)).Nodup → ∃ (k : Int) (q : List (Nat × Int)), sv p = (k : Rl) + sv q ∧ sz p = ((k.natAbs : Nat) : Rl) + sz q ∧ (∀ t ∈ q, t ∈ p ∧ t.1 ≠ 1) ∧ (q.map (·.1)).Nodup ∧ (∀ z, (1, z) ∈ p → k = z) ∧ ((∀ z, (1, z) ∉ p) → k = 0) ∧ q.length ≤ p.length
  | [], _ => ⟨0, [], by show (0 : Rl) = ((0 : Int) : Rl) + 0; rw [int_zero]; grind, by show (0 : Rl) = ((0 : Nat) : Rl) + 0; rw [nat_zero]; grind, (fun _ h => by cases h), by simp, (fun _ h => by cases h), fun _ => rfl, Nat.le_refl _⟩
  | t :: p, nd => by
    rw [List.map_cons] at nd
    obtain ⟨n1, n2⟩ := List.nodup_cons.mp nd
    obtain ⟨k, q, h1, h2, h3, h4, h5, h6, h7⟩ := split1 n2
    by_cases e : t.1 = 1
    · have h1no : ∀ z, (1, z) ∉ p := fun z hz => n1 (List.mem_map.mpr ⟨_, hz, e.symm⟩)
      have k0 := h6 h1no
      subst k0
      refine ⟨t.2, q, ?_, ?_, fun u hu => ⟨List.mem_cons_of_mem _ (h3 u hu).1, (h3 u hu).2⟩, h4, fun z hz => ?_, fun h => ?_, by rw [List.length_cons]; omega⟩
      · show (t.2 : Rl) * rt t.1 + sv p = _
        rw [e, rt_one, h1, int_zero]; grind
      · show ((t.2.natAbs : Nat) : Rl) * rt t.1 + sz p = _
        rw [e, rt_one, h2]
        show _ + (((0 : Nat) : Rl) + _) = _
        rw [nat_zero]; grind
      · rcases List.mem_cons.mp hz with q | q
        · rw [← q]
        · exact (h1no z q).elim
      · exact (h t.2 (by rw [← e]; exact List.mem_cons_self ..)).elim
    · refine ⟨k, t :: q, ?_, ?_, fun u hu => ?_, ?_, fun z hz => ?_, fun h => h6 fun z hz => h z (List.mem_cons_of_mem _ hz), by rw [List.length_cons, List.length_cons]; omega⟩
      · show tv t + sv p = _ + (tv t + sv q)
        rw [h1]; grind
      · show ((t.2.natAbs : Nat) : Rl) * rt t.1 + sz p = _ + (((t.2.natAbs : Nat) : Rl) * rt t.1 + sz q)
        rw [h2]; grind
      · rcases List.mem_cons.mp hu with q | q
        · subst q; exact ⟨List.mem_cons_self .., e⟩
        · exact ⟨List.mem_cons_of_mem _ (h3 u q).1, (h3 u q).2⟩
      · rw [List.map_cons]
        exact List.nodup_cons.mpr ⟨fun hx => by
          obtain ⟨u, hu, e2⟩ := List.mem_map.mp hx
          exact n1 (List.mem_map.mpr ⟨u, (h3 u hu).1, e2⟩), h4⟩
      · rcases List.mem_cons.mp hz with q | q
        · rw [← q] at e; exact (e rfl).elim
        · exact h5 z q
end TS
end
section
set_option Elab.async false
set_option linter.all false
set_option maxRecDepth 100000
set_option maxHeartbeats 4000000
/-! what a text does, told over data (PyData) and mutable lists and dicts beside it; over the hand layer -/
namespace DX
open PySem PySem.Spec PyProof.Rows L2
set_option autoImplicit false


/-! ### the weakest readings -/
def wE (X : Cx) (e : Expr) : TE := fun σ H Q => ∀ pins s, Inv X pins σ H s → wpAny (model X.prog X.w) X.A (eval e X.env) (EP X pins σ Q) X.xe s
def wT (X : Cx) (e : Expr) : TT := fun σ H Q => ∀ pins s, Inv X pins σ H s → wpAny (model X.prog X.w) X.A (isTrue e X.env (eval e X.env)) (TP X pins σ Q) X.xe s
def wW (X : Cx) (e : Expr) : TT := fun σ H Q => ∀ whole pins s, Inv X pins σ H s → wpAny (model X.prog X.w) X.A (isTrue e X.env whole) (TP X pins σ Q) X.xe s
def wA (X : Cx) (es : List Expr) : TA := fun σ H Q => ∀ pos pins s, Inv X pins σ H s → wpAny (model X.prog X.w) X.A (spliced (backTo pos (starEach es X.env))) (AP X pins σ Q) X.xe s
def wS (X : Cx) (st : List Stmt) : TS := fun D σ H => ∀ pins s, Inv X pins σ H s → wpAny (model X.prog X.w) X.A (execs st X.env) (SP X pins D) X.xe s
section
variable {X : Cx}
theorem peW (e : Expr) : PE X e (wE X e) := ⟨fun pins s _ _ _ I h => h pins s I⟩
theorem ptW (e : Expr) : PT X e (wT X e) := ⟨fun pins s _ _ _ I h => h pins s I⟩
theorem pwW (e : Expr) : PW X e (wW X e) := ⟨fun wh pins s _ _ _ I h => h wh pins s I⟩
theorem paW (es : List Expr) : PA X es (wA X es) := ⟨fun pos pins s _ _ _ I h => h pos pins s I⟩
theorem pssW (st : List Stmt) : PSs X st (wS X st) := ⟨fun pins s _ _ _ I h => h pins s I⟩
theorem wE_of {e : Expr} {t : TE} (h : PE X e t) {σ : List (Option V)} {H : Hp} {Q : VK} (q : t σ H Q) : wE X e σ H Q := fun pins s I => h.run pins s σ H Q I q
theorem wT_of {e : Expr} {t : TT} (h : PT X e t) {σ : List (Option V)} {H : Hp} {Q : Bool → Hp → Prop} (q : t σ H Q) : wT X e σ H Q := fun pins s I => h.run pins s σ H Q I q
theorem wW_of {e : Expr} {t : TT} (h : PW X e t) {σ : List (Option V)} {H : Hp} {Q : Bool → Hp → Prop} (q : t σ H Q) : wW X e σ H Q := fun wh pins s I => h.run wh pins s σ H Q I q
theorem wA_of {es : List Expr} {t : TA} (h : PA X es t) {σ : List (Option V)} {H : Hp} {Q : List V → Hp → Prop} (q : t σ H Q) : wA X es σ H Q := fun pos pins s I => h.run pos pins s σ H Q I q
theorem wS_of {st : List Stmt} {t : TS} (h : PSs X st t) {D : Ends} {σ : List (Option V)} {H : Hp} (q : t D σ H) : wS X st D σ H := fun pins s I => h.run pins s σ H D I q
end

/-! ### data states -/
/-- what a slot holds: data, a mutable thing at an address, or what is not told -/
inductive DV
  | d (x : PyData)
  | m (a : Addr)
  | no
/-- what stands at a mutable address -/
inductive MO
  | lst (ds : List PyData)
  | dct (kvs : List (Key × PyData))
  | tab (q : Str)
structure DS where
  g : List DV
  m : List (Addr × MO)
def DS.as (S : DS) : List Addr := S.m.map (·.1)
def hide (A : List Addr) (H : Hp) : Hp := fun a => if a ∈ A then none else H a
theorem hide_in {A : List Addr} {H : Hp} {a : Addr} (h : a ∈ A) : hide A H a = none := if_pos h
theorem hide_out {A : List Addr} {H : Hp} {a : Addr} (h : a ∉ A) : hide A H a = H a := if_neg h
theorem hide_some {A : List Addr} {H : Hp} {a : Addr} {o : HO} (h : hide A H a = some o) : H a = some o ∧ a ∉ A := by
  by_cases e : a ∈ A
  · rw [hide_in e] at h; cases h
  · rw [hide_out e] at h; exact ⟨h, e⟩
theorem hide_nil (H : Hp) : hide [] H = H := funext fun a => hide_out (by simp)
def Ex (H H' : Hp) : Prop := ∀ a o, H a = some o → H' a = some o
theorem Ex.refl (H : Hp) : Ex H H := fun _ _ h => h
theorem Ex.trans {H H1 H2 : Hp} (a : Ex H H1) (b : Ex H1 H2) : Ex H H2 := fun x o h => b x o (a x o h)
theorem Ex.new {H : Hp} {p : Addr} {o : HO} (h : H p = none) : Ex H (upd H p o) := fun a u e => by
  rw [upd_ne (ne_of_none e h)]
  exact e
theorem ex_rd {H H' : Hp} {a : Addr} {u : HO} (e : Ex H H') (h : Rd H a u) : Rd H' a u := by
  rcases h with h | ⟨o, h⟩
  · exact Or.inl (e a _ h)
  · exact Or.inr ⟨o, e a _ h⟩
theorem ex_l {K : PySem.W.Frag} {H H' : Hp} {a : Addr} {xs : List V} (e : Ex H H') (h : SqL K H a xs) : SqL K H' a xs := by
  rcases h with h | h
  · exact Or.inl (ex_rd e h)
  · exact Or.inr h
theorem ex_t {K : PySem.W.Frag} {H H' : Hp} {a : Addr} {xs : List V} (e : Ex H H') (h : SqT K H a xs) : SqT K H' a xs := by
  rcases h with h | h
  · exact Or.inl (ex_rd e h)
  · exact Or.inr h
mutual
theorem Dp.ex {K : PySem.W.Frag} {H H' : Hp} (e : Ex H H') : ∀ {v : V} {d : PyData}, Dp K H v d → Dp K H' v d
  | _, _, .non => .non
  | _, _, .bl b => .bl b
  | _, _, .int i => .int i
  | _, _, .str x => .str x
  | _, _, .lst h hs => .lst (ex_l e h) (DpAll.ex e hs)
  | _, _, .tup h hs => .tup (ex_t e h) (DpAll.ex e hs)
theorem DpAll.ex {K : PySem.W.Frag} {H H' : Hp} (e : Ex H H') : ∀ {vs : List V} {ds : List PyData}, DpAll K H vs ds → DpAll K H' vs ds
  | _, _, .nil => .nil
  | _, _, .cons h hs => .cons (Dp.ex e h) (DpAll.ex e hs)
end
theorem hide_ex {A : List Addr} {H : Hp} : Ex (hide A H) H := fun _ _ h => (hide_some h).1
theorem hide_sub {A B : List Addr} {H : Hp} (h : ∀ c ∈ B, c ∈ A) : Ex (hide A H) (hide B H) := fun a o e => by
  obtain ⟨e1, e2⟩ := hide_some e
  rw [hide_out fun q => e2 (h a q)]
  exact e1
theorem hide_mono {A B : List Addr} {H : Hp} (h : ∀ a ∈ B, a ∈ A ∨ H a = none) : Ex (hide A H) (hide B H) := fun a o e => by
  obtain ⟨e1, e2⟩ := hide_some e
  rw [hide_out]
  · exact e1
  · intro q
    rcases h a q with k | k
    · exact e2 k
    · rw [e1] at k; cases k
theorem DpAll.len {K : PySem.W.Frag} {H : Hp} : ∀ {vs : List V} {ds : List PyData}, DpAll K H vs ds → vs.length = ds.length
  | _, _, .nil => rfl
  | _, _, .cons _ hs => by rw [List.length_cons, List.length_cons, DpAll.len hs]
theorem dpAll_get {K : PySem.W.Frag} {H : Hp} {vs : List V} {ds : List PyData} (h : DpAll K H vs ds) : ∀ {i : Nat} {d : PyData}, ds[i]? = some d → ∃ v, vs[i]? = some v ∧ Dp K H v d := by
  intro i
  induction i generalizing vs ds with
  | zero =>
    intro d e
    cases h with
    | nil => simp at e
    | cons h hs => exact ⟨_, rfl, by cases (Option.some.inj e); exact h⟩
  | succ i ih =>
    intro d e
    cases h with
    | nil => simp at e
    | cons h hs => exact ih hs e
theorem dpAll_getV {K : PySem.W.Frag} {H : Hp} {vs : List V} {ds : List PyData} (h : DpAll K H vs ds) : ∀ {i : Nat} {v : V}, vs[i]? = some v → ∃ d, ds[i]? = some d ∧ Dp K H v d := by
  intro i
  induction i generalizing vs ds with
  | zero =>
    intro d e
    cases h with
    | nil => simp at e
    | cons h hs => exact ⟨_, rfl, by cases (Option.some.inj e); exact h⟩
  | succ i ih =>
    intro d e
    cases h with
    | nil => simp at e
    | cons h hs => exact ih hs e
theorem DpAll.append {K : PySem.W.Frag} {H : Hp} : ∀ {vs ws : List V} {ds es : List PyData}, DpAll K H vs ds → DpAll K H ws es → DpAll K H (vs ++ ws) (ds ++ es)
  | _, _, _, _, .nil, h => h
  | _, _, _, _, .cons h hs, g => .cons h (DpAll.append hs g)
theorem DpAll.ints {K : PySem.W.Frag} {H : Hp} : ∀ ns : List Int, DpAll K H (ns.map V.int) (ns.map PyData.int)
  | [] => .nil
  | n :: ns => .cons (.int n) (DpAll.ints ns)
def VOk (K : PySem.W.Frag) (A : List Addr) (H : Hp) (v : V) : DV → Prop
  | .d x => Dp K (hide A H) v x
  | .m a => v = .ref a ∧ a ∈ A
  | .no => True
inductive KvAll (K : PySem.W.Frag) (H : Hp) : List (Key × V) → List (Key × PyData) → Prop
  | nil : KvAll K H [] []
  | cons {k : Key} {v : V} {d : PyData} {us : List (Key × V)} {kvs : List (Key × PyData)} : Dp K H v d → KvAll K H us kvs → KvAll K H ((k, v) :: us) ((k, d) :: kvs)
theorem KvAll.ex {K : PySem.W.Frag} {H H' : Hp} (e : Ex H H') {us : List (Key × V)} {kvs : List (Key × PyData)} (h : KvAll K H us kvs) : KvAll K H' us kvs := by
  induction h with
  | nil => exact .nil
  | cons h _ ih => exact .cons (Dp.ex e h) ih
def MOk (K : PySem.W.Frag) (A : List Addr) (H : Hp) (a : Addr) : MO → Prop
  | .lst ds => ∃ vs, H a = some (.lst vs) ∧ DpAll K (hide A H) vs ds
  | .dct kvs => ∃ us, H a = some (.dK us) ∧ KvAll K (hide A H) us kvs
  | .tab q => LamX.TabS H a q
/-- a def's frame: what stood at its entry stands but for the things that it was given to change (fx); hd: what its callers may change -/
structure Bs where
  K : PySem.W.Frag
  B : Hp
  fx : List Addr
  hd : List Addr
  hdt : ∀ a ∈ hd, B a ≠ none ∧ a ∉ fx
def Hd (b : Bs) (S : DS) : List Addr := b.hd ++ S.as
structure RelM (b : Bs) (S : DS) (H : Hp) : Prop where
  mem : ∀ p ∈ S.m, MOk b.K (Hd b S) H p.1 p.2
  nd : S.as.Nodup
  fr : ∀ a ∈ S.as, b.B a = none ∨ a ∈ b.fx
  ext : ∀ a o, b.B a = some o → a ∉ b.fx → H a = some o
  fxs : ∀ a ∈ b.fx, a ∈ S.as
structure Rel (b : Bs) (S : DS) (σ : List (Option V)) (H : Hp) : Prop where
  len : σ.length = S.g.length
  slot : ∀ (i : Nat) (x : DV), S.g[i]? = some x → x = .no ∨ ∃ v, σ[i]? = some (some v) ∧ VOk b.K (Hd b S) H v x
  rm : RelM b S H
theorem RelM.tracked {b : Bs} {S : DS} {H : Hp} (r : RelM b S H) : ∀ a ∈ Hd b S, H a ≠ none := fun a h => by
  rcases List.mem_append.mp h with q | q
  · obtain ⟨h1, h2⟩ := b.hdt a q
    cases e : b.B a with
    | none => exact (h1 e).elim
    | some o => rw [r.ext a o e h2]; exact fun z => nomatch z
  · obtain ⟨t, ht, e⟩ := List.mem_map.mp q
    have := r.mem t ht
    obtain ⟨a', mo⟩ := t
    subst e
    cases mo with
    | lst ds => obtain ⟨vs, q, _⟩ := this; rw [q]; exact fun z => nomatch z
    | dct ds => obtain ⟨vs, q, _⟩ := this; rw [q]; exact fun z => nomatch z
    | tab q => obtain ⟨vs, q, _⟩ := this; rw [q]; exact fun z => nomatch z
inductive VAll (K : PySem.W.Frag) (A : List Addr) (H : Hp) : List V → List DV → Prop
  | nil : VAll K A H [] []
  | cons {v : V} {x : DV} {vs : List V} {xs : List DV} : VOk K A H v x → VAll K A H vs xs → VAll K A H (v :: vs) (x :: xs)
theorem VOk.ex {K : PySem.W.Frag} {A A' : List Addr} {H H' : Hp} {v : V} {x : DV} (e : Ex (hide A H) (hide A' H')) (ha : ∀ a ∈ A, a ∈ A') (h : VOk K A H v x) : VOk K A' H' v x := by
  cases x with
  | d x => exact Dp.ex e h
  | m a => exact ⟨h.1, ha a h.2⟩
  | no => trivial
/-- the heap grows, or changes where nothing mutable stands -/
theorem RelM.grow {b : Bs} {S : DS} {H H' : Hp} (r : RelM b S H) (e : Ex H H') : RelM b S H' ∧ Ex (hide (Hd b S) H) (hide (Hd b S) H') := by
  have x : Ex (hide (Hd b S) H) (hide (Hd b S) H') := fun a u h => by
    obtain ⟨h1, h2⟩ := hide_some h
    rw [hide_out h2]
    exact e a u h1
  refine ⟨⟨fun t ht => ?_, r.nd, r.fr, fun a o' h1 h2 => e a o' (r.ext a o' h1 h2), r.fxs⟩, x⟩
  have := r.mem t ht
  obtain ⟨a, mo⟩ := t
  cases mo with
  | lst ds => obtain ⟨vs, q1, q2⟩ := this; exact ⟨vs, e _ _ q1, DpAll.ex x q2⟩
  | dct ds => obtain ⟨vs, q1, q2⟩ := this; exact ⟨vs, e _ _ q1, KvAll.ex x q2⟩
  | tab q => exact LamX.TabS.ext this e
theorem Rel.grow {b : Bs} {S : DS} {σ : List (Option V)} {H H' : Hp} (r : Rel b S σ H) (e : Ex H H') : Rel b S σ H' ∧ Ex (hide (Hd b S) H) (hide (Hd b S) H') := by
  obtain ⟨h1, h2⟩ := r.rm.grow e
  refine ⟨⟨r.len, fun i x h => ?_, h1⟩, h2⟩
  rcases r.slot i x h with q | ⟨v, q, k⟩
  · exact .inl q
  · exact .inr ⟨v, q, k.ex h2 fun _ h => h⟩
theorem RelM.fresh {b : Bs} {S : DS} {H : Hp} {p : Addr} (r : RelM b S H) (hp : H p = none) : p ∉ Hd b S := fun q => r.tracked p q hp

/-! ### the judgements -/
section
variable (X : Cx) (b : Bs)
/-- an expression gives x and leaves the state S' -/
def EV (e : Expr) (S : DS) (x : DV) (S' : DS) : Prop := ∀ σ H, Rel b S σ H → ∀ Q : VK, (∀ v H', VOk b.K (Hd b S') H' v x → Rel b S' σ H' → Ex (hide (Hd b S) H) (hide (Hd b S') H') → (∀ a ∈ Hd b S, a ∈ Hd b S') → Q v H') → wE X e σ H Q
def EA (es : List Expr) (S : DS) (xs : List DV) (S' : DS) : Prop := ∀ σ H, Rel b S σ H → ∀ Q : List V → Hp → Prop, (∀ vs H', VAll b.K (Hd b S') H' vs xs → Rel b S' σ H' → Ex (hide (Hd b S) H) (hide (Hd b S') H') → (∀ a ∈ Hd b S, a ∈ Hd b S') → Q vs H') → wA X es σ H Q
def ET (e : Expr) (S : DS) (c : Bool) (S' : DS) : Prop := ∀ σ H, Rel b S σ H → ∀ Q : Bool → Hp → Prop, (∀ H', Rel b S' σ H' → Ex (hide (Hd b S) H) (hide (Hd b S') H') → (∀ a ∈ Hd b S, a ∈ Hd b S') → Q c H') → wT X e σ H Q
def EW (e : Expr) (S : DS) (c : Bool) (S' : DS) : Prop := ∀ σ H, Rel b S σ H → ∀ Q : Bool → Hp → Prop, (∀ H', Rel b S' σ H' → Ex (hide (Hd b S) H) (hide (Hd b S') H') → (∀ a ∈ Hd b S, a ∈ Hd b S') → Q c H') → wW X e σ H Q
/-- what is wanted behind statements -/
structure DE where
  nx : DS → Prop
  rt : DV → DS → Prop
  bk : DS → Prop := fun _ => False
  ct : DS → Prop := fun _ => False
/-- the ends over heaps: X1 is where one began -/
structure EndsOk (b : Bs) (S : DS) (H : Hp) (D : DE) (E : Ends) : Prop where
  nx : ∀ S' σ' H', D.nx S' → Rel b S' σ' H' → Ex (hide (Hd b S) H) (hide (Hd b S') H') → E.nx σ' H'
  rt : ∀ x S' v H', D.rt x S' → VOk b.K (Hd b S') H' v x → RelM b S' H' → Ex (hide (Hd b S) H) (hide (Hd b S') H') → E.rt v H'
  bk : ∀ S' σ' H', D.bk S' → Rel b S' σ' H' → Ex (hide (Hd b S) H) (hide (Hd b S') H') → E.bk σ' H'
  ct : ∀ S' σ' H', D.ct S' → Rel b S' σ' H' → Ex (hide (Hd b S) H) (hide (Hd b S') H') → E.ct σ' H'
def w1 (X : Cx) (st : Stmt) : TS := fun D σ H => ∀ pins s, Inv X pins σ H s → wpAny (model X.prog X.w) X.A (exec st X.env) (SP X pins D) X.xe s
def SX (st : List Stmt) (S : DS) (D : DE) : Prop := ∀ σ H, Rel b S σ H → ∀ E : Ends, EndsOk b S H D E → wS X st E σ H
def SY (st : Stmt) (S : DS) (D : DE) : Prop := ∀ σ H, Rel b S σ H → ∀ E : Ends, EndsOk b S H D E → w1 X st E σ H
end
/-- by values: an operation of two things -/
def RV (b : Bs) (r : R2) (x y : DV) (S : DS) (z : DV) : Prop := ∀ H u v, RelM b S H → VOk b.K (Hd b S) H u x → VOk b.K (Hd b S) H v y → ∀ Q : VK, (∀ w H', VOk b.K (Hd b S) H' w z → (∀ σ, Rel b S σ H → Rel b S σ H') → Ex (hide (Hd b S) H) (hide (Hd b S) H') → Q w H') → r u v H Q
section
variable {X : Cx} {b : Bs} {S S1 S2 S3 S' : DS} {x y z : DV} {pos : Pos}
theorem ev_name {i : Nat} {nm : Str} (hN : X.N[i]? = some nm) (hv : Vis X.env.scope nm) (h : S.g[i]? = some x) (hx : x ≠ .no) (hd : (nm == ("__debug__" : Str)) = false) (hcd : (nm == ("__classdict__" : Str)) = false) : EV X b (.Name nm pos) S x S := by
  intro σ H r Q q
  refine wE_of (pe_var hN hv hd hcd) ?_
  rcases r.slot i x h with k | ⟨v, k1, k2⟩
  · exact (hx k).elim
  · exact ⟨v, k1, q v H k2 r (Ex.refl _) fun _ h => h⟩
theorem ev_int {i : Int} {j} : EV X b (.Constant (.int i) j pos) S (.d (.int i)) S := fun σ H r Q q => wE_of pe_int (q _ H (.int i) r (Ex.refl _) fun _ h => h)
theorem ev_bl {c : Bool} {j} : EV X b (.Constant (.bool c) j pos) S (.d (.bool c)) S := fun σ H r Q q => wE_of pe_bl (q _ H (.bl c) r (Ex.refl _) fun _ h => h)
theorem ev_non {j} : EV X b (.Constant .none j pos) S (.d .none) S := fun σ H r Q q => wE_of pe_non (q _ H .non r (Ex.refl _) fun _ h => h)
theorem ev_str {c : Str} {j} : EV X b (.Constant (.str c) j pos) S (.d (.str c)) S := fun σ H r Q q => wE_of pe_str (q _ H (.str c) r (Ex.refl _) fun _ h => h)
theorem ev_gint {nm : Str} {i : Int} {t : Tok} (hg : Gl X nm) (hm : X.mg nm = some (.int i t)) (hd : (nm == ("__debug__" : Str)) = false) : EV X b (.Name nm pos) S (.d (.int i)) S := fun σ H r Q q => wE_of (pe_glob (v := .int i) hg hm ⟨t, rfl⟩ hd) (q _ H (.int i) r (Ex.refl _) fun _ h => h)
theorem ev_op {e1 e2 : Expr} {op : Operator} {r2 : R2} (ho : OpR X (binaryOp op) r2) (h1 : EV X b e1 S x S1) (h2 : EV X b e2 S1 y S2) (hr : RV b r2 x y S2 z) : EV X b (.BinOp e1 op e2 pos) S z S2 := by
  intro σ H r Q q
  refine wE_of (pe_op ho (peW _) (peW _)) ?_
  refine h1 σ H r _ fun u H1 k1 r1 x1 a1 => ?_
  refine h2 σ H1 r1 _ fun v H2 k2 r2' x2 a2 => ?_
  exact hr H2 u v r2'.rm (k1.ex x2 a2) k2 Q fun w H3 k3 r3 x3 => q w H3 k3 (r3 σ r2') ((x1.trans x2).trans x3) fun a ha => a2 a (a1 a ha)
/-- a value of two ints that stays -/
theorem rv_I {C : Int → Int → Prop} {g : Int → Int → V} {i j : Int} {d : PyData} (hc : C i j) (hg : ∀ H, Dp b.K H (g i j) d) : RV b (rI C g) (.d (.int i)) (.d (.int j)) S (.d d) := by
  intro H u v rm hu hv Q q
  cases hu; cases hv
  exact ⟨i, j, rfl, rfl, hc, q _ H (hg _) (fun _ h => h) (Ex.refl _)⟩
theorem rv_I0 {g : Int → Int → V} {i j : Int} {d : PyData} (hg : ∀ H, Dp b.K H (g i j) d) : RV b (rI0 g) (.d (.int i)) (.d (.int j)) S (.d d) := by
  intro H u v rm hu hv Q q
  cases hu; cases hv
  exact ⟨i, j, rfl, rfl, q _ H (hg _) (fun _ h => h) (Ex.refl _)⟩
theorem ev_add {e1 e2 : Expr} {i j : Int} (h1 : EV X b e1 S (.d (.int i)) S1) (h2 : EV X b e2 S1 (.d (.int j)) S2) : EV X b (.BinOp e1 .Add e2 pos) S (.d (.int (i + j))) S2 := ev_op op_add h1 h2 (rv_I0 fun _ => .int _)
theorem ev_sub {e1 e2 : Expr} {i j : Int} (h1 : EV X b e1 S (.d (.int i)) S1) (h2 : EV X b e2 S1 (.d (.int j)) S2) : EV X b (.BinOp e1 .Sub e2 pos) S (.d (.int (i - j))) S2 := ev_op op_sub h1 h2 (rv_I0 fun _ => .int _)
theorem ev_mul {e1 e2 : Expr} {i j : Int} (h1 : EV X b e1 S (.d (.int i)) S1) (h2 : EV X b e2 S1 (.d (.int j)) S2) (hc : CMulX i j) : EV X b (.BinOp e1 .Mult e2 pos) S (.d (.int (i * j))) S2 := ev_op op_mulX h1 h2 (rv_I hc fun _ => .int _)
theorem ev_mod {e1 e2 : Expr} {i j : Int} (h1 : EV X b e1 S (.d (.int i)) S1) (h2 : EV X b e2 S1 (.d (.int j)) S2) (hc : 0 < j) : EV X b (.BinOp e1 .Mod e2 pos) S (.d (.int (i % j))) S2 := ev_op op_mod h1 h2 (rv_I hc fun _ => .int _)
theorem ev_fdiv {e1 e2 : Expr} {i j : Int} (h1 : EV X b e1 S (.d (.int i)) S1) (h2 : EV X b e2 S1 (.d (.int j)) S2) (hc : CDivW i j) : EV X b (.BinOp e1 .FloorDiv e2 pos) S (.d (.int (i / j))) S2 := ev_op op_fdivW h1 h2 (rv_I hc fun _ => .int _)
theorem ev_shl {e1 e2 : Expr} {i j : Int} (h1 : EV X b e1 S (.d (.int i)) S1) (h2 : EV X b e2 S1 (.d (.int j)) S2) (hc : CShl i j) : EV X b (.BinOp e1 .LShift e2 pos) S (.d (.int (i * 2 ^ j.toNat))) S2 := ev_op op_shlW h1 h2 (rv_I hc fun _ => .int _)
theorem ev_pow {e1 e2 : Expr} {i j : Int} (h1 : EV X b e1 S (.d (.int i)) S1) (h2 : EV X b e2 S1 (.d (.int j)) S2) (hc : CPow i j) : EV X b (.BinOp e1 .Pow e2 pos) S (.d (.int (i ^ j.toNat))) S2 := ev_op op_pow h1 h2 (rv_I hc fun _ => .int _)
/-! comparisons -/
theorem ev_cmp {e1 e2 : Expr} {op : CmpOp} {r2 : R2} (ho : OpR X (compareOp op) r2) (hm : behindInMarks op e2 = false) (h1 : EV X b e1 S x S1) (h2 : EV X b e2 S1 y S2) (hr : RV b r2 x y S2 z) : EV X b (.Compare e1 [op] [e2] pos) S z S2 := by
  intro σ H r Q q
  refine wE_of (pe_cmpR ho (peW _) (peW _) hm) ?_
  refine h1 σ H r _ fun u H1 k1 r1 x1 a1 => ?_
  refine h2 σ H1 r1 _ fun v H2 k2 r2' x2 a2 => ?_
  exact hr H2 u v r2'.rm (k1.ex x2 a2) k2 Q fun w H3 k3 r3 x3 => q w H3 k3 (r3 σ r2') ((x1.trans x2).trans x3) fun a ha => a2 a (a1 a ha)
theorem et_cmp {e1 e2 : Expr} {op : CmpOp} {r2 : R2} {c : Bool} (ho : OpR X (compareOp op) r2) (hm : behindInMarks op e2 = false) (h1 : EV X b e1 S x S1) (h2 : EV X b e2 S1 y S2) (hr : RV b r2 x y S2 (.d (.bool c))) : ET X b (.Compare e1 [op] [e2] pos) S c S2 := by
  intro σ H r Q q
  refine wT_of (pt_cmpR ho (peW _) (peW _) hm) ?_
  refine h1 σ H r _ fun u H1 k1 r1 x1 a1 => ?_
  refine h2 σ H1 r1 _ fun v H2 k2 r2' x2 a2 => ?_
  refine hr H2 u v r2'.rm (k1.ex x2 a2) k2 _ fun w H3 k3 r3 x3 => ?_
  cases k3
  exact ⟨c, rfl, q H3 (r3 σ r2') ((x1.trans x2).trans x3) fun a ha => a2 a (a1 a ha)⟩
end
end DX
end
section
set_option Elab.async false
set_option linter.all false
set_option maxRecDepth 100000
set_option maxHeartbeats 4000000
namespace DX
open PySem PySem.Spec PyProof.Rows L2
set_option autoImplicit false
section
variable {X : Cx} {b : Bs} {S S1 S2 S3 S' : DS} {x y z : DV} {pos : Pos}
/-! ints compared -/
theorem ev_lt {e1 e2 : Expr} {i j : Int} (h1 : EV X b e1 S (.d (.int i)) S1) (h2 : EV X b e2 S1 (.d (.int j)) S2) : EV X b (.Compare e1 [.Lt] [e2] pos) S (.d (.bool (decide (i < j)))) S2 := ev_cmp op_lt (nobehind _ (by decide) (by decide)) h1 h2 (rv_I0 fun _ => .bl _)
theorem ev_le {e1 e2 : Expr} {i j : Int} (h1 : EV X b e1 S (.d (.int i)) S1) (h2 : EV X b e2 S1 (.d (.int j)) S2) : EV X b (.Compare e1 [.LtE] [e2] pos) S (.d (.bool (decide (i ≤ j)))) S2 := ev_cmp op_le (nobehind _ (by decide) (by decide)) h1 h2 (rv_I0 fun _ => .bl _)
theorem ev_gt {e1 e2 : Expr} {i j : Int} (h1 : EV X b e1 S (.d (.int i)) S1) (h2 : EV X b e2 S1 (.d (.int j)) S2) : EV X b (.Compare e1 [.Gt] [e2] pos) S (.d (.bool (decide (j < i)))) S2 := ev_cmp op_gt (nobehind _ (by decide) (by decide)) h1 h2 (rv_I0 fun _ => .bl _)
theorem ev_ge {e1 e2 : Expr} {i j : Int} (h1 : EV X b e1 S (.d (.int i)) S1) (h2 : EV X b e2 S1 (.d (.int j)) S2) : EV X b (.Compare e1 [.GtE] [e2] pos) S (.d (.bool (decide (j ≤ i)))) S2 := ev_cmp op_ge (nobehind _ (by decide) (by decide)) h1 h2 (rv_I0 fun _ => .bl _)
theorem et_lt {e1 e2 : Expr} {i j : Int} (h1 : EV X b e1 S (.d (.int i)) S1) (h2 : EV X b e2 S1 (.d (.int j)) S2) : ET X b (.Compare e1 [.Lt] [e2] pos) S (decide (i < j)) S2 := et_cmp op_lt (nobehind _ (by decide) (by decide)) h1 h2 (rv_I0 fun _ => .bl _)
theorem et_le {e1 e2 : Expr} {i j : Int} (h1 : EV X b e1 S (.d (.int i)) S1) (h2 : EV X b e2 S1 (.d (.int j)) S2) : ET X b (.Compare e1 [.LtE] [e2] pos) S (decide (i ≤ j)) S2 := et_cmp op_le (nobehind _ (by decide) (by decide)) h1 h2 (rv_I0 fun _ => .bl _)
theorem et_gt {e1 e2 : Expr} {i j : Int} (h1 : EV X b e1 S (.d (.int i)) S1) (h2 : EV X b e2 S1 (.d (.int j)) S2) : ET X b (.Compare e1 [.Gt] [e2] pos) S (decide (j < i)) S2 := et_cmp op_gt (nobehind _ (by decide) (by decide)) h1 h2 (rv_I0 fun _ => .bl _)
theorem et_ge {e1 e2 : Expr} {i j : Int} (h1 : EV X b e1 S (.d (.int i)) S1) (h2 : EV X b e2 S1 (.d (.int j)) S2) : ET X b (.Compare e1 [.GtE] [e2] pos) S (decide (j ≤ i)) S2 := et_cmp op_ge (nobehind _ (by decide) (by decide)) h1 h2 (rv_I0 fun _ => .bl _)
/-- == by data -/
theorem rv_eqD {d e : PyData} (h1 : SeqAt.shaped d = true) (h2 : SeqAt.shaped e = true) : RV b (rEqD b.K) (.d d) (.d e) S (.d (.bool (PyData.eqv d e))) := by
  intro H u v rm hu hv Q q
  exact ⟨d, e, Dp.ex hide_ex hu, Dp.ex hide_ex hv, h1, h2, q _ H (.bl _) (fun _ h => h) (Ex.refl _)⟩
theorem rv_neD {d e : PyData} (h1 : SeqAt.shaped d = true) (h2 : SeqAt.shaped e = true) : RV b (rNeD b.K) (.d d) (.d e) S (.d (.bool (!PyData.eqv d e))) := by
  intro H u v rm hu hv Q q
  exact ⟨d, e, Dp.ex hide_ex hu, Dp.ex hide_ex hv, h1, h2, q _ H (.bl _) (fun _ h => h) (Ex.refl _)⟩
theorem ev_eq {e1 e2 : Expr} {d e : PyData} (hK : X.K = b.K) (hu : X.A.units + 64 < cLine) (h1 : EV X b e1 S (.d d) S1) (h2 : EV X b e2 S1 (.d e) S2) (s1 : SeqAt.shaped d = true) (s2 : SeqAt.shaped e = true) : EV X b (.Compare e1 [.Eq] [e2] pos) S (.d (.bool (PyData.eqv d e))) S2 := ev_cmp (op_eqD hu) (nobehind _ (by decide) (by decide)) h1 h2 (by rw [hK]; exact rv_eqD s1 s2)
theorem et_eq {e1 e2 : Expr} {d e : PyData} (hK : X.K = b.K) (hu : X.A.units + 64 < cLine) (h1 : EV X b e1 S (.d d) S1) (h2 : EV X b e2 S1 (.d e) S2) (s1 : SeqAt.shaped d = true) (s2 : SeqAt.shaped e = true) : ET X b (.Compare e1 [.Eq] [e2] pos) S (PyData.eqv d e) S2 := et_cmp (op_eqD hu) (nobehind _ (by decide) (by decide)) h1 h2 (by rw [hK]; exact rv_eqD s1 s2)
theorem ev_ne {e1 e2 : Expr} {d e : PyData} (hK : X.K = b.K) (hu : X.A.units + 64 < cLine) (h1 : EV X b e1 S (.d d) S1) (h2 : EV X b e2 S1 (.d e) S2) (s1 : SeqAt.shaped d = true) (s2 : SeqAt.shaped e = true) : EV X b (.Compare e1 [.NotEq] [e2] pos) S (.d (.bool (!PyData.eqv d e))) S2 := ev_cmp (op_neD hu) (nobehind _ (by decide) (by decide)) h1 h2 (by rw [hK]; exact rv_neD s1 s2)
theorem et_ne {e1 e2 : Expr} {d e : PyData} (hK : X.K = b.K) (hu : X.A.units + 64 < cLine) (h1 : EV X b e1 S (.d d) S1) (h2 : EV X b e2 S1 (.d e) S2) (s1 : SeqAt.shaped d = true) (s2 : SeqAt.shaped e = true) : ET X b (.Compare e1 [.NotEq] [e2] pos) S (!PyData.eqv d e) S2 := et_cmp (op_neD hu) (nobehind _ (by decide) (by decide)) h1 h2 (by rw [hK]; exact rv_neD s1 s2)
/-- ints by == -/
theorem rv_eqI {i j : Int} : RV b rEq (.d (.int i)) (.d (.int j)) S (.d (.bool (decide (i = j)))) := by
  intro H u v rm hu hv Q q
  cases hu; cases hv
  refine ⟨rfl, q _ H ?_ (fun _ h => h) (Ex.refl _)⟩
  have : decide (V.int i = V.int j) = decide (i = j) := by
    by_cases h : i = j
    · subst h; simp
    · simp [h]
  rw [this]
  exact .bl _
theorem rv_neI {i j : Int} : RV b rNe (.d (.int i)) (.d (.int j)) S (.d (.bool (!decide (i = j)))) := by
  intro H u v rm hu hv Q q
  cases hu; cases hv
  refine ⟨rfl, q _ H ?_ (fun _ h => h) (Ex.refl _)⟩
  have : decide (V.int i = V.int j) = decide (i = j) := by
    by_cases h : i = j
    · subst h; simp
    · simp [h]
  rw [this]
  exact .bl _
theorem ev_eqI {e1 e2 : Expr} {i j : Int} (h1 : EV X b e1 S (.d (.int i)) S1) (h2 : EV X b e2 S1 (.d (.int j)) S2) : EV X b (.Compare e1 [.Eq] [e2] pos) S (.d (.bool (decide (i = j)))) S2 := ev_cmp op_eq (nobehind _ (by decide) (by decide)) h1 h2 rv_eqI
theorem et_eqI {e1 e2 : Expr} {i j : Int} (h1 : EV X b e1 S (.d (.int i)) S1) (h2 : EV X b e2 S1 (.d (.int j)) S2) : ET X b (.Compare e1 [.Eq] [e2] pos) S (decide (i = j)) S2 := et_cmp op_eq (nobehind _ (by decide) (by decide)) h1 h2 rv_eqI
theorem ev_neI {e1 e2 : Expr} {i j : Int} (h1 : EV X b e1 S (.d (.int i)) S1) (h2 : EV X b e2 S1 (.d (.int j)) S2) : EV X b (.Compare e1 [.NotEq] [e2] pos) S (.d (.bool (!decide (i = j)))) S2 := ev_cmp op_ne (nobehind _ (by decide) (by decide)) h1 h2 rv_neI
theorem et_neI {e1 e2 : Expr} {i j : Int} (h1 : EV X b e1 S (.d (.int i)) S1) (h2 : EV X b e2 S1 (.d (.int j)) S2) : ET X b (.Compare e1 [.NotEq] [e2] pos) S (!decide (i = j)) S2 := et_cmp op_ne (nobehind _ (by decide) (by decide)) h1 h2 rv_neI
/-- a chain of two -/
theorem et_chain {e1 e2 e3 : Expr} {op op' : CmpOp} {r r' : R2} {c c' : Bool} {u : DV} (ho : OpR X (compareOp op) r) (ho' : OpR X (compareOp op') r') (hl : lastMarks [op, op'] [e2, e3] = false) (h1 : EV X b e1 S x S) (h2 : EV X b e2 S y S) (h3 : EV X b e3 S u S)
    (hr : RV b r x y S (.d (.bool c))) (hr' : RV b r' y u S (.d (.bool c'))) : ET X b (.Compare e1 [op, op'] [e2, e3] pos) S (c && c') S := by
  intro σ H rl Q q
  refine wT_of (pt_chain ho ho' (peW _) (peW _) (peW _) hl) ?_
  refine h1 σ H rl _ fun v1 H1 k1 r1 x1 a1 => ?_
  refine h2 σ H1 r1 _ fun v2 H2 k2 r2 x2 a2 => ?_
  refine hr H2 v1 v2 r2.rm (k1.ex x2 a2) k2 _ fun w H3 k3 r3 x3 => ?_
  cases k3
  refine ⟨c, rfl, ?_⟩
  cases c with
  | true =>
    show wE X e3 σ H3 _
    refine h3 σ H3 (r3 σ r2) _ fun v3 H4 k4 r4 x4 a4 => ?_
    refine hr' H4 v2 v3 r4.rm (k2.ex (x3.trans x4) a4) k4 _ fun w' H5 k5 r5 x5 => ?_
    cases k5
    exact ⟨c', rfl, q H5 (r5 σ r4) ((((x1.trans x2).trans x3).trans x4).trans x5) fun _ h => h⟩
  | false => exact ⟨false, rfl, q H3 (r3 σ r2) ((x1.trans x2).trans x3) fun _ h => h⟩
theorem ev_chain {e1 e2 e3 : Expr} {op op' : CmpOp} {r r' : R2} {c c' : Bool} {u : DV} (ho : OpR X (compareOp op) r) (ho' : OpR X (compareOp op') r') (hl : lastMarks [op, op'] [e2, e3] = false) (h1 : EV X b e1 S x S) (h2 : EV X b e2 S y S) (h3 : EV X b e3 S u S)
    (hr : RV b r x y S (.d (.bool c))) (hr' : RV b r' y u S (.d (.bool c'))) : EV X b (.Compare e1 [op, op'] [e2, e3] pos) S (.d (.bool (c && c'))) S := by
  intro σ H rl Q q
  refine wE_of (pe_chain ho ho' (peW _) (peW _) (peW _) hl) ?_
  refine h1 σ H rl _ fun v1 H1 k1 r1 x1 a1 => ?_
  refine h2 σ H1 r1 _ fun v2 H2 k2 r2 x2 a2 => ?_
  refine hr H2 v1 v2 r2.rm (k1.ex x2 a2) k2 _ fun w H3 k3 r3 x3 => ?_
  cases k3
  refine ⟨c, rfl, ?_⟩
  cases c with
  | true =>
    show wE X e3 σ H3 _
    refine h3 σ H3 (r3 σ r2) _ fun v3 H4 k4 r4 x4 a4 => ?_
    refine hr' H4 v2 v3 r4.rm (k2.ex (x3.trans x4) a4) k4 _ fun w' H5 k5 r5 x5 => ?_
    cases k5
    exact q _ H5 (.bl _) (r5 σ r4) ((((x1.trans x2).trans x3).trans x4).trans x5) fun _ h => h
  | false => exact q _ H3 (.bl _) (r3 σ r2) ((x1.trans x2).trans x3) fun _ h => h
/-! and, or, not, truth -/
theorem et_val {e : Expr} {c : Bool} (h : EV X b e S (.d (.bool c)) S1) (he : ∀ whole, isTrue e X.env whole = (do let v ← whole; standAt e.pos; holding [v] (truthy v)) := by intro _; rfl) : ET X b e S c S1 := by
  intro σ H r Q q
  refine wT_of (pt_val (peW _) he) (h σ H r _ fun v H1 k1 r1 x1 a1 => ?_)
  cases k1
  exact ⟨c, rfl, q H1 r1 x1 a1⟩
theorem et_truth {e : Expr} {x : DV} {c : Bool} (h : EV X b e S x S1) (ht : ∀ v H, VOk b.K (Hd b S1) H v x → TruV X.K v H c) (he : ∀ whole, isTrue e X.env whole = (do let v ← whole; standAt e.pos; holding [v] (truthy v)) := by intro _; rfl) : ET X b e S c S1 := by
  intro σ H r Q q
  refine wT_of (pt_truth (peW _) he) (h σ H r _ fun v H1 k1 r1 x1 a1 => ?_)
  exact ⟨c, ht v H1 k1, q H1 r1 x1 a1⟩
theorem tru_tup {ds : List PyData} (hK : X.K = b.K) : ∀ v H, VOk b.K (Hd b S) H v (.d (.tuple ds)) → TruV X.K v H (!ds.isEmpty) := by
  intro v H h
  cases h with
  | tup hs ha =>
    rename_i a xs
    refine .inr (.inl ⟨xs, by rw [hK]; exact ex_t hide_ex hs, ?_⟩)
    have := DpAll.len ha
    cases ds <;> cases xs <;> simp_all
theorem et_and1 {a : Expr} {c : Bool} (h : ET X b a S c S1) : EW X b (.BoolOp .And [a] pos) S c S1 := fun σ H r Q q => wW_of (pw_and1 (ptW _)) (h σ H r Q q)
theorem et_or1 {a : Expr} {c : Bool} (h : ET X b a S c S1) : EW X b (.BoolOp .Or [a] pos) S c S1 := fun σ H r Q q => wW_of (pw_or1 (ptW _)) (h σ H r Q q)
theorem ew_and {a e : Expr} {rest : List Expr} {c d : Bool} (h1 : ET X b a S c S) (h2 : c = true → EW X b (.BoolOp .And (e :: rest) pos) S d S) : EW X b (.BoolOp .And (a :: e :: rest) pos) S (c && d) S := by
  intro σ H r Q q
  refine wW_of (pw_and (ptW _) (pwW _)) (h1 σ H r _ fun H1 r1 x1 a1 => ?_)
  cases c with
  | true => exact h2 rfl σ H1 r1 Q fun H2 r2 x2 a2 => q H2 r2 (x1.trans x2) a2
  | false => exact q H1 r1 x1 a1
theorem ew_or {a e : Expr} {rest : List Expr} {c d : Bool} (h1 : ET X b a S c S) (h2 : c = false → EW X b (.BoolOp .Or (e :: rest) pos) S d S) : EW X b (.BoolOp .Or (a :: e :: rest) pos) S (c || d) S := by
  intro σ H r Q q
  refine wW_of (pw_or (ptW _) (pwW _)) (h1 σ H r _ fun H1 r1 x1 a1 => ?_)
  cases c with
  | false => exact h2 rfl σ H1 r1 Q fun H2 r2 x2 a2 => q H2 r2 (x1.trans x2) a2
  | true => exact q H1 r1 x1 a1
theorem et_w {e : Expr} {c : Bool} (h : EW X b e S c S1) : ET X b e S c S1 := fun σ H r Q q => wT_of (pwW e).pt (h σ H r Q q)
theorem et_not {e : Expr} {c : Bool} (h : ET X b e S c S1) : ET X b (.UnaryOp .Not e pos) S (!c) S1 := fun σ H r Q q => wT_of (pt_not (ptW _)) (h σ H r _ fun H1 r1 x1 a1 => q H1 r1 x1 a1)
theorem ev_one {op} {e : Expr} (h : EV X b e S x S1) : EV X b (.BoolOp op [e] pos) S x S1 := fun σ H r Q q => wE_of (pe_one (peW _)) (h σ H r Q q)
theorem ev_and {a e : Expr} {rest : List Expr} {c d : Bool} (h1 : EV X b a S (.d (.bool c)) S) (h2 : c = true → EV X b (.BoolOp .And (e :: rest) pos) S (.d (.bool d)) S) : EV X b (.BoolOp .And (a :: e :: rest) pos) S (.d (.bool (c && d))) S := by
  intro σ H r Q q
  refine wE_of (pe_and (peW _) (peW _)) (h1 σ H r _ fun v H1 k1 r1 x1 a1 => ?_)
  cases k1
  refine ⟨c, rfl, ?_⟩
  cases c with
  | true => exact h2 rfl σ H1 r1 Q fun v H2 k2 r2 x2 a2 => q v H2 k2 r2 (x1.trans x2) a2
  | false => exact q _ H1 (.bl _) r1 x1 a1
theorem ev_or {a e : Expr} {rest : List Expr} {c d : Bool} (h1 : EV X b a S (.d (.bool c)) S) (h2 : c = false → EV X b (.BoolOp .Or (e :: rest) pos) S (.d (.bool d)) S) : EV X b (.BoolOp .Or (a :: e :: rest) pos) S (.d (.bool (c || d))) S := by
  intro σ H r Q q
  refine wE_of (pe_or (peW _) (peW _)) (h1 σ H r _ fun v H1 k1 r1 x1 a1 => ?_)
  cases k1
  refine ⟨c, rfl, ?_⟩
  cases c with
  | false => exact h2 rfl σ H1 r1 Q fun v H2 k2 r2 x2 a2 => q v H2 k2 r2 (x1.trans x2) a2
  | true => exact q _ H1 (.bl _) r1 x1 a1
theorem ev_not {e : Expr} {c : Bool} (h : EV X b e S (.d (.bool c)) S1) : EV X b (.UnaryOp .Not e pos) S (.d (.bool (!c))) S1 := by
  intro σ H r Q q
  refine wE_of (pe_not (peW _)) (h σ H r _ fun v H1 k1 r1 x1 a1 => ?_)
  cases k1
  exact ⟨c, rfl, q _ H1 (.bl _) r1 x1 a1⟩
theorem ev_if {c e1 e2 : Expr} {t : Bool} (h : ET X b c S t S) (h1 : t = true → EV X b e1 S x S') (h2 : t = false → EV X b e2 S x S') : EV X b (.IfExp c e1 e2 pos) S x S' := by
  intro σ H r Q q
  refine wE_of (pe_ifExp (ptW _) (peW _) (peW _)) (h σ H r _ fun H1 r1 x1 a1 => ?_)
  cases t with
  | true => exact h1 rfl σ H1 r1 Q fun v H2 k2 r2 x2 a2 => q v H2 k2 r2 (x1.trans x2) a2
  | false => exact h2 rfl σ H1 r1 Q fun v H2 k2 r2 x2 a2 => q v H2 k2 r2 (x1.trans x2) a2
/-! arguments -/
theorem ea_nil : EA X b [] S [] S := fun σ H r Q q => wA_of pa_nil (q [] H .nil r (Ex.refl _) fun _ h => h)
theorem ea_cons {e : Expr} {es : List Expr} {xs : List DV} (h1 : EV X b e S x S1) (h2 : EA X b es S1 xs S2) (he : starEach (e :: es) X.env = (false, eval e X.env) :: starEach es X.env := by rfl) : EA X b (e :: es) S (x :: xs) S2 := by
  intro σ H r Q q
  refine wA_of (pa_cons (peW _) (paW _) he) (h1 σ H r _ fun v H1 k1 r1 x1 a1 => ?_)
  exact h2 σ H1 r1 _ fun vs H2 k2 r2 x2 a2 => q _ H2 (.cons (k1.ex x2 a2) k2) r2 (x1.trans x2) fun a ha => a2 a (a1 a ha)
theorem vall_d {K : PySem.W.Frag} {A : List Addr} {H : Hp} : ∀ {vs : List V} {ds : List PyData}, VAll K A H vs (ds.map .d) → DpAll K (hide A H) vs ds
  | _, [], h => by cases h; exact .nil
  | _, d :: ds, h => by
    cases h with
    | cons h hs => exact .cons h (vall_d hs)
theorem hide_new {A : List Addr} {H : Hp} {p : Addr} {o : HO} (hA : p ∉ A) : hide A (upd H p o) p = some o := by
  rw [hide_out hA]
  exact upd_same
/-- a tuple, a list of data -/
theorem ev_tup {es : List Expr} {ds : List PyData} {k : Nat} (h : EA X b es S (ds.map .d) S1) (hz : ds.length ≤ 1000) : EV X b (.Tuple es k pos) S (.d (.tuple ds)) S1 := by
  intro σ H r Q q
  refine wE_of (pe_tup (paW _)) (h σ H r _ fun vs H1 k1 r1 x1 a1 => ?_)
  have hd := vall_d k1
  refine ⟨by rw [DpAll.len hd]; exact Nat.le_of_lt (small1000 hz), fun p hp => ?_⟩
  obtain ⟨r2, x2⟩ := r1.grow (Ex.new (o := .tup vs) hp)
  exact q _ _ (.tup (.inl (.inl (hide_new (r1.rm.fresh hp)))) (DpAll.ex x2 hd)) r2 (x1.trans x2) a1
theorem ev_lst {es : List Expr} {ds : List PyData} (h : EA X b es S (ds.map .d) S1) (hz : ds.length ≤ 1000) : EV X b (.List es pos) S (.d (.list ds)) S1 := by
  intro σ H r Q q
  refine wE_of (pe_lst (paW _)) (h σ H r _ fun vs H1 k1 r1 x1 a1 => ?_)
  have hd := vall_d k1
  refine ⟨by rw [DpAll.len hd]; exact Nat.le_of_lt (small1000 hz), fun p hp => ?_⟩
  obtain ⟨r2, x2⟩ := r1.grow (Ex.new (o := .lst vs) hp)
  exact q _ _ (.lst (.inl (.inl (hide_new (r1.rm.fresh hp)))) (DpAll.ex x2 hd)) r2 (x1.trans x2) a1
/-! subscripts -/
theorem atI_map {vs : List V} {ds : List PyData} {K : PySem.W.Frag} {H : Hp} {i : Int} {d : PyData} (h : DpAll K H vs ds) (e : atI ds i = some d) : ∃ v, atI vs i = some v ∧ Dp K H v d := by
  unfold atI at e ⊢
  rw [DpAll.len h]
  cases hx : ixN ds.length i with
  | none => rw [hx] at e; cases e
  | some j =>
    rw [hx] at e
    exact dpAll_get h e
theorem ev_ixT {e1 e2 : Expr} {ds : List PyData} {i : Int} {d : PyData} (hK : X.K = b.K) (h1 : EV X b e1 S (.d (.tuple ds)) S1) (h2 : EV X b e2 S1 (.d (.int i)) S2) (hi : atI ds i = some d) (hp : PlainIx e2 := by exact fun _ _ => rfl) : EV X b (.Subscript e1 e2 pos) S (.d d) S2 := by
  intro σ H r Q q
  refine wE_of (pe_ix ix_tup (peW _) (peW _) hp) (h1 σ H r _ fun u H1 k1 r1 x1 a1 => ?_)
  refine h2 σ H1 r1 _ fun v H2 k2 r2 x2 a2 => ?_
  have k1' := k1.ex x2 a2
  cases k2
  cases k1' with
  | tup hs ha =>
    obtain ⟨w, e1, e2⟩ := atI_map ha hi
    exact ⟨_, _, i, w, rfl, rfl, by rw [hK]; exact ex_t hide_ex hs, e1, q w H2 e2 r2 (x1.trans x2) fun a ha => a2 a (a1 a ha)⟩
theorem ev_ixL {e1 e2 : Expr} {ds : List PyData} {i : Int} {d : PyData} (hK : X.K = b.K) (h1 : EV X b e1 S (.d (.list ds)) S1) (h2 : EV X b e2 S1 (.d (.int i)) S2) (hi : atI ds i = some d) (hp : PlainIx e2 := by exact fun _ _ => rfl) : EV X b (.Subscript e1 e2 pos) S (.d d) S2 := by
  intro σ H r Q q
  refine wE_of (pe_ix ix_list (peW _) (peW _) hp) (h1 σ H r _ fun u H1 k1 r1 x1 a1 => ?_)
  refine h2 σ H1 r1 _ fun v H2 k2 r2 x2 a2 => ?_
  have k1' := k1.ex x2 a2
  cases k2
  cases k1' with
  | lst hs ha =>
    obtain ⟨w, e1, e2⟩ := atI_map ha hi
    exact ⟨_, _, i, w, rfl, rfl, by rw [hK]; exact ex_l hide_ex hs, e1, q w H2 e2 r2 (x1.trans x2) fun a ha => a2 a (a1 a ha)⟩
/-- an item of a mutable list -/
theorem ev_ixM {e1 e2 : Expr} {a : Addr} {ds : List PyData} {i : Int} {d : PyData} (hK : X.K = b.K) (h1 : EV X b e1 S (.m a) S1) (h2 : EV X b e2 S1 (.d (.int i)) S2) (hm : (a, MO.lst ds) ∈ S2.m) (hi : atI ds i = some d) (hp : PlainIx e2 := by exact fun _ _ => rfl) : EV X b (.Subscript e1 e2 pos) S (.d d) S2 := by
  intro σ H r Q q
  refine wE_of (pe_ix ix_list (peW _) (peW _) hp) (h1 σ H r _ fun u H1 k1 r1 x1 a1 => ?_)
  refine h2 σ H1 r1 _ fun v H2 k2 r2 x2 a2 => ?_
  obtain ⟨rfl, _⟩ := k1
  cases k2
  obtain ⟨vs, e1, e2⟩ := r2.rm.mem _ hm
  obtain ⟨w, e3, e4⟩ := atI_map e2 hi
  exact ⟨_, _, i, w, rfl, rfl, .inl (.inl e1), e3, q w H2 e4 r2 (x1.trans x2) fun a ha => a2 a (a1 a ha)⟩
/-! calls of the module's own defs that change nothing -/
def FP (K : PySem.W.Frag) (f : List PyData → PyData → Prop) : Sp := fun vs H Q _ => ∃ (A : List Addr) (ds : List PyData) (d : PyData), (∀ a ∈ A, H a ≠ none) ∧ DpAll K (hide A H) vs ds ∧ f ds d ∧ ∀ v H', Ex H H' → Dp K (hide A H') v d → Q v H'
theorem ev_call {k : Nat} {fa : Addr} {fd : FuncData} {ps : List Str} {f : List PyData → PyData → Prop} {nm : Str} {p : Pos} {e : Expr} {es : List Expr} {ds : List PyData} {d : PyData} {E : XK} {CX : CXT}
    (F : FnOk X.prog X.w X.K X.mg X.base CX k fa fd ps (FP X.K f)) (hK : X.K = b.K) (hr : Room k X.A) (hg : Gl X nm) (hm : X.mg nm = some (.ref fa)) (kp : PySem.W.keepIn X.K (.ref fa) = true) (hb : L2.Binds X.K fd ps []) (hx : Passes CX X E)
    (ha : EA X b (e :: es) S (ds.map .d) S1) (hf : f ds d) (hdb : (nm == ("__debug__" : Str)) = false := by decide)
    (he : starEach (e :: es) X.env = (false, eval e X.env) :: starEach es X.env := by rfl) (hpl : (backTo pos (starEach es X.env)).any (·.1) = false := by rfl) : EV X b (.Call (.Name nm p) (e :: es) [] pos) S (.d d) S1 := by
  intro σ H r Q q
  refine wE_of (pe_call F hr hg hm kp hb .nil hx (paW _) hdb he hpl) (ha σ H r _ fun vs H1 k1 r1 x1 a1 => ?_)
  show FP X.K f (vs ++ []) H1 Q E
  rw [List.append_nil, hK]
  refine ⟨Hd b S1, ds, d, r1.rm.tracked, vall_d k1, hf, fun v H2 x2 k2 => ?_⟩
  obtain ⟨r2, x3⟩ := r1.grow x2
  exact q v H2 k2 r2 (x1.trans x3) a1
end
end DX
end
section
set_option Elab.async false
set_option linter.all false
set_option maxRecDepth 100000
set_option maxHeartbeats 4000000
namespace DX
open PySem PySem.Spec PyProof.Rows L2
set_option autoImplicit false
section
variable {X : Cx} {b : Bs} {S S1 S2 S3 S' : DS} {x y z : DV} {pos : Pos} {D : DE} {rest : List Stmt}
theorem psW (st : Stmt) : PS X st (w1 X st) := ⟨fun pins s _ _ _ I h => h pins s I⟩
theorem w1_of {st : Stmt} {t : TS} (h : PS X st t) {E : Ends} {σ : List (Option V)} {H : Hp} (q : t E σ H) : w1 X st E σ H := fun pins s I => h.run pins s σ H E I q
/-- what was begun further back -/
theorem EndsOk.later {b : Bs} {S S1 : DS} {H H1 : Hp} {D : DE} {E : Ends} (k : EndsOk b S H D E) (x : Ex (hide (Hd b S) H) (hide (Hd b S1) H1)) : EndsOk b S1 H1 D E :=
  ⟨fun S' σ' H' d r e => k.nx S' σ' H' d r (x.trans e), fun y S' v H' d vo r e => k.rt y S' v H' d vo r (x.trans e), fun S' σ' H' d r e => k.bk S' σ' H' d r (x.trans e), fun S' σ' H' d r e => k.ct S' σ' H' d r (x.trans e)⟩
def DE.to (D : DE) (N : DS → Prop) : DE := { D with nx := N }
theorem sx_nil (h : D.nx S) : SX X b [] S D := fun σ H r E k => wS_of pss_nil (k.nx S σ H h r (Ex.refl _))
theorem sx_cons {st : Stmt} (h : SY X b st S (D.to fun S' => SX X b rest S' D)) : SX X b (st :: rest) S D := by
  intro σ H r E k
  refine wS_of (pss_cons (psW st) (pssW rest)) ?_
  refine h σ H r _ ⟨fun S' σ' H' d r' e => ?_, fun x S' v H' d vo r' e => k.rt x S' v H' d vo r' e, fun S' σ' H' d r' e => k.bk S' σ' H' d r' e, fun S' σ' H' d r' e => k.ct S' σ' H' d r' e⟩
  exact d σ' H' r' E (k.later e)
theorem sx_one {st : Stmt} (h : SY X b st S D) : SX X b [st] S D := fun σ H r E k => wS_of (pss_one (psW st)) (h σ H r E k)
/-- a slot is set -/
def DS.put (S : DS) (i : Nat) (x : DV) : DS := { S with g := S.g.set i x }
theorem Rel.put {σ : List (Option V)} {H : Hp} {v : V} {i : Nat} (r : Rel b S σ H) (hi : i < S.g.length) (k : VOk b.K (Hd b S) H v x) : Rel b (S.put i x) (σ.set i (some v)) H := by
  refine ⟨by rw [List.length_set]; show σ.length = (S.g.set i x).length; rw [List.length_set]; exact r.len, fun j y h => ?_, ⟨r.rm.mem, r.rm.nd, r.rm.fr, r.rm.ext, r.rm.fxs⟩⟩
  have h : (S.g.set i x)[j]? = some y := h
  by_cases e : i = j
  · subst e
    rw [List.getElem?_set_self hi] at h
    cases (Option.some.inj h)
    exact .inr ⟨v, List.getElem?_set_self (by rw [r.len]; exact hi), k⟩
  · rw [List.getElem?_set_ne e] at h
    rcases r.slot j y h with q | ⟨w, q, k'⟩
    · exact .inl q
    · exact .inr ⟨w, by rw [List.getElem?_set_ne e]; exact q, k'⟩
theorem sy_asg {nm : Str} {i : Nat} {e : Expr} {pos' : Pos} (h : EV X b e S x S1) (hN : X.N.Nodup) (hi : X.N[i]? = some nm) (hx : Loc X.env.scope nm) (hl : i < S1.g.length) (hd : D.nx (S1.put i x)) (hs : swapsWith e (some (.Name nm pos')) pos.line X.env = pure false := by rfl)
    (hf : X.fn nm = true ∨ X.env.scope.names.lookup nm = some .local := by first | exact .inl rfl | exact .inr rfl) : SY X b (.Assign [.Name nm pos'] e pos) S D := by
  intro σ H r E k
  refine w1_of (ps_set hN hi hx (peW _) hs hf) (h σ H r _ fun v H1 k1 r1 x1 a1 => ?_)
  exact k.nx _ _ _ hd (r1.put hl k1) x1
theorem sy_ret {e : Expr} (h : EV X b e S x S1) (hd : D.rt x S1) : SY X b (.Return (some e) pos) S D := by
  intro σ H r E k
  exact w1_of (ps_ret (peW _)) (h σ H r _ fun v H1 k1 r1 x1 a1 => k.rt _ _ _ _ hd k1 r1.rm x1)
theorem sy_if {c : Expr} {a e : List Stmt} {t : Bool} (h : ET X b c S t S1) (h1 : t = true → SX X b a S1 D) (h2 : t = false → SX X b e S1 D) : SY X b (.If c a e pos) S D := by
  intro σ H r E k
  refine w1_of (ps_if (ptW _) (pssW _) (pssW _)) (h σ H r _ fun H1 r1 x1 a1 => ?_)
  cases t with
  | true => exact h1 rfl σ H1 r1 E (k.later x1)
  | false => exact h2 rfl σ H1 r1 E (k.later x1)
theorem sy_expr {e : Expr} (h : EV X b e S x S1) (hd : D.nx S1) (hs : swapsWith e none pos.line X.env = pure false := by rfl) : SY X b (.Expr e pos) S D := by
  intro σ H r E k
  exact w1_of (ps_expr (peW _) hs) (h σ H r _ fun v H1 k1 r1 x1 a1 => k.nx _ _ _ hd r1 x1)
theorem sy_pass (hd : D.nx S) : SY X b (.Pass pos) S D := fun σ H r E k => w1_of ps_pass (k.nx _ _ _ hd r (Ex.refl _))
theorem sy_break (hd : D.bk S) : SY X b (.Break pos) S D := fun σ H r E k => w1_of ps_break (k.bk _ _ _ hd r (Ex.refl _))
theorem sy_continue (hd : D.ct S) : SY X b (.Continue pos) S D := fun σ H r E k => w1_of ps_continue (k.ct _ _ _ hd r (Ex.refl _))
/-- op= upon ints -/
theorem sy_aug {nm : Str} {i : Nat} {e : Expr} {op : Operator} {pos' : Pos} {f : Int → Int → Int} {C : Int → Int → Prop} {m n : Int} (ho : PIp X op fun x y H Q => ∃ i j, x = .int i ∧ y = .int j ∧ C i j ∧ Q (.int (f i j)) H) (h0 : S.g[i]? = some (.d (.int m))) (h : EV X b e S (.d (.int n)) S1) (hc : C m n) (hN : X.N.Nodup) (hi : X.N[i]? = some nm) (hx : Loc X.env.scope nm)
    (hl : i < S1.g.length) (hd : D.nx (S1.put i (.d (.int (f m n))))) (hf : X.fn nm = true ∨ X.env.scope.names.lookup nm = some .local := by first | exact .inl rfl | exact .inr rfl) : SY X b (.AugAssign (.Name nm pos') op e pos) S D := by
  intro σ H r E k
  refine w1_of (ps_aug hN hi hx (peW _) ho hf) ?_
  rcases r.slot i _ h0 with q | ⟨v, q, kv⟩
  · cases q
  · cases kv
    refine ⟨.int m, q, h σ H r _ fun w H1 k1 r1 x1 a1 => ?_⟩
    cases k1
    exact ⟨m, n, rfl, rfl, hc, k.nx _ _ _ hd (r1.put hl (.int _)) x1⟩
theorem ipR {op : Operator} {C : Int → Int → Prop} {f : Int → Int → Int} (h : OpR X (inplaceOp op) (rI C fun i j => .int (f i j))) : PIp X op fun x y H Q => ∃ i j, x = .int i ∧ y = .int j ∧ C i j ∧ Q (.int (f i j)) H :=
  fun pins s σ H x y v u Q I rx ry q => h pins s σ H x y v u Q I rx ry q
theorem ipR0 {op : Operator} {f : Int → Int → Int} (h : OpR X (inplaceOp op) (rI0 fun i j => .int (f i j))) : PIp X op fun x y H Q => ∃ i j, x = .int i ∧ y = .int j ∧ True ∧ Q (.int (f i j)) H :=
  fun pins s σ H x y v u Q I rx ry ⟨i, j, e1, e2, _, q⟩ => h pins s σ H x y v u Q I rx ry ⟨i, j, e1, e2, q⟩
/-- while -/
theorem sy_while {c : Expr} {body : List Stmt} (W : Nat → DS → Prop) (m0 : Nat) (h0 : W m0 S) (hp : PassesOwn (model X.prog X.w) X.A X.env X.xe)
    (hs : ∀ m S', W m S' → ∃ t S1, ET X b c S' t S1 ∧ (t = true → SX X b body S1 { D with nx := fun S2 => ∃ m', m' < m ∧ W m' S2, ct := fun S2 => ∃ m', m' < m ∧ W m' S2, bk := D.nx }) ∧ (t = false → D.nx S1)) : SY X b (.While c body [] pos) S D := by
  intro σ H r E k
  refine w1_of (ps_while hp (ptW _) (pssW _)) ?_
  refine ⟨fun m σ' H' => ∃ S', W m S' ∧ Rel b S' σ' H' ∧ Ex (hide (Hd b S) H) (hide (Hd b S') H'), ⟨m0, S, h0, r, Ex.refl _⟩, fun m σ1 H1 ⟨S', w, r', e⟩ => ?_⟩
  obtain ⟨t, S1, ht, hb, hd⟩ := hs m S' w
  refine ht σ1 H1 r' _ fun H2 r2 x2 a2 => ?_
  cases t with
  | true =>
    refine ⟨fun σ3 H3 => ∃ S2, (∃ m', m' < m ∧ W m' S2) ∧ Rel b S2 σ3 H3 ∧ Ex (hide (Hd b S) H) (hide (Hd b S2) H3), fun σ3 H3 ⟨S2, ⟨m', hm, w'⟩, r3, e3⟩ => ⟨m', hm, S2, w', r3, e3⟩, ?_⟩
    refine hb rfl σ1 H2 r2 _ ⟨fun S2 σ3 H3 d r3 e3 => ⟨S2, d, r3, (e.trans x2).trans e3⟩, fun y S2 v H3 d vo r3 e3 => k.rt y S2 v H3 d vo r3 ((e.trans x2).trans e3), fun S2 σ3 H3 d r3 e3 => k.nx S2 σ3 H3 d r3 ((e.trans x2).trans e3), fun S2 σ3 H3 d r3 e3 => ⟨S2, d, r3, (e.trans x2).trans e3⟩⟩
  | false => exact k.nx S1 σ1 H2 (hd rfl) r2 (e.trans x2)
/-! targets -/
def TG' (b : Bs) (x : DV) (S S' : DS) (g : TG) : Prop := ∀ v σ H, VOk b.K (Hd b S) H v x → Rel b S σ H → ∀ Q : List (Option V) → Hp → Prop, (∀ σ', Rel b S' σ' H → Q σ' H) → g v σ H Q
theorem tg_name {i : Nat} (hl : i < S.g.length) : TG' b x S (S.put i x) (gName i) := fun v σ H k r Q q => q _ (r.put hl k)
/-- a pair of data -/
inductive TGs' (b : Bs) : List TG → List PyData → DS → DS → Prop
  | nil {S : DS} : TGs' b [] [] S S
  | cons {g : TG} {gs : List TG} {d : PyData} {ds : List PyData} {S S1 S2 : DS} : TG' b (.d d) S S1 g → S1.m = S.m → TGs' b gs ds S1 S2 → TGs' b (g :: gs) (d :: ds) S S2
def gList : List TG → TGs
  | [] => gNil
  | g :: gs => gCons g (gList gs)
theorem tgs_run {gs : List TG} {ds : List PyData} {S S' : DS} (h : TGs' b gs ds S S') : ∀ {vs : List V} {σ : List (Option V)} {H : Hp}, DpAll b.K (hide (Hd b S) H) vs ds → Rel b S σ H → ∀ Q : List (Option V) → Hp → Prop, (∀ σ', Rel b S' σ' H → Q σ' H) → gList gs vs σ H Q := by
  induction h with
  | nil =>
    intro vs σ H hd r Q q
    cases hd
    exact ⟨rfl, q σ r⟩
  | @cons g gs d ds S S1 S2 h1 hm _ ih =>
    intro vs σ H hd r Q q
    cases hd with
    | cons hv hvs =>
      refine ⟨_, _, rfl, h1 _ σ H hv r _ fun σ1 r1 => ih ?_ r1 Q q⟩
      have e : Hd b S1 = Hd b S := by unfold Hd DS.as; rw [hm]
      rw [e]
      exact hvs
theorem tg_tup {K : PySem.W.Frag} {n : Nat} {gs : List TG} {ds : List PyData} (hK : K = b.K) (hn : ds.length = n) (h : TGs' b gs ds S S') : TG' b (.d (.tuple ds)) S S' (gTup K n (gList gs)) := by
  intro v σ H kv r Q q
  cases kv with
  | tup hs ha => exact ⟨_, _, rfl, by rw [hK]; exact ex_t hide_ex hs, by rw [DpAll.len ha]; exact hn, tgs_run h ha r Q q⟩
/-- a, b = a tuple -/
theorem sy_unpack {tg e : Expr} {g : TG} (h : EV X b e S x S1) (hg : PG X tg g) (ht : TG' b x S1 S2 g) (hh : Hd b S2 = Hd b S1) (hd : D.nx S2) (hs : swapsWithSole [tg] e pos.line X.env = pure false := by rfl) (hw : swappedStores [tg] e X.env = pure none := by rfl)
    (h1 : (assignEach [tg] X.env).map (·.2) = [assign tg X.env] := by rfl) : SY X b (.Assign [tg] e pos) S D := by
  intro σ H r E k
  refine w1_of (ps_asg (peW _) hg hs hw h1) (h σ H r _ fun v H1 k1 r1 x1 a1 => ?_)
  exact ht v σ H1 k1 r1 _ fun σ' r' => k.nx _ _ _ hd r' (by rw [hh]; exact x1)
/-- a, b = x, y: from the right -/
theorem sy_par {i j : Nat} {nx ny : Str} {a c : Expr} {px py pt : Pos} {kt k2 pt2} {u w : DV} (hc : X.calm = true) (hN : X.N.Nodup) (hi : X.N[i]? = some nx) (hj : X.N[j]? = some ny) (hij : i ≠ j)
    (hx : X.env.scope.names.lookup nx = some .local) (hy : X.env.scope.names.lookup ny = some .local) (ha : EA X b [a, c] S [u, w] S1) (li : i < S1.g.length) (lj : j < S1.g.length) (hd : D.nx ((S1.put i u).put j w))
    (hw : swappedStores [.Tuple [.Name nx px, .Name ny py] kt pt] (.Tuple [a, c] k2 pt2) X.env = pure (some [nx, ny]) := by rfl)
    (hs : swapsWithSole [.Tuple [.Name nx px, .Name ny py] kt pt] (.Tuple [a, c] k2 pt2) pos.line X.env = pure false := by rfl) :
    SY X b (.Assign [.Tuple [.Name nx px, .Name ny py] kt pt] (.Tuple [a, c] k2 pt2) pos) S D := by
  intro σ H r E k
  refine w1_of (ps_par hc hN hi hj hij hx hy (paW _) hw hs) (ha σ H r _ fun vs H1 k1 r1 x1 a1 => ?_)
  cases k1 with
  | cons k1 k2 =>
    cases k2 with
    | cons k2 k3 =>
      cases k3
      refine ⟨_, _, rfl, k.nx _ _ _ hd ?_ x1⟩
      exact (r1.put li k1).put (by show j < (S1.g.set i u).length; rw [List.length_set]; exact lj) k2
/-! for -/
theorem sy_forT {tg iter : Expr} {body : List Stmt} {g : TG} {ds : List PyData} (hK : X.K = b.K) (hp : PassesOwn (model X.prog X.w) X.A X.env X.xe) (hc : X.calm = true) (hi : EV X b iter S (.d (.tuple ds)) S1) (hg : PG X tg g) (W : Nat → DS → Prop) (h0 : W 0 S1)
    (hs : ∀ (i : Nat) d S', ds[i]? = some d → W i S' → ∃ S2, TG' b (.d d) S' S2 g ∧ Hd b S2 = Hd b S' ∧ SX X b body S2 { D with nx := W (i + 1), ct := W (i + 1), bk := D.nx }) (hd : ∀ S', W ds.length S' → D.nx S')
    (hf : ∀ x : Value, foldedSetIterable iter X.env x = pure x := by intro _; rfl) : SY X b (.For tg iter body [] pos) S D := by
  intro σ H r E k
  refine w1_of (ps_for hp hc (pi_tup (peW _)) hg (pssW _) hf) (hi σ H r _ fun v H1 k1 r1 x1 a1 => ?_)
  cases k1 with
  | tup hs1 ha =>
    rename_i a xs
    have hq : SqT X.K H1 a xs := by rw [hK]; exact ex_t hide_ex hs1
    refine ⟨a, rfl, ⟨xs, hq⟩, ?_⟩
    refine for_tup (K := X.K) (a := a) (xs := xs) (fun i σ' H' => ∃ S', W i S' ∧ Rel b S' σ' H' ∧ Ex (hide (Hd b S1) H1) (hide (Hd b S') H')) ⟨S1, h0, r1, Ex.refl _⟩ (fun i σ' H' _ ⟨S', _, _, e⟩ => by rw [hK]; exact ex_t hide_ex (ex_t e hs1)) (fun i y σ' H' hy ⟨S', w, r', e⟩ => ?_) fun σ' H' ⟨S', w, r', e⟩ => ?_
    · obtain ⟨d, hd1, hd2⟩ := dpAll_getV ha hy
      obtain ⟨S2, ht, hh, hb⟩ := hs i d S' hd1 w
      refine ht y σ' H' (Dp.ex e hd2) r' _ fun σ2 r2 => ?_
      refine hb σ2 H' r2 _ ⟨fun S3 σ3 H3 d r3 e3 => ⟨S3, d, r3, e.trans (by rw [hh] at e3; exact e3)⟩, fun y S3 v H3 d vo r3 e3 => k.rt y S3 v H3 d vo r3 ((x1.trans e).trans (by rw [hh] at e3; exact e3)), fun S3 σ3 H3 d r3 e3 => k.nx S3 σ3 H3 d r3 ((x1.trans e).trans (by rw [hh] at e3; exact e3)), fun S3 σ3 H3 d r3 e3 => ⟨S3, d, r3, e.trans (by rw [hh] at e3; exact e3)⟩⟩
    · rw [DpAll.len ha] at w
      exact k.nx _ _ _ (hd S' w) r' (x1.trans e)
theorem sy_forL {tg iter : Expr} {body : List Stmt} {g : TG} {ds : List PyData} (hK : X.K = b.K) (hp : PassesOwn (model X.prog X.w) X.A X.env X.xe) (hc : X.calm = true) (hi : EV X b iter S (.d (.list ds)) S1) (hg : PG X tg g) (W : Nat → DS → Prop) (h0 : W 0 S1)
    (hs : ∀ (i : Nat) d S', ds[i]? = some d → W i S' → ∃ S2, TG' b (.d d) S' S2 g ∧ Hd b S2 = Hd b S' ∧ SX X b body S2 { D with nx := W (i + 1), ct := W (i + 1), bk := D.nx }) (hd : ∀ S', W ds.length S' → D.nx S')
    (hf : ∀ x : Value, foldedSetIterable iter X.env x = pure x := by intro _; rfl) : SY X b (.For tg iter body [] pos) S D := by
  intro σ H r E k
  refine w1_of (ps_for hp hc (pi_list (peW _)) hg (pssW _) hf) (hi σ H r _ fun v H1 k1 r1 x1 a1 => ?_)
  cases k1 with
  | lst hs1 ha =>
    rename_i a xs
    have hq : SqL X.K H1 a xs := by rw [hK]; exact ex_l hide_ex hs1
    refine ⟨a, rfl, ⟨xs, hq⟩, ?_⟩
    refine for_list (K := X.K) (a := a) (xs := xs) (fun i σ' H' => ∃ S', W i S' ∧ Rel b S' σ' H' ∧ Ex (hide (Hd b S1) H1) (hide (Hd b S') H')) ⟨S1, h0, r1, Ex.refl _⟩ (fun i σ' H' _ ⟨S', _, _, e⟩ => by rw [hK]; exact ex_l hide_ex (ex_l e hs1)) (fun i y σ' H' hy ⟨S', w, r', e⟩ => ?_) fun σ' H' ⟨S', w, r', e⟩ => ?_
    · obtain ⟨d, hd1, hd2⟩ := dpAll_getV ha hy
      obtain ⟨S2, ht, hh, hb⟩ := hs i d S' hd1 w
      refine ht y σ' H' (Dp.ex e hd2) r' _ fun σ2 r2 => ?_
      refine hb σ2 H' r2 _ ⟨fun S3 σ3 H3 d r3 e3 => ⟨S3, d, r3, e.trans (by rw [hh] at e3; exact e3)⟩, fun y S3 v H3 d vo r3 e3 => k.rt y S3 v H3 d vo r3 ((x1.trans e).trans (by rw [hh] at e3; exact e3)), fun S3 σ3 H3 d r3 e3 => k.nx S3 σ3 H3 d r3 ((x1.trans e).trans (by rw [hh] at e3; exact e3)), fun S3 σ3 H3 d r3 e3 => ⟨S3, d, r3, e.trans (by rw [hh] at e3; exact e3)⟩⟩
    · rw [DpAll.len ha] at w
      exact k.nx _ _ _ (hd S' w) r' (x1.trans e)
/-- for .. in range(n) -/
theorem sy_forR {nm : Str} {j : Nat} {e : Expr} {p1 p2 p3 : Pos} {body : List Stmt} {n : Int} (hp : PassesOwn (model X.prog X.w) X.A X.env X.xe) (hc : X.calm = true) (hg : Gl X "range") (hm : X.mg "range" = none) (h : EV X b e S (.d (.int n)) S1) (hn : -(2 ^ 62) ≤ n ∧ n < 2 ^ 62)
    (hN : X.N.Nodup) (hj : X.N[j]? = some nm) (hx : Loc X.env.scope nm) (W : Nat → DS → Prop) (h0 : W 0 S1)
    (hs : ∀ (i : Nat) S', (i : Int) < n → W i S' → j < S'.g.length ∧ SX X b body (S'.put j (.d (.int (i : Int)))) { D with nx := W (i + 1), ct := W (i + 1), bk := D.nx }) (hd : ∀ S', W n.toNat S' → D.nx S')
    (he : starEach [e] X.env = [(false, eval e X.env)] := by rfl) (hff : X.fn nm = true ∨ X.env.scope.names.lookup nm = some .local := by first | exact .inl rfl | exact .inr rfl)
    (hf : ∀ x : Value, foldedSetIterable (.Call (.Name "range" p1) [e] [] p2) X.env x = pure x := by intro _; rfl) : SY X b (.For (.Name nm p3) (.Call (.Name "range" p1) [e] [] p2) body [] pos) S D := by
  intro σ H r E k
  refine w1_of (ps_for hp hc (pi_range1 hg hm (pa_cons (peW e) pa_nil he) he) (pg_name hN hj hx hff) (pssW _) hf) ?_
  refine h σ H r _ fun v H1 k1 r1 x1 a1 => ?_
  cases k1
  refine ⟨n, rfl, hn.1, hn.2, ?_⟩
  refine for_range (lo := 0) (n := n.toNat) (fun i σ' H' => ∃ S', W i S' ∧ Rel b S' σ' H' ∧ Ex (hide (Hd b S1) H1) (hide (Hd b S') H')) ⟨S1, h0, r1, Ex.refl _⟩ (fun i σ' H' hi ⟨S', w, r', e⟩ => ?_) fun σ' H' ⟨S', w, r', e⟩ => ?_
  · obtain ⟨lj, hb⟩ := hs i S' (by omega) w
    have e0 : (0 : Int) + (i : Int) = (i : Int) := Int.zero_add _
    show wS X body _ (σ'.set j (some (V.int (0 + (i : Int))))) H'
    rw [e0]
    refine hb _ H' (r'.put lj (.int _)) _ ⟨fun S3 σ3 H3 d r3 e3 => ⟨S3, d, r3, e.trans e3⟩, fun y S3 v H3 d vo r3 e3 => k.rt y S3 v H3 d vo r3 ((x1.trans e).trans e3), fun S3 σ3 H3 d r3 e3 => k.nx S3 σ3 H3 d r3 ((x1.trans e).trans e3), fun S3 σ3 H3 d r3 e3 => ⟨S3, d, r3, e.trans e3⟩⟩
  · exact k.nx _ _ _ (hd S' w) r' (x1.trans e)
end
end DX
end
section
set_option Elab.async false
set_option linter.all false
set_option maxRecDepth 100000
set_option maxHeartbeats 4000000
namespace DX
open PySem PySem.Spec PyProof.Rows L2
set_option autoImplicit false
/-! ### a def by its body -/
section
variable {P : Program} {w : World} {K : PySem.W.Frag} {mg : Str → Option Value} {base : Heap}
theorem vall_of {K : PySem.W.Frag} {A : List Addr} {H : Hp} : ∀ {vs : List V} {ds : List PyData}, DpAll K (hide A H) vs ds → VAll K A H vs (ds.map .d)
  | _, _, .nil => .nil
  | _, _, .cons h hs => .cons h (vall_of hs)
theorem vall_get {K : PySem.W.Frag} {A : List Addr} {H : Hp} {vs : List V} {xs : List DV} (h : VAll K A H vs xs) : ∀ {i : Nat} {x : DV}, xs[i]? = some x → ∃ v, vs[i]? = some v ∧ VOk K A H v x := by
  intro i
  induction i generalizing vs xs with
  | zero =>
    intro x e
    cases h with
    | nil => simp at e
    | cons h hs => exact ⟨_, rfl, by cases (Option.some.inj e); exact h⟩
  | succ i ih =>
    intro x e
    cases h with
    | nil => simp at e
    | cons h hs => exact ih hs e
theorem vall_len {K : PySem.W.Frag} {A : List Addr} {H : Hp} {vs : List V} {xs : List DV} (h : VAll K A H vs xs) : vs.length = xs.length := by
  induction h with
  | nil => rfl
  | cons _ _ ih => rw [List.length_cons, List.length_cons, ih]
/-- the slots of a def at its entry -/
def gStart (N : List Str) (xs : List DV) : List DV := xs ++ List.replicate (N.length - xs.length) .no
theorem rel_start {b : Bs} {N : List Str} {vs : List V} {xs : List DV} {m : List (Addr × MO)} {H : Hp} (h : VAll b.K (Hd b ⟨[], m⟩) H vs xs) (rm : RelM b ⟨[], m⟩ H) : Rel b ⟨gStart N xs, m⟩ (L2.start N vs) H := by
  have hl := vall_len h
  refine ⟨?_, fun i x e => ?_, ⟨rm.mem, rm.nd, rm.fr, rm.ext, rm.fxs⟩⟩
  · unfold L2.start
    show _ = (gStart N xs).length
    unfold gStart
    simp [hl]
  · have e : (gStart N xs)[i]? = some x := e
    unfold gStart at e
    by_cases hi : i < xs.length
    · rw [List.getElem?_append_left hi] at e
      obtain ⟨v, e1, e2⟩ := vall_get h e
      refine .inr ⟨v, ?_, e2⟩
      unfold L2.start
      rw [List.getElem?_append_left (by rw [List.length_map, hl]; exact hi), List.getElem?_map, e1]
      rfl
    · rw [List.getElem?_append_right (by omega)] at e
      left
      have := List.mem_of_getElem? e
      exact List.eq_of_mem_replicate this
/-- a def of data that raises nothing -/
theorem fp_ok {x qual : Str} {st : Stmt} {fa : Addr} {fd : FuncData} {N ps : List Str} {k : Nat} {f : List PyData → PyData → Prop} (F : Fun K x qual st fa fd) (Sc : FnScope N ps (defScope st)) (len : ∀ ds d, f ds d → ds.length = ps.length)
    (hbody : ∀ (cdv : Value) (A : Around) (outer : List Env) (s : Shared) (H : Hp) (E : XK) (b : Bs), b.K = K → Room k (A.deeper (envOfC qual (defScope st) s.heap.objs.size fa cdv)) → ∀ ds d, f ds d →
      SX (cxOf CX0 P w K mg base N qual (defScope st) fa cdv A outer s H E).nox b (defBody st) ⟨gStart N (ds.map .d), []⟩ { nx := fun _ => d = .none, rt := fun x S' => x = .d d }) : FnOk P w K mg base CX0 (k + 1) fa fd ps (FP K f) := by
  refine F.ok Sc (fun vs H Q E h => ?_) (fun cdv A outer s H vs Q E hr h => ?_)
  · obtain ⟨A, ds, d, _, hd, hf, _⟩ := h
    rw [DpAll.len hd]
    exact len ds d hf
  · obtain ⟨A', ds, d, hA, hd, hf, q⟩ := h
    refine ⟨wS _ _, pssW _, ?_⟩
    let b : Bs := ⟨K, H, [], A', fun a ha => ⟨hA a ha, by simp⟩⟩
    have hH : Hd b ⟨gStart N (ds.map DV.d), []⟩ = A' := by unfold Hd DS.as; simp [b]
    have hH0 : Hd b ⟨[], []⟩ = A' := by unfold Hd DS.as; simp [b]
    have rm : RelM b ⟨[], []⟩ H := ⟨fun p hp => absurd hp (by simp), by simp [DS.as], fun a ha => absurd ha (by simp [DS.as]), fun a o e _ => e, fun a ha => absurd ha (by simp [b])⟩
    have r : Rel b ⟨gStart N (ds.map DV.d), []⟩ (L2.start N vs) H := rel_start (by rw [hH0]; exact vall_of hd) rm
    refine hbody cdv A outer s H E b rfl hr ds d hf _ H r _ ⟨fun S' σ' H' e r' x => ?_, fun y S' v H' e vo r' x => ?_, fun _ _ _ e => e.elim, fun _ _ _ e => e.elim⟩
    · refine q _ _ (fun a o h => r'.rm.ext a o h (by simp [b])) ?_
      rw [e]
      exact .non
    · subst e
      exact q _ _ (fun a o h => r'.ext a o h (by simp [b])) (Dp.ex (hide_sub fun c hc => List.mem_append.mpr (.inl hc)) vo)
/-- what a def that may raise comes to -/
inductive Res
  | val (d : PyData)
  | err (C : Addr)
def FX (K : PySem.W.Frag) (f : List PyData → Res → Prop) : Sp := fun vs H Q E => ∃ (A : List Addr) (ds : List PyData) (r : Res), (∀ a ∈ A, H a ≠ none) ∧ DpAll K (hide A H) vs ds ∧ f ds r ∧
  (∀ d, r = .val d → ∀ v H', Ex H H' → Dp K (hide A H') v d → Q v H') ∧ (∀ C, r = .err C → ∀ H', Ex H H' → E (.ref C) none H')
theorem fx_ok {x qual : Str} {st : Stmt} {fa : Addr} {fd : FuncData} {N ps : List Str} {k : Nat} {f : List PyData → Res → Prop} (F : Fun K x qual st fa fd) (Sc : FnScope N ps (defScope st)) (len : ∀ ds r, f ds r → ds.length = ps.length)
    (hbody : ∀ (cdv : Value) (A : Around) (outer : List Env) (s : Shared) (H : Hp) (E : XK) (b : Bs), b.K = K → b.fx = [] → Room k (A.deeper (envOfC qual (defScope st) s.heap.objs.size fa cdv)) → ∀ ds r, f ds r →
      (∀ C, r = .err C → ∀ S H', RelM b S H' → E (.ref C) none H') →
      SX (cxOf (L2.CX P w) P w K mg base N qual (defScope st) fa cdv A outer s H E) b (defBody st) ⟨gStart N (ds.map .d), []⟩ { nx := fun _ => r = .val .none, rt := fun x S' => ∃ d, r = .val d ∧ x = .d d }) : FnOk P w K mg base (L2.CX P w) (k + 1) fa fd ps (FX K f) := by
  refine F.okX Sc (fun vs H Q E h => ?_) (fun cdv A outer s H vs Q E hr h => ?_)
  · obtain ⟨A, ds, r, _, hd, hf, _⟩ := h
    rw [DpAll.len hd]
    exact len ds r hf
  · obtain ⟨A', ds, rs, hA, hd, hf, q1, q2⟩ := h
    refine ⟨wS _ _, pssW _, ?_⟩
    let b : Bs := ⟨K, H, [], A', fun a ha => ⟨hA a ha, by simp⟩⟩
    have hH0 : Hd b ⟨[], []⟩ = A' := by unfold Hd DS.as; simp [b]
    have rm : RelM b ⟨[], []⟩ H := ⟨fun p hp => absurd hp (by simp), by simp [DS.as], fun a ha => absurd ha (by simp [DS.as]), fun a o e _ => e, fun a ha => absurd ha (by simp [b])⟩
    have r : Rel b ⟨gStart N (ds.map DV.d), []⟩ (L2.start N vs) H := rel_start (by rw [hH0]; exact vall_of hd) rm
    refine hbody cdv A outer s H E b rfl rfl hr ds rs hf (fun C e S H' rm' => q2 C e H' fun a o h => rm'.ext a o h (by simp [b])) _ H r _ ⟨fun S' σ' H' e r' x => ?_, fun y S' v H' e vo r' x => ?_, fun _ _ _ e => e.elim, fun _ _ _ e => e.elim⟩
    · exact q1 _ e _ _ (fun a o h => r'.rm.ext a o h (by simp [b])) .non
    · obtain ⟨d, e1, rfl⟩ := e
      exact q1 _ e1 _ _ (fun a o h => r'.ext a o h (by simp [b])) (Dp.ex (hide_sub fun c hc => List.mem_append.mpr (.inl hc)) vo)
end
section
variable {X : Cx} {b : Bs} {S S1 S2 S3 S' : DS} {x y z : DV} {pos : Pos} {D : DE} {rest : List Stmt}
/-- a statement that calls a def that may raise, its value dropped -/
theorem sy_callX {EE : XK} {k : Nat} {fa : Addr} {fd : FuncData} {ps : List Str} {f : List PyData → Res → Prop} {nm : Str} {p : Pos} {e : Expr} {es : List Expr} {ds : List PyData} {r : Res} {epos : Pos}
    (F : FnOk X.prog X.w X.K X.mg X.base (L2.CX X.prog X.w) k fa fd ps (FX X.K f)) (hK : X.K = b.K) (hr : Room k X.A) (hg : Gl X nm) (hm : X.mg nm = some (.ref fa)) (kp : PySem.W.keepIn X.K (.ref fa) = true) (hb : L2.Binds X.K fd ps []) (tk : Takes X (fun cls d _ H => EE cls d H))
    (ha : EA X b (e :: es) S (ds.map .d) S1) (hf : f ds r) (hv : ∀ d, r = .val d → D.nx S1) (hE : ∀ C, r = .err C → ∀ H', RelM b S1 H' → EE (.ref C) none H') (hdb : (nm == ("__debug__" : Str)) = false := by decide)
    (he : starEach (e :: es) X.env = (false, eval e X.env) :: starEach es X.env := by rfl) (hpl : (backTo epos (starEach es X.env)).any (·.1) = false := by rfl) (hs : swapsWith (.Call (.Name nm p) (e :: es) [] epos) none pos.line X.env = pure false := by rfl) :
    SY X b (.Expr (.Call (.Name nm p) (e :: es) [] epos) pos) S D := by
  intro σ H rl E kE
  refine w1_of (ps_expr (pe_callS F hr hg hm kp hb (fun σ => passAt tk σ) (paW _) hdb he hpl) hs) (ha σ H rl _ fun vs H1 k1 r1 x1 a1 => ?_)
  show FX X.K f vs H1 _ _
  rw [hK]
  refine ⟨Hd b S1, ds, r, r1.rm.tracked, vall_d k1, hf, fun d e v H2 x2 k2 => ?_, fun C e H2 x2 => ?_⟩
  · obtain ⟨r2, x3⟩ := r1.grow x2
    exact kE.nx _ _ _ (hv d e) r2 (x1.trans x3)
  · exact hE C e H2 (r1.rm.grow x2).1
/-- .. its value taken -/
theorem ev_callX {EE : XK} {k : Nat} {fa : Addr} {fd : FuncData} {ps : List Str} {f : List PyData → Res → Prop} {nm : Str} {p : Pos} {e : Expr} {es : List Expr} {ds : List PyData} {d : PyData}
    (F : FnOk X.prog X.w X.K X.mg X.base (L2.CX X.prog X.w) k fa fd ps (FX X.K f)) (hK : X.K = b.K) (hr : Room k X.A) (hg : Gl X nm) (hm : X.mg nm = some (.ref fa)) (kp : PySem.W.keepIn X.K (.ref fa) = true) (hb : L2.Binds X.K fd ps []) (hx : Passes (L2.CX X.prog X.w) X EE)
    (ha : EA X b (e :: es) S (ds.map .d) S1) (hf : f ds (.val d)) (hdb : (nm == ("__debug__" : Str)) = false := by decide)
    (he : starEach (e :: es) X.env = (false, eval e X.env) :: starEach es X.env := by rfl) (hpl : (backTo pos (starEach es X.env)).any (·.1) = false := by rfl) : EV X b (.Call (.Name nm p) (e :: es) [] pos) S (.d d) S1 := by
  intro σ H r Q q
  refine wE_of (pe_call F hr hg hm kp hb .nil hx (paW _) hdb he hpl) (ha σ H r _ fun vs H1 k1 r1 x1 a1 => ?_)
  show FX X.K f (vs ++ []) H1 Q EE
  rw [List.append_nil, hK]
  refine ⟨Hd b S1, ds, _, r1.rm.tracked, vall_d k1, hf, fun d' e v H2 x2 k2 => ?_, fun C e => by cases e⟩
  cases e
  obtain ⟨r2, x3⟩ := r1.grow x2
  exact q v H2 k2 r2 (x1.trans x3) a1
/-! ### a def that changes one list that it is given first -/
def MP (K : PySem.W.Frag) (f : List PyData → List PyData → PyData → List PyData → Prop) : Sp := fun vs H Q _ => ∃ (A : List Addr) (a : Addr) (vs' us : List V) (ds ms : List PyData) (d : PyData) (ms' : List PyData), vs = .ref a :: vs' ∧ a ∉ A ∧ (∀ c ∈ A, H c ≠ none) ∧
  H a = some (.lst us) ∧ DpAll K (hide (A ++ [a]) H) us ms ∧ DpAll K (hide (A ++ [a]) H) vs' ds ∧ f ms ds d ms' ∧
  ∀ v H' us', (∀ c o, H c = some o → c ≠ a → H' c = some o) → H' a = some (.lst us') → DpAll K (hide (A ++ [a]) H') us' ms' → Dp K (hide (A ++ [a]) H') v d → Q v H'
end
section
variable {P : Program} {w : World} {K : PySem.W.Frag} {mg : Str → Option Value} {base : Heap}
theorem mp_ok {x qual : Str} {st : Stmt} {fa : Addr} {fd : FuncData} {N ps : List Str} {k : Nat} {f : List PyData → List PyData → PyData → List PyData → Prop} (F : Fun K x qual st fa fd) (Sc : FnScope N ps (defScope st)) (len : ∀ ms ds d ms', f ms ds d ms' → ds.length + 1 = ps.length)
    (hbody : ∀ (cdv : Value) (A : Around) (outer : List Env) (s : Shared) (H : Hp) (E : XK) (b : Bs) (a : Addr), b.K = K → b.fx = [a] → Room k (A.deeper (envOfC qual (defScope st) s.heap.objs.size fa cdv)) → ∀ ms ds d ms', f ms ds d ms' →
      SX (cxOf CX0 P w K mg base N qual (defScope st) fa cdv A outer s H E).nox b (defBody st) ⟨gStart N (.m a :: ds.map .d), [(a, .lst ms)]⟩ { nx := fun S' => d = .none ∧ (a, MO.lst ms') ∈ S'.m, rt := fun x S' => x = .d d ∧ (a, MO.lst ms') ∈ S'.m }) : FnOk P w K mg base CX0 (k + 1) fa fd ps (MP K f) := by
  refine F.ok Sc (fun vs H Q E h => ?_) (fun cdv A outer s H vs Q E hr h => ?_)
  · obtain ⟨A, a, vs', us, ds, ms, d, ms', rfl, _, _, _, _, hd, hf, _⟩ := h
    rw [List.length_cons, DpAll.len hd]
    exact len ms ds _ _ hf
  · obtain ⟨A', a, vs', us, ds, ms, d, ms', rfl, ha, hA, hu, hum, hd, hf, q⟩ := h
    refine ⟨wS _ _, pssW _, ?_⟩
    let b : Bs := ⟨K, H, [a], A', fun c hc => ⟨hA c hc, by simp; intro e; exact ha (e ▸ hc)⟩⟩
    have hH : ∀ (g : List DV) mm, Hd b ⟨g, [(a, MO.lst mm)]⟩ = A' ++ [a] := fun g mm => by unfold Hd DS.as; simp [b]
    have rm : RelM b ⟨[], [(a, .lst ms)]⟩ H := by
      refine ⟨fun p hp => ?_, by simp [DS.as], fun c hc => ?_, fun c o e _ => e, fun c hc => by simpa [DS.as, b] using hc⟩
      · have : p = (a, MO.lst ms) := by simpa using hp
        subst this
        exact ⟨us, hu, by rw [hH]; exact hum⟩
      · have : c = a := by simpa [DS.as] using hc
        subst this
        exact .inr (by simp [b])
    have r : Rel b ⟨gStart N (.m a :: ds.map DV.d), [(a, .lst ms)]⟩ (L2.start N (.ref a :: vs')) H := by
      refine rel_start (.cons ⟨rfl, by rw [hH]; simp⟩ ?_) rm
      rw [hH]
      exact vall_of hd
    have fin : ∀ (S' : DS) (v : V) (H' : Hp), (a, MO.lst ms') ∈ S'.m → RelM b S' H' → VOk b.K (Hd b S') H' v (.d d) → Q v H' := by
      intro S' v H' hm r' vo
      have sub : ∀ c ∈ A' ++ [a], c ∈ Hd b S' := fun c hc => by
        rcases List.mem_append.mp hc with q | q
        · exact List.mem_append.mpr (.inl q)
        · rw [List.mem_singleton] at q
          exact List.mem_append.mpr (.inr (List.mem_map.mpr ⟨_, hm, q.symm⟩))
      obtain ⟨us', e1, e2⟩ := r'.mem (a, .lst ms') hm
      exact q v H' us' (fun c o e ne => r'.ext c o e (by simpa [b] using ne)) e1 (DpAll.ex (hide_sub sub) e2) (Dp.ex (hide_sub sub) vo)
    refine hbody cdv A outer s H E b a rfl rfl hr ms ds d ms' hf _ H r _ ⟨fun S' σ' H' e r' x => ?_, fun y S' v H' e vo r' x => ?_, fun _ _ _ e => e.elim, fun _ _ _ e => e.elim⟩
    · obtain ⟨rfl, hm⟩ := e
      exact fin S' _ H' hm r'.rm .non
    · obtain ⟨rfl, hm⟩ := e
      exact fin S' v H' hm r' vo
end
section
variable {X : Cx} {b : Bs} {S S1 S2 S3 S' : DS} {x y z : DV} {pos : Pos} {D : DE} {rest : List Stmt}
/-- one mutable list's content is another -/
def setM (m : List (Addr × MO)) (a : Addr) (o : MO) : List (Addr × MO) := m.map fun p => if p.1 = a then (a, o) else p
theorem setM_as (m : List (Addr × MO)) (a : Addr) (o : MO) : (setM m a o).map (·.1) = m.map (·.1) := by
  unfold setM
  rw [List.map_map]
  refine List.map_congr_left fun p _ => ?_
  show (if p.1 = a then (a, o) else p).1 = p.1
  by_cases h : p.1 = a
  · rw [if_pos h]; exact h.symm
  · rw [if_neg h]
theorem setM_mem {m : List (Addr × MO)} {a : Addr} {o : MO} {p : Addr × MO} (h : p ∈ setM m a o) : p = (a, o) ∨ (p ∈ m ∧ p.1 ≠ a) := by
  obtain ⟨q, hq, e⟩ := List.mem_map.mp h
  by_cases hx : q.1 = a
  · have e : (if q.1 = a then (a, o) else q) = p := e
    rw [if_pos hx] at e
    exact .inl e.symm
  · have e : (if q.1 = a then (a, o) else q) = p := e
    rw [if_neg hx] at e
    subst e
    exact .inr ⟨hq, hx⟩
theorem uniqM {S : DS} (nd : S.as.Nodup) {a : Addr} {o o' : MO} (h : (a, o) ∈ S.m) (h' : (a, o') ∈ S.m) : o = o' := by
  unfold DS.as at nd
  generalize S.m = m at h h' nd
  induction m with
  | nil => cases h
  | cons p m ih =>
    rw [List.map_cons] at nd
    obtain ⟨n1, n2⟩ := List.nodup_cons.mp nd
    rcases List.mem_cons.mp h with e | e
    · rcases List.mem_cons.mp h' with e' | e'
      · rw [← e] at e'; cases e'; rfl
      · subst e; exact (n1 (List.mem_map.mpr ⟨_, e', rfl⟩)).elim
    · rcases List.mem_cons.mp h' with e' | e'
      · subst e'; exact (n1 (List.mem_map.mpr ⟨_, e, rfl⟩)).elim
      · exact ih e e' n2
/-- the state where a's thing is o -/
def DS.setm (S : DS) (a : Addr) (o : MO) : DS := { S with m := setM S.m a o }
theorem hd_setm (b : Bs) (S : DS) (a : Addr) (o : MO) : Hd b (S.setm a o) = Hd b S := by
  unfold Hd DS.as DS.setm
  rw [setM_as]
/-- the heap changed at a alone (and grew) -/
theorem Rel.setm {σ : List (Option V)} {H H' : Hp} {a : Addr} {o o' : MO} (r : Rel b S σ H) (ha : (a, o) ∈ S.m) (k : ∀ c u, H c = some u → c ≠ a → H' c = some u) (hm : MOk b.K (Hd b S) H' a o') : Rel b (S.setm a o') σ H' ∧ Ex (hide (Hd b S) H) (hide (Hd b (S.setm a o')) H') := by
  have hA : a ∈ Hd b S := List.mem_append.mpr (.inr (List.mem_map.mpr ⟨_, ha, rfl⟩))
  have x : Ex (hide (Hd b S) H) (hide (Hd b S) H') := fun c u h => by
    obtain ⟨h1, h2⟩ := hide_some h
    rw [hide_out h2]
    exact k c u h1 fun e => h2 (e ▸ hA)
  refine ⟨⟨r.len, fun i y h => ?_, ?_⟩, by rw [hd_setm]; exact x⟩
  · rcases r.slot i y h with q | ⟨v, q, k'⟩
    · exact .inl q
    · exact .inr ⟨v, q, by rw [hd_setm]; exact k'.ex x fun _ h => h⟩
  · have hs : (S.setm a o').as = S.as := by unfold DS.as DS.setm; exact setM_as _ _ _
    refine ⟨fun p hp => ?_, by rw [hs]; exact r.rm.nd, fun c hc => by rw [hs] at hc; exact r.rm.fr c hc, fun c u e ne => ?_, by rw [hs]; exact r.rm.fxs⟩
    · rw [hd_setm]
      rcases setM_mem hp with e | ⟨e, ne⟩
      · subst e; exact hm
      · have := r.rm.mem p e
        obtain ⟨c, mo⟩ := p
        cases mo with
        | lst ds => obtain ⟨vs, q1, q2⟩ := this; exact ⟨vs, k _ _ q1 ne, DpAll.ex x q2⟩
        | dct ds => obtain ⟨vs, q1, q2⟩ := this; exact ⟨vs, k _ _ q1 ne, KvAll.ex x q2⟩
        | tab q =>
          have hk : ∀ φ, H a ≠ some (.ext φ) := fun φ z => by
            have := r.rm.mem _ ha
            cases o with
            | lst ds => obtain ⟨vs, q, _⟩ := this; rw [z] at q; cases q
            | dct ds => obtain ⟨vs, q, _⟩ := this; rw [z] at q; cases q
            | tab q => obtain ⟨vs, q, _⟩ := this; rw [z] at q; cases q
          obtain ⟨ps, t1, t2, t3⟩ := this
          refine ⟨ps, k _ _ t1 ne, t2, fun pos cv hc => ?_⟩
          obtain ⟨c', e1, e2⟩ := t3 pos cv hc
          exact ⟨c', e1, k _ _ e2 fun z => hk _ (by rw [← z]; exact e2)⟩
    · refine k c u (r.rm.ext c u e ne) fun hc => ?_
      subst hc
      rcases r.rm.fr c (List.mem_map.mpr ⟨_, ha, rfl⟩) with q | q
      · rw [e] at q; cases q
      · exact ne q
/-- a call of such a def -/
theorem ev_callM {k : Nat} {fa : Addr} {fd : FuncData} {ps : List Str} {f : List PyData → List PyData → PyData → List PyData → Prop} {nm : Str} {p : Pos} {e : Expr} {es : List Expr} {a : Addr} {ms ms' ds : List PyData} {d : PyData} {E : XK} {CX : CXT}
    (F : FnOk X.prog X.w X.K X.mg X.base CX k fa fd ps (MP X.K f)) (hK : X.K = b.K) (hr : Room k X.A) (hg : Gl X nm) (hm : X.mg nm = some (.ref fa)) (kp : PySem.W.keepIn X.K (.ref fa) = true) (hb : L2.Binds X.K fd ps []) (hx : Passes CX X E)
    (ha : EA X b (e :: es) S (.m a :: ds.map .d) S1) (hin : (a, MO.lst ms) ∈ S1.m) (hf : f ms ds d ms') (hdb : (nm == ("__debug__" : Str)) = false := by decide)
    (he : starEach (e :: es) X.env = (false, eval e X.env) :: starEach es X.env := by rfl) (hpl : (backTo pos (starEach es X.env)).any (·.1) = false := by rfl) : EV X b (.Call (.Name nm p) (e :: es) [] pos) S (.d d) (S1.setm a (.lst ms')) := by
  intro σ H r Q q
  refine wE_of (pe_call F hr hg hm kp hb .nil hx (paW _) hdb he hpl) (ha σ H r _ fun vs H1 k1 r1 x1 a1 => ?_)
  show MP X.K f (vs ++ []) H1 Q E
  rw [List.append_nil, hK]
  cases k1 with
  | cons k1 k2 =>
    obtain ⟨rfl, hA⟩ := k1
    obtain ⟨us, e1, e2⟩ := r1.rm.mem _ hin
    let A' := (Hd b S1).filter fun c => decide (c ≠ a)
    have hsub : ∀ c, c ∈ A' ++ [a] ↔ c ∈ Hd b S1 := fun c => by
      simp only [A', List.mem_append, List.mem_filter, List.mem_singleton, decide_eq_true_eq]
      constructor
      · rintro (h | h)
        · exact h.1
        · subst h; exact hA
      · intro h
        by_cases hc : c = a
        · exact .inr hc
        · exact .inl ⟨h, hc⟩
    have hh : ∀ G : Hp, hide (A' ++ [a]) G = hide (Hd b S1) G := fun G => funext fun c => by
      by_cases hc : c ∈ Hd b S1
      · rw [hide_in hc, hide_in ((hsub c).mpr hc)]
      · rw [hide_out hc, hide_out fun h => hc ((hsub c).mp h)]
    refine ⟨A', a, _, us, ds, ms, d, ms', rfl, by simp [A'], fun c hc => r1.rm.tracked c ((hsub c).mp (List.mem_append.mpr (.inl hc))), e1, by rw [hh]; exact e2, by rw [hh]; exact vall_d k2, hf, fun v H2 us' kk e3 e4 e5 => ?_⟩
    rw [hh] at e4 e5
    obtain ⟨r2, x2⟩ := r1.setm (o' := .lst ms') hin kk ⟨us', e3, e4⟩
    exact q v H2 (by rw [hd_setm]; exact e5) r2 (x1.trans x2) fun c hc => by rw [hd_setm]; exact a1 c hc
end
end DX
end
section
set_option Elab.async false
set_option linter.all false
set_option maxRecDepth 100000
set_option maxHeartbeats 4000000
namespace DX
open PySem PySem.Spec PyProof.Rows L2
set_option autoImplicit false
section
variable {X : Cx} {b : Bs} {S S1 S2 S3 S' : DS} {x y z : DV} {pos : Pos} {D : DE} {rest : List Stmt}
/-! ### built-ins -/
/-- a call by values that leaves all as it was, or makes a new thing -/
def RC (b : Bs) (r : List V → Hp → VK → Prop) (xs : List DV) (S : DS) (z : DV) : Prop := ∀ H vs, RelM b S H → VAll b.K (Hd b S) H vs xs → ∀ Q : VK, (∀ w H', VOk b.K (Hd b S) H' w z → Ex H H' → Q w H') → r vs H Q
theorem ev_callB {nm : Str} {p : Pos} {e : Expr} {es : List Expr} {xs : List DV} {id : String} {r : List V → Hp → VK → Prop} (hc : CallR X (.builtin id) r) (hg : Gl X nm) (hm : X.mg nm = none) (hv : bootBuiltins nm = some (.builtin id)) (ha : EA X b (e :: es) S xs S1) (hr : RC b r xs S1 z)
    (hn : nm ≠ "__name__" := by decide) (hdb : (nm == ("__debug__" : Str)) = false := by decide) (he : starEach (e :: es) X.env = (false, eval e X.env) :: starEach es X.env := by rfl) (hpl : (backTo pos (starEach es X.env)).any (·.1) = false := by rfl) : EV X b (.Call (.Name nm p) (e :: es) [] pos) S z S1 := by
  intro σ H rl Q q
  refine wE_of (pe_callB hc hg hm hv (paW _) hn hdb he hpl) (ha σ H rl _ fun vs H1 k1 r1 x1 a1 => ?_)
  refine hr H1 vs r1.rm k1 Q fun w H2 k2 x2 => ?_
  obtain ⟨r2, x3⟩ := r1.grow x2
  exact q w H2 k2 r2 (x1.trans x3) a1
theorem ev_callTy {nm : Str} {p : Pos} {e : Expr} {es : List Expr} {xs : List DV} {T : String} {r : List V → Hp → VK → Prop} (hc : CallR X (.type T) r) (hg : Gl X nm) (hm : X.mg nm = none) (hv : bootBuiltins nm = some (.type T)) (ha : EA X b (e :: es) S xs S1) (hr : RC b r xs S1 z)
    (hn : nm ≠ "__name__" := by decide) (hdb : (nm == ("__debug__" : Str)) = false := by decide) (he : starEach (e :: es) X.env = (false, eval e X.env) :: starEach es X.env := by rfl) (hpl : (backTo pos (starEach es X.env)).any (·.1) = false := by rfl) : EV X b (.Call (.Name nm p) (e :: es) [] pos) S z S1 := by
  intro σ H rl Q q
  refine wE_of (pe_callTy hc hg hm hv (paW _) hn hdb he hpl) (ha σ H rl _ fun vs H1 k1 r1 x1 a1 => ?_)
  refine hr H1 vs r1.rm k1 Q fun w H2 k2 x2 => ?_
  obtain ⟨r2, x3⟩ := r1.grow x2
  exact q w H2 k2 r2 (x1.trans x3) a1
/-- a function of a library module, by its bare name -/
theorem ev_callF {nm : Str} {p : Pos} {e : Expr} {es : List Expr} {xs : List DV} {id : String} {r : List V → Hp → VK → Prop} (hc : CallR X (.builtin id) r) (hg : Gl X nm) (hm : X.mg nm = some (.builtin id)) (ha : EA X b (e :: es) S xs S1) (hr : RC b r xs S1 z)
    (hdb : (nm == ("__debug__" : Str)) = false := by decide) (he : starEach (e :: es) X.env = (false, eval e X.env) :: starEach es X.env := by rfl) (hpl : (backTo pos (starEach es X.env)).any (·.1) = false := by rfl) : EV X b (.Call (.Name nm p) (e :: es) [] pos) S z S1 := by
  intro σ H rl Q q
  refine wE_of (pe_callBfun hc hg hm (paW _) hdb he hpl) (ha σ H rl _ fun vs H1 k1 r1 x1 a1 => ?_)
  refine hr H1 vs r1.rm k1 Q fun w H2 k2 x2 => ?_
  obtain ⟨r2, x3⟩ := r1.grow x2
  exact q w H2 k2 r2 (x1.trans x3) a1
theorem vall1 {K : PySem.W.Frag} {A : List Addr} {H : Hp} {vs : List V} {x : DV} (h : VAll K A H vs [x]) : ∃ v, vs = [v] ∧ VOk K A H v x := by
  cases h with
  | cons h hs => cases hs; exact ⟨_, rfl, h⟩
theorem vall2 {K : PySem.W.Frag} {A : List Addr} {H : Hp} {vs : List V} {x y : DV} (h : VAll K A H vs [x, y]) : ∃ u v, vs = [u, v] ∧ VOk K A H u x ∧ VOk K A H v y := by
  cases h with
  | cons h hs =>
    obtain ⟨v, rfl, k⟩ := vall1 hs
    exact ⟨_, _, rfl, h, k⟩
theorem rc_lenT {ds : List PyData} (hK : X.K = b.K) : RC b (fun xs H Q => ∃ p ys, xs = [V.ref p] ∧ (SqL X.K H p ys ∨ SqT X.K H p ys) ∧ Q (.int (ys.length : Int)) H) [.d (.tuple ds)] S (.d (.int (ds.length : Int))) := by
  intro H vs rm h Q q
  obtain ⟨v, rfl, k⟩ := vall1 h
  cases k with
  | tup hs ha => exact ⟨_, _, rfl, .inr (by rw [hK]; exact ex_t hide_ex hs), q _ H (by rw [DpAll.len ha]; exact .int _) (Ex.refl _)⟩
theorem rc_lenL {ds : List PyData} (hK : X.K = b.K) : RC b (fun xs H Q => ∃ p ys, xs = [V.ref p] ∧ (SqL X.K H p ys ∨ SqT X.K H p ys) ∧ Q (.int (ys.length : Int)) H) [.d (.list ds)] S (.d (.int (ds.length : Int))) := by
  intro H vs rm h Q q
  obtain ⟨v, rfl, k⟩ := vall1 h
  cases k with
  | lst hs ha => exact ⟨_, _, rfl, .inl (by rw [hK]; exact ex_l hide_ex hs), q _ H (by rw [DpAll.len ha]; exact .int _) (Ex.refl _)⟩
/-- int(i) -/
theorem rc_int {i : Int} : RC b (fun xs H Q => (∃ i, xs = [V.int i] ∧ Q (.int i) H) ∨ ∃ k, xs = [V.bl k] ∧ Q (.int (if k then 1 else 0)) H) [.d (.int i)] S (.d (.int i)) := by
  intro H vs rm h Q q
  obtain ⟨v, rfl, k⟩ := vall1 h
  cases k
  exact .inl ⟨i, rfl, q _ H (.int i) (Ex.refl _)⟩
theorem rc_max2 {i j : Int} : RC b (fun xs H Q => ∃ i j, xs = [V.int i, V.int j] ∧ Q (.int (if j > i then j else i)) H) [.d (.int i), .d (.int j)] S (.d (.int (if j > i then j else i))) := by
  intro H vs rm h Q q
  obtain ⟨u, v, rfl, k1, k2⟩ := vall2 h
  cases k1; cases k2
  exact ⟨i, j, rfl, q _ H (.int _) (Ex.refl _)⟩
theorem rc_min2 {i j : Int} : RC b (fun xs H Q => ∃ i j, xs = [V.int i, V.int j] ∧ Q (.int (if j < i then j else i)) H) [.d (.int i), .d (.int j)] S (.d (.int (if j < i then j else i))) := by
  intro H vs rm h Q q
  obtain ⟨u, v, rfl, k1, k2⟩ := vall2 h
  cases k1; cases k2
  exact ⟨i, j, rfl, q _ H (.int _) (Ex.refl _)⟩
theorem rc_gcd {i j : Int} : RC b rGcd [.d (.int i), .d (.int j)] S (.d (.int ((Nat.gcd i.natAbs j.natAbs : Nat) : Int))) := by
  intro H vs rm h Q q
  obtain ⟨u, v, rfl, k1, k2⟩ := vall2 h
  cases k1; cases k2
  exact ⟨i, j, rfl, q _ H (.int _) (Ex.refl _)⟩
/-- all(..) of a new list of bools -/
theorem dp_bools {K : PySem.W.Frag} {H : Hp} : ∀ {bs : List Bool} {xs : List V}, DpAll K H xs (bs.map PyData.bool) → xs = bs.map V.bl
  | [], _, h => by cases h; rfl
  | c :: bs, _, h => by
    cases h with
    | cons h hs =>
      cases h
      rw [dp_bools hs]
      rfl
theorem rc_all {bs : List Bool} (hK : X.K = b.K) : RC b (rAll X.K) [.d (.list (bs.map .bool))] S (.d (.bool (bs.all id))) := by
  intro H vs rm h Q q
  obtain ⟨v, rfl, k⟩ := vall1 h
  cases k with
  | lst hs ha =>
    rw [dp_bools ha] at hs
    exact ⟨_, bs, rfl, by rw [hK]; exact ex_l hide_ex hs, q _ H (.bl _) (Ex.refl _)⟩
/-- isinstance of data -/
def kindT : PyData → Option String
  | .none => some "NoneType"
  | .bool _ => some "bool"
  | .int _ => some "int"
  | .str _ => some "str"
  | .list _ => some "list"
  | .tuple _ => some "tuple"
  | .dict _ => Option.none
/-- tuple(xs) -/
theorem ev_tupleL {p : Pos} {e : Expr} {ds : List PyData} (hK : X.K = b.K) (hg : Gl X "tuple") (hm : X.mg "tuple" = none) (h : EV X b e S (.d (.list ds)) S1) (he : starEach [e] X.env = (false, eval e X.env) :: starEach [] X.env := by rfl) : EV X b (.Call (.Name "tuple" p) [e] [] pos) S (.d (.tuple ds)) S1 := by
  intro σ H r Q q
  refine wE_of (pe_tupleOf hg hm (peW _) he) ?_
  show wE X e σ H _
  refine h σ H r _ fun v H1 k1 r1 x1 a1 => ?_
  cases k1 with
  | lst hs ha =>
    rename_i c xs
    refine .inl ⟨c, xs, rfl, by rw [hK]; exact ex_l hide_ex hs, fun p hp => ?_⟩
    obtain ⟨r2, x2⟩ := r1.grow (Ex.new (o := .tup xs) hp)
    exact q _ _ (.tup (.inl (.inl (hide_new (r1.rm.fresh hp)))) (DpAll.ex x2 ha)) r2 (x1.trans x2) a1
/-- t + u -/
theorem rv_catT {ds es : List PyData} (hK : X.K = b.K) (hz : ds.length + es.length ≤ 1000) : RV b (rCatA X.K) (.d (.tuple ds)) (.d (.tuple es)) S (.d (.tuple (ds ++ es))) := by
  intro H u v rm hu hv Q q
  cases hu with
  | tup h1 a1 =>
    rename_i c xs
    cases hv with
    | tup h2 a2 =>
      rename_i d ys
      refine ⟨c, d, xs, ys, rfl, rfl, by rw [hK]; exact ex_t hide_ex h1, by rw [hK]; exact ex_t hide_ex h2, by rw [DpAll.len a1, DpAll.len a2]; exact Nat.le_of_lt (small1000 hz), fun e => ?_, fun e1 e2 => ?_, fun e1 e2 p hp => ?_⟩
      · subst e
        have := DpAll.len a1
        have e : ds = [] := List.length_eq_zero_iff.mp this.symm
        subst e
        exact q _ H (.tup h2 a2) (fun _ r => r) (Ex.refl _)
      · subst e2
        have := DpAll.len a2
        have e : es = [] := List.length_eq_zero_iff.mp this.symm
        subst e
        exact q _ H (by show Dp _ _ _ (.tuple (ds ++ [])); rw [List.append_nil]; exact .tup h1 a1) (fun _ r => r) (Ex.refl _)
      · obtain ⟨r2, x2⟩ := rm.grow (Ex.new (o := .tup (xs ++ ys)) hp)
        exact q _ _ (.tup (.inl (.inl (hide_new (rm.fresh hp)))) (DpAll.ex x2 (DpAll.append a1 a2))) (fun σ r => (r.grow (Ex.new hp)).1) x2
theorem ev_catT {e1 e2 : Expr} {ds es : List PyData} (hK : X.K = b.K) (h1 : EV X b e1 S (.d (.tuple ds)) S1) (h2 : EV X b e2 S1 (.d (.tuple es)) S2) (hz : ds.length + es.length ≤ 1000) : EV X b (.BinOp e1 .Add e2 pos) S (.d (.tuple (ds ++ es))) S2 := ev_op op_catA h1 h2 (rv_catT hK hz)
/-- xs[i:] of a list -/
theorem dpAll_drop {K : PySem.W.Frag} {H : Hp} {vs : List V} {ds : List PyData} (h : DpAll K H vs ds) : ∀ n, DpAll K H (vs.drop n) (ds.drop n) := by
  intro n
  induction n generalizing vs ds with
  | zero => exact h
  | succ n ih =>
    cases h with
    | nil => exact .nil
    | cons _ hs => exact ih hs
theorem cut_from (xs : List V) (n : Nat) : cutV xs (some (n : Int)) none = xs.drop n := by
  unfold cutV
  rw [HT.sIx_nat, HT.sIx_none]
  by_cases h : n ≤ xs.length
  · rw [Nat.min_eq_left h]
    refine List.take_of_length_le ?_
    rw [List.length_drop]
    exact Nat.le_refl _
  · rw [Nat.min_eq_right (by omega)]
    rw [List.drop_of_length_le (by omega : xs.length ≤ xs.length), List.drop_of_length_le (by omega : xs.length ≤ n)]
    simp
theorem ev_from {e1 : Expr} {ds : List PyData} {n : Nat} {k} {p2 p3 : Pos} (hK : X.K = b.K) (h1 : EV X b e1 S (.d (.list ds)) S1) : EV X b (.Subscript e1 (.Slice (some (.Constant (.int (n : Int)) k p3)) none none p2) pos) S (.d (.list (ds.drop n))) S1 := by
  intro σ H r Q q
  refine wE_of (pe_slice sl_list (peW _) (po_some pe_int) po_none) (h1 σ H r _ fun v H1 k1 r1 x1 a1 => ?_)
  cases k1 with
  | lst hs ha =>
    rename_i c xs
    refine ⟨(n : Int), rfl, c, xs, rfl, by rw [hK]; exact ex_l hide_ex hs, fun p hp => ?_⟩
    rw [cut_from]
    obtain ⟨r2, x2⟩ := r1.grow (Ex.new (o := .lst (xs.drop n)) hp)
    exact q _ _ (.lst (.inl (.inl (hide_new (r1.rm.fresh hp)))) (DpAll.ex x2 (dpAll_drop ha n))) r2 (x1.trans x2) a1
/-! ### mutable lists and dicts -/
/-- a thing made and kept to be changed -/
def DS.add (S : DS) (a : Addr) (o : MO) : DS := { S with m := S.m ++ [(a, o)] }
theorem hd_add (b : Bs) (S : DS) (a : Addr) (o : MO) : Hd b (S.add a o) = Hd b S ++ [a] := by
  unfold Hd DS.as DS.add
  rw [List.map_append, ← List.append_assoc]
  rfl
theorem Rel.addM {σ : List (Option V)} {H H' : Hp} {a : Addr} {o : MO} (r : Rel b S σ H) (hn : H a = none) (k : Ex H H') (hm : MOk b.K (Hd b S ++ [a]) H' a o) : Rel b (S.add a o) σ H' ∧ Ex (hide (Hd b S) H) (hide (Hd b (S.add a o)) H') := by
  have x : Ex (hide (Hd b S) H) (hide (Hd b (S.add a o)) H') := fun c u h => by
    obtain ⟨h1, h2⟩ := hide_some h
    rw [hide_out]
    · exact k c u h1
    · rw [hd_add]
      intro q
      rcases List.mem_append.mp q with q | q
      · exact h2 q
      · rw [List.mem_singleton] at q
        rw [q, hn] at h1
        cases h1
  have na : a ∉ S.as := fun q => r.rm.fresh hn (List.mem_append.mpr (.inr q))
  have hs : (S.add a o).as = S.as ++ [a] := by unfold DS.as DS.add; simp
  refine ⟨⟨r.len, fun i y h => ?_, ⟨fun p hp => ?_, ?_, fun c hc => ?_, fun c u e ne => k c u (r.rm.ext c u e ne), fun c hc => by rw [hs]; exact List.mem_append.mpr (.inl (r.rm.fxs c hc))⟩⟩, x⟩
  · rcases r.slot i y h with q | ⟨v, q, k'⟩
    · exact .inl q
    · exact .inr ⟨v, q, k'.ex x fun c hc => by rw [hd_add]; exact List.mem_append.mpr (.inl hc)⟩
  · rcases List.mem_append.mp (show p ∈ S.m ++ [(a, o)] from hp) with e | e
    · have := r.rm.mem p e
      obtain ⟨c, mo⟩ := p
      cases mo with
      | lst ds => obtain ⟨vs, q1, q2⟩ := this; exact ⟨vs, k _ _ q1, DpAll.ex x q2⟩
      | dct ds => obtain ⟨vs, q1, q2⟩ := this; exact ⟨vs, k _ _ q1, KvAll.ex x q2⟩
      | tab q => exact LamX.TabS.ext this k
    · rw [List.mem_singleton] at e
      subst e
      rw [hd_add]
      exact hm
  · rw [hs]
    exact List.nodup_append.mpr ⟨r.rm.nd, by simp, fun c hc d hd => by rw [List.mem_singleton] at hd; rw [hd]; intro e; exact na (e ▸ hc)⟩
  · rw [hs] at hc
    rcases List.mem_append.mp hc with q | q
    · exact r.rm.fr c q
    · rw [List.mem_singleton] at q
      subst q
      by_cases hf : c ∈ b.fx
      · exact .inr hf
      · left
        cases e : b.B c with
        | none => rfl
        | some u => rw [r.rm.ext c u e hf] at hn; cases hn
/-- name = [..], a list that will be changed -/
theorem sy_newL {nm : Str} {i : Nat} {es : List Expr} {pos' p2 : Pos} {ds : List PyData} (h : EA X b es S (ds.map .d) S1) (hz : ds.length ≤ 1000) (hN : X.N.Nodup) (hi : X.N[i]? = some nm) (hx : Loc X.env.scope nm) (hl : i < S1.g.length) (hd : ∀ a, D.nx ((S1.add a (.lst ds)).put i (.m a)))
    (hs : swapsWith (.List es p2) (some (.Name nm pos')) pos.line X.env = pure false := by rfl) (hf : X.fn nm = true ∨ X.env.scope.names.lookup nm = some .local := by first | exact .inl rfl | exact .inr rfl) : SY X b (.Assign [.Name nm pos'] (.List es p2) pos) S D := by
  intro σ H r E k
  refine w1_of (ps_set hN hi hx (pe_lst (paW _)) hs hf) (h σ H r _ fun vs H1 k1 r1 x1 a1 => ?_)
  have hv := vall_d k1
  refine ⟨by rw [DpAll.len hv]; exact Nat.le_of_lt (small1000 hz), fun a ha => ?_⟩
  have x2 : Ex (hide (Hd b S1) H1) (hide (Hd b S1 ++ [a]) (upd H1 a (.lst vs))) := fun c u e => by
    obtain ⟨e1, e2⟩ := hide_some e
    have hne := ne_of_none e1 ha
    rw [hide_out (by intro q; rcases List.mem_append.mp q with q | q; exact e2 q; exact hne (List.mem_singleton.mp q)), upd_ne hne]
    exact e1
  obtain ⟨r2, x3⟩ := r1.addM (o := .lst ds) ha (Ex.new (o := .lst vs) ha) ⟨vs, upd_same, DpAll.ex x2 hv⟩
  refine k.nx _ _ _ (hd a) (r2.put hl ⟨rfl, by rw [hd_add]; simp⟩) ?_
  exact x1.trans x3
/-- name = {} -/
theorem sy_newD {nm : Str} {i : Nat} {pos' p2 : Pos} (hN : X.N.Nodup) (hi : X.N[i]? = some nm) (hx : Loc X.env.scope nm) (hl : i < S.g.length) (hd : ∀ a, D.nx ((S.add a (.dct [])).put i (.m a)))
    (hs : swapsWith (.Dict [] [] p2) (some (.Name nm pos')) pos.line X.env = pure false := by rfl) (hf : X.fn nm = true ∨ X.env.scope.names.lookup nm = some .local := by first | exact .inl rfl | exact .inr rfl) : SY X b (.Assign [.Name nm pos'] (.Dict [] [] p2) pos) S D := by
  intro σ H r E k
  refine w1_of (ps_set hN hi hx pe_dnewK hs hf) ?_
  intro a ha
  obtain ⟨r2, x3⟩ := r.addM (o := .dct []) ha (Ex.new (o := .dK []) ha) ⟨[], upd_same, .nil⟩
  exact k.nx _ _ _ (hd a) (r2.put hl ⟨rfl, by rw [hd_add]; simp⟩) x3
/-- xs.append(e) -/
theorem sy_append {o e : Expr} {apos cpos : Pos} {a : Addr} {ms : List PyData} {d : PyData} (ho : EV X b o S (.m a) S) (he : EV X b e S (.d d) S1) (hin : (a, MO.lst ms) ∈ S.m) (hin1 : (a, MO.lst ms) ∈ S1.m) (hz : ms.length < 1000) (hd : D.nx (S1.setm a (.lst (ms ++ [d]))))
    (hb : attributeBase o "append" X.env (eval o X.env) = eval o X.env := by rfl) (hk : (((backTo cpos (starEach [e] X.env)).all (!·.1) && (backToKw cpos (keywordEach [] X.env)).all (·.1.isSome)) && decide (([e].length + ([] : List Keyword).length + if ([] : List Keyword).isEmpty then 0 else 1) < 30)) = true := by rfl) (hl : (apos.endLine == cpos.line) = true := by rfl)
    (hst : starEach [e] X.env = (false, eval e X.env) :: starEach [] X.env := by rfl) (hpl : (backTo cpos (starEach [] X.env)).any (·.1) = false := by rfl) (hs : swapsWith (.Call (.Attribute o "append" apos) [e] [] cpos) none pos.line X.env = pure false := by rfl) :
    SY X b (.Expr (.Call (.Attribute o "append" apos) [e] [] cpos) pos) S D := by
  intro σ H r E k
  refine w1_of (ps_expr (pe_bm PySem.F.plainAttrs_list PySem.F.slot_list_append PySem.F.type_list_append mt_append (peW _) (pa_cons (peW _) pa_nil hst) hb hk hl hst hpl) hs) ?_
  show wE X o σ H _
  refine ho σ H r _ fun v H1 k1 r1 x1 a1 => ?_
  obtain ⟨rfl, _⟩ := k1
  obtain ⟨vs, e1, e2⟩ := r1.rm.mem _ hin
  refine ⟨.inl ⟨rfl, vs, .inl (.inl e1)⟩, ?_⟩
  refine he σ H1 r1 _ fun w H2 k2 r2 x2 a2 => ?_
  obtain ⟨ws, e3, e4⟩ := r2.rm.mem _ hin1
  refine ⟨a, ws, w, rfl, rfl, e3, by rw [DpAll.len e4]; exact small1000 (by omega), ?_⟩
  have xx : Ex (hide (Hd b S1) H2) (hide (Hd b S1) (upd H2 a (.lst (ws ++ [w])))) := fun c u e => by
    obtain ⟨q1, q2⟩ := hide_some e
    have hne : c ≠ a := fun z => q2 (z ▸ List.mem_append.mpr (.inr (List.mem_map.mpr ⟨_, hin1, rfl⟩)))
    rw [hide_out q2, upd_ne hne]
    exact q1
  obtain ⟨r3, x3⟩ := r2.setm (o' := .lst (ms ++ [d])) (H' := upd H2 a (.lst (ws ++ [w]))) hin1 (fun c u e ne => by rw [upd_ne ne]; exact e) ⟨_, upd_same, DpAll.ex xx (DpAll.append e4 (.cons k2 .nil))⟩
  exact k.nx _ _ _ hd r3 ((x1.trans x2).trans x3)
theorem dpAll_set {K : PySem.W.Frag} {H : Hp} {vs : List V} {ds : List PyData} (h : DpAll K H vs ds) : ∀ (n : Nat) {v : V} {d : PyData}, Dp K H v d → DpAll K H (vs.set n v) (ds.set n d) := by
  intro n
  induction n generalizing vs ds with
  | zero =>
    intro v d hv
    cases h with
    | nil => exact .nil
    | cons _ hs => exact .cons hv hs
  | succ n ih =>
    intro v d hv
    cases h with
    | nil => exact .nil
    | cons h hs => exact .cons h (ih hs hv)
/-- row[k] = e -/
theorem sy_setItem {o i e : Expr} {p2 : Pos} {a : Addr} {ms : List PyData} {j : Nat} {d : PyData} (he : EV X b e S (.d d) S1) (ho : EV X b o S1 (.m a) S1) (hi : EV X b i S1 (.d (.int (j : Int))) S1) (hin : (a, MO.lst ms) ∈ S1.m) (hj : j < ms.length) (hd : D.nx (S1.setm a (.lst (ms.set j d))))
    (hs : swapsWithSole [.Subscript o i p2] e pos.line X.env = pure false := by rfl) (hw : swappedStores [.Subscript o i p2] e X.env = pure none := by rfl) (h1 : (assignEach [.Subscript o i p2] X.env).map (·.2) = [assign (.Subscript o i p2) X.env] := by rfl)
    (ha : ∀ v, assign (.Subscript o i p2) X.env v = (do
      let ov ← holding [v] (eval o X.env)
      let iv ← holding [v, ov] (eval i X.env)
      standAt p2
      holding [v, ov, iv] (setItem ov iv v)
      release [v, ov, iv] []) := by intro _; rfl) : SY X b (.Assign [.Subscript o i p2] e pos) S D := by
  intro σ H r E k
  refine w1_of (ps_asg (peW _) (pg_sub (peW _) (peW _) set_list ha) hs hw h1) (he σ H r _ fun v H1 k1 r1 x1 a1 => ?_)
  refine ho σ H1 r1 _ fun ov H2 k2 r2 x2 a2 => ?_
  refine hi σ H2 r2 _ fun iv H3 k3 r3 x3 a3 => ?_
  obtain ⟨rfl, _⟩ := k2
  cases k3
  obtain ⟨ws, e3, e4⟩ := r3.rm.mem _ hin
  have hlen := DpAll.len e4
  refine ⟨a, ws, (j : Int), j, rfl, rfl, e3, ?_, ?_⟩
  · unfold ixN
    simp only [hlen]
    rw [if_pos (by omega)]
    simp
    try omega
  · have xx : Ex (hide (Hd b S1) H3) (hide (Hd b S1) (upd H3 a (.lst (ws.set j v)))) := fun c u e => by
      obtain ⟨q1, q2⟩ := hide_some e
      have hne : c ≠ a := fun z => q2 (z ▸ List.mem_append.mpr (.inr (List.mem_map.mpr ⟨_, hin, rfl⟩)))
      rw [hide_out q2, upd_ne hne]
      exact q1
    obtain ⟨r4, x4⟩ := r3.setm (o' := .lst (ms.set j d)) (H' := upd H3 a (.lst (ws.set j v))) hin (fun c u e ne => by rw [upd_ne ne]; exact e) ⟨_, upd_same, DpAll.ex xx (dpAll_set e4 j (Dp.ex (x2.trans x3) k1))⟩
    exact k.nx _ _ _ hd r4 (((x1.trans x2).trans x3).trans x4)
/-! dicts with int keys -/
def kput (kvs : List (Key × PyData)) (k : Key) (d : PyData) : List (Key × PyData) := if (kvs.any fun kv => decide (kv.1 = k)) = true then kvs.map (fun kv => if kv.1 = k then (kv.1, d) else kv) else kvs ++ [(k, d)]
def kget (kvs : List (Key × PyData)) (k : Key) : Option PyData := (kvs.find? fun kv => decide (kv.1 = k)).map (·.2)
theorem kvAll_get {K : PySem.W.Frag} {H : Hp} {us : List (Key × V)} {kvs : List (Key × PyData)} (h : KvAll K H us kvs) (k : Key) : (valV us k = none ∧ kget kvs k = none) ∨ ∃ v d, valV us k = some v ∧ kget kvs k = some d ∧ Dp K H v d := by
  induction h with
  | nil => exact .inl ⟨rfl, rfl⟩
  | @cons k0 v d us kvs hd _ ih =>
    by_cases e : k0 = k
    · refine .inr ⟨v, d, ?_, ?_, hd⟩
      · unfold valV; rw [List.find?_cons_of_pos (by simpa using e)]; rfl
      · unfold kget; rw [List.find?_cons_of_pos (by simpa using e)]; rfl
    · unfold valV kget at ih ⊢
      rw [List.find?_cons_of_neg (by simpa using e), List.find?_cons_of_neg (by simpa using e)]
      exact ih
theorem kvAll_keys {K : PySem.W.Frag} {H : Hp} {us : List (Key × V)} {kvs : List (Key × PyData)} (h : KvAll K H us kvs) : us.map (·.1) = kvs.map (·.1) := by
  induction h with
  | nil => rfl
  | cons _ _ ih => rw [List.map_cons, List.map_cons, ih]
theorem kvAll_any {K : PySem.W.Frag} {H : Hp} {us : List (Key × V)} {kvs : List (Key × PyData)} (h : KvAll K H us kvs) (k : Key) : (us.any fun kv => decide (kv.1 = k)) = (kvs.any fun kv => decide (kv.1 = k)) := by
  induction h with
  | nil => rfl
  | cons _ _ ih => rw [List.any_cons, List.any_cons, ih]
theorem kvAll_put {K : PySem.W.Frag} {H : Hp} {us : List (Key × V)} {kvs : List (Key × PyData)} (h : KvAll K H us kvs) (k : Key) {v : V} {d : PyData} (hv : Dp K H v d) : KvAll K H (putK us k v) (kput kvs k d) := by
  unfold putK kput
  rw [kvAll_any h]
  by_cases c : (kvs.any fun kv => decide (kv.1 = k)) = true
  · rw [if_pos c, if_pos c]
    clear c
    induction h with
    | nil => exact .nil
    | @cons k0 v0 d0 us kvs hd _ ih =>
      rw [List.map_cons, List.map_cons]
      by_cases e : k0 = k
      · rw [if_pos e, if_pos e]
        exact .cons hv ih
      · rw [if_neg e, if_neg e]
        exact .cons hd ih
  · rw [if_neg c, if_neg c]
    clear c
    induction h with
    | nil => exact .cons hv .nil
    | cons hd _ ih => exact .cons hd ih
/-- d[k] = e -/
theorem sy_dput {o i e : Expr} {p2 : Pos} {a : Addr} {kvs : List (Key × PyData)} {n : Int} {d : PyData} (hu : X.A.units + 1 < cLine) (he : EV X b e S (.d d) S1) (ho : EV X b o S1 (.m a) S1) (hi : EV X b i S1 (.d (.int n)) S1) (hin : (a, MO.dct kvs) ∈ S1.m) (hz : kvs.length ≤ 1000) (hd : D.nx (S1.setm a (.dct (kput kvs (.inl n) d))))
    (hs : swapsWith e (some (.Subscript o i p2)) pos.line X.env = pure false := by rfl) : SY X b (.Assign [.Subscript o i p2] e pos) S D := by
  intro σ H r E k
  refine w1_of (ps_dput hu (peW _) (peW _) (peW _) hs) (he σ H r _ fun v H1 k1 r1 x1 a1 => ?_)
  refine ho σ H1 r1 _ fun ov H2 k2 r2 x2 a2 => ?_
  refine hi σ H2 r2 _ fun iv H3 k3 r3 x3 a3 => ?_
  obtain ⟨rfl, _⟩ := k2
  cases k3
  obtain ⟨us, e3, e4⟩ := r3.rm.mem _ hin
  have hlen : us.length = kvs.length := by
    have := congrArg List.length (kvAll_keys e4)
    simpa using this
  refine ⟨a, _, rfl, DPut.k (k := Sum.inl n) e3 (by rw [hlen]; exact small1000 hz), ?_⟩
  have xx : Ex (hide (Hd b S1) H3) (hide (Hd b S1) (upd H3 a (.dK (putK us (.inl n) v)))) := fun c u e => by
    obtain ⟨q1, q2⟩ := hide_some e
    have hne : c ≠ a := fun z => q2 (z ▸ List.mem_append.mpr (.inr (List.mem_map.mpr ⟨_, hin, rfl⟩)))
    rw [hide_out q2, upd_ne hne]
    exact q1
  obtain ⟨r4, x4⟩ := r3.setm (o' := .dct (kput kvs (.inl n) d)) (H' := upd H3 a (.dK (putK us (.inl n) v))) hin (fun c u e ne => by rw [upd_ne ne]; exact e) ⟨_, upd_same, KvAll.ex xx (kvAll_put e4 _ (Dp.ex (x2.trans x3) k1))⟩
  exact k.nx _ _ _ hd r4 (((x1.trans x2).trans x3).trans x4)
/-- d.get(k, e) -/
theorem ev_dget2 {o e f : Expr} {apos cpos : Pos} {a : Addr} {kvs : List (Key × PyData)} {n : Int} {d : PyData} (hu : X.A.units + 1 < cLine) (ho : EV X b o S (.m a) S) (hi : EV X b e S (.d (.int n)) S) (hf : EV X b f S (.d d) S) (hin : (a, MO.dct kvs) ∈ S.m) (m : M2 X o "get" apos e f cpos) :
    EV X b (.Call (.Attribute o "get" apos) [e, f] [] cpos) S (.d ((kget kvs (.inl n)).getD d)) S := by
  intro σ H r Q q
  refine wE_of (pe_dget2 hu (peW _) (peW _) (peW _) m) (ho σ H r _ fun ov H1 k1 r1 x1 a1 => ?_)
  obtain ⟨rfl, _⟩ := k1
  obtain ⟨us, e1, e2⟩ := r1.rm.mem _ hin
  refine ⟨a, rfl, .inl ⟨us, .inl e1⟩, hi σ H1 r1 _ fun iv H2 k2 r2 x2 a2 => ?_⟩
  cases k2
  refine hf σ H2 r2 _ fun w H3 k3 r3 x3 a3 => ?_
  obtain ⟨ws, e3, e4⟩ := r3.rm.mem _ hin
  refine ⟨_, DGet.k (k := Sum.inl n) e3, ?_⟩
  rcases kvAll_get e4 (.inl n) with ⟨h1, h2⟩ | ⟨v, d', h1, h2, h3⟩
  · rw [h1]
    exact q w H3 (by rw [h2]; exact k3) r3 ((x1.trans x2).trans x3) fun _ h => h
  · rw [h1]
    exact q v H3 (by rw [h2]; exact h3) r3 ((x1.trans x2).trans x3) fun _ h => h
/-- d[k], there -/
theorem ev_dgetI {o i : Expr} {a : Addr} {kvs : List (Key × PyData)} {n : Int} {d : PyData} (hu : X.A.units + 1 < cLine) (ho : EV X b o S (.m a) S) (hi : EV X b i S (.d (.int n)) S) (hin : (a, MO.dct kvs) ∈ S.m) (hk : kget kvs (.inl n) = some d) (hp : PlainIx i := by exact fun _ _ => rfl) : EV X b (.Subscript o i pos) S (.d d) S := by
  intro σ H r Q q
  refine wE_of (pe_dget hu (peW _) (peW _) hp) (ho σ H r _ fun ov H1 k1 r1 x1 a1 => ?_)
  obtain ⟨rfl, _⟩ := k1
  refine hi σ H1 r1 _ fun iv H2 k2 r2 x2 a2 => ?_
  cases k2
  obtain ⟨ws, e3, e4⟩ := r2.rm.mem _ hin
  rcases kvAll_get e4 (.inl n) with ⟨h1, h2⟩ | ⟨v, d', h1, h2, h3⟩
  · rw [hk] at h2; cases h2
  · rw [hk] at h2
    cases (Option.some.inj h2)
    refine ⟨a, v, rfl, ?_, q v H2 h3 r2 (x1.trans x2) fun _ h => h⟩
    rw [← h1]
    exact DGet.k (k := Sum.inl n) e3
/-- sorted(d): the int keys, rising -/
def intKeys (kvs : List (Key × PyData)) (ks : List Int) : Prop := kvs.map (·.1) = ks.map Sum.inl
theorem perm_sorted_unique : ∀ {ys zs : List Int}, ys.Perm zs → ys.Pairwise (· ≤ ·) → zs.Pairwise (· ≤ ·) → ys = zs := by
  intro ys zs h h1 h2
  exact h.eq_of_pairwise (fun a b _ _ h1 h2 => Int.le_antisymm h1 h2) h1 h2
theorem rc_sortedD {a : Addr} {kvs : List (Key × PyData)} {ks zs : List Int} (hin : (a, MO.dct kvs) ∈ S.m) (hk : intKeys kvs ks) (h64 : ks.length < 64) (hp : zs.Perm ks) (hs : zs.Pairwise (· ≤ ·)) : RC b (fun xs H Q => ∃ (a : Addr) (kvs : List (Key × V)) (ks : List Int), xs = [.ref a] ∧ Rd H a (.dK kvs) ∧ kvs.map (·.1) = ks.map Sum.inl ∧ ks.length < 64 ∧
    ∀ (ys : List Int) (p : Addr), ys.Perm ks → ys.Pairwise (· ≤ ·) → H p = none → Q (.ref p) (upd H p (.lst (ys.map V.int)))) [.m a] S (.d (.list (zs.map .int))) := by
  intro H vs rm h Q q
  obtain ⟨v, rfl, k⟩ := vall1 h
  obtain ⟨rfl, _⟩ := k
  obtain ⟨us, e3, e4⟩ := rm.mem _ hin
  refine ⟨a, us, ks, rfl, .inl e3, by rw [kvAll_keys e4]; exact hk, h64, fun ys p h1 h2 h3 => ?_⟩
  have e : ys = zs := perm_sorted_unique (h1.trans hp.symm) h2 hs
  subst e
  exact q _ _ (.lst (.inl (.inl (hide_new (rm.fresh h3)))) (DpAll.ints ys)) (Ex.new h3)
theorem rc_listD {a : Addr} {kvs : List (Key × PyData)} {ks : List Int} (hin : (a, MO.dct kvs) ∈ S.m) (hk : intKeys kvs ks) : RC b (fun xs H Q => ∃ (a : Addr) (kvs : List (Key × V)), xs = [.ref a] ∧ Rd H a (.dK kvs) ∧ ∀ p, H p = none → Q (.ref p) (upd H p (.lst (kvs.map fun kv => kV kv.1)))) [.m a] S (.d (.list (ks.map .int))) := by
  intro H vs rm h Q q
  obtain ⟨v, rfl, k⟩ := vall1 h
  obtain ⟨rfl, _⟩ := k
  obtain ⟨us, e3, e4⟩ := rm.mem _ hin
  refine ⟨a, us, rfl, .inl e3, fun p h3 => ?_⟩
  have e : (us.map fun kv => kV kv.1) = ks.map V.int := by
    have h1 := kvAll_keys e4
    have h2 : us.map (·.1) = ks.map Sum.inl := h1.trans hk
    have h3 := congrArg (List.map kV) h2
    rw [List.map_map, List.map_map] at h3
    exact h3
  rw [e]
  exact q _ _ (.lst (.inl (.inl (hide_new (rm.fresh h3)))) (DpAll.ints ks)) (Ex.new h3)
end
end DX
end
section
set_option Elab.async false
set_option linter.all false
set_option maxRecDepth 100000
set_option maxHeartbeats 4000000
namespace DX
open PySem PySem.Spec PyProof.Rows L2
set_option autoImplicit false
section
variable {X : Cx} {b : Bs} {S S1 S2 S3 S' : DS} {x y z : DV} {pos : Pos} {D : DE} {rest : List Stmt}
/-! ### a mutable thing that will not change any more -/
def DS.frz (S : DS) (a : Addr) (o : PyData) : DS := ⟨S.g.map fun v => match v with
  | .m c => if c = a then .d o else .m c
  | v => v, S.m.filter fun p => decide (p.1 ≠ a)⟩
theorem frz_as {S : DS} {a : Addr} {o : PyData} {c : Addr} (h : c ∈ Hd b (S.frz a o)) : c ∈ Hd b S := by
  rcases List.mem_append.mp h with q | q
  · exact List.mem_append.mpr (.inl q)
  · obtain ⟨p, hp, e⟩ := List.mem_map.mp q
    exact List.mem_append.mpr (.inr (List.mem_map.mpr ⟨p, (List.mem_filter.mp hp).1, e⟩))
theorem Rel.frzL {σ : List (Option V)} {H : Hp} {a : Addr} {ms : List PyData} (r : Rel b S σ H) (hin : (a, MO.lst ms) ∈ S.m) (hf : a ∉ b.fx) : Rel b (S.frz a (.list ms)) σ H ∧ Ex (hide (Hd b S) H) (hide (Hd b (S.frz a (.list ms))) H) := by
  have hd0 : a ∉ b.hd := fun q => by
    obtain ⟨h1, h2⟩ := b.hdt a q
    rcases r.rm.fr a (List.mem_map.mpr ⟨_, hin, rfl⟩) with h | h
    · exact h1 h
    · exact h2 h
  have na : a ∉ Hd b (S.frz a (.list ms)) := fun q => by
    rcases List.mem_append.mp q with q | q
    · exact hd0 q
    · obtain ⟨p, hp, e⟩ := List.mem_map.mp q
      exact of_decide_eq_true (List.mem_filter.mp hp).2 e
  have x : Ex (hide (Hd b S) H) (hide (Hd b (S.frz a (.list ms))) H) := fun c u e => by
    obtain ⟨h1, h2⟩ := hide_some e
    rw [hide_out fun q => h2 (frz_as q)]
    exact h1
  obtain ⟨us, e1, e2⟩ := r.rm.mem _ hin
  have dl : Dp b.K (hide (Hd b (S.frz a (.list ms))) H) (.ref a) (.list ms) := .lst (.inl (.inl (by rw [hide_out na]; exact e1))) (DpAll.ex x e2)
  have sub : ∀ c, c ∈ (S.frz a (.list ms)).as → c ∈ S.as := fun c hc => by
    obtain ⟨p, hp, e⟩ := List.mem_map.mp hc
    exact List.mem_map.mpr ⟨p, (List.mem_filter.mp hp).1, e⟩
  refine ⟨⟨by rw [r.len]; unfold DS.frz; simp, fun i y h => ?_, ⟨fun p hp => ?_, ?_, fun c hc => r.rm.fr c (sub c hc), r.rm.ext, fun c hc => by
    obtain ⟨p, hp, e⟩ := List.mem_map.mp (r.rm.fxs c hc)
    exact List.mem_map.mpr ⟨p, List.mem_filter.mpr ⟨hp, decide_eq_true (by rw [e]; intro z; exact hf (z ▸ hc))⟩, e⟩⟩⟩, x⟩
  · unfold DS.frz at h
    rw [List.getElem?_map] at h
    cases hg : S.g[i]? with
    | none => rw [hg] at h; cases h
    | some w =>
      rw [hg] at h
      have h := Option.some.inj h
      rcases r.slot i w hg with q | ⟨v, q, k⟩
      · subst q
        exact .inl h.symm
      · cases w with
        | no => exact .inl h.symm
        | d w =>
          refine .inr ⟨v, q, ?_⟩
          rw [← h]
          exact Dp.ex x k
        | m c =>
          refine .inr ⟨v, q, ?_⟩
          rw [← h]
          show VOk _ _ _ _ (if c = a then _ else _)
          obtain ⟨k1, k2⟩ := k
          by_cases hc : c = a
          · rw [if_pos hc, k1, hc]
            exact dl
          · rw [if_neg hc]
            refine ⟨k1, ?_⟩
            rcases List.mem_append.mp k2 with q | q
            · exact List.mem_append.mpr (.inl q)
            · obtain ⟨p, hp, e⟩ := List.mem_map.mp q
              exact List.mem_append.mpr (.inr (List.mem_map.mpr ⟨p, List.mem_filter.mpr ⟨hp, decide_eq_true (by rw [e]; exact hc)⟩, e⟩))
  · have hp' := (List.mem_filter.mp hp).1
    have := r.rm.mem p hp'
    obtain ⟨c, mo⟩ := p
    cases mo with
    | lst ds => obtain ⟨vs, q1, q2⟩ := this; exact ⟨vs, q1, DpAll.ex x q2⟩
    | dct ds => obtain ⟨vs, q1, q2⟩ := this; exact ⟨vs, q1, KvAll.ex x q2⟩
    | tab q => exact this
  · exact List.Pairwise.sublist (List.Sublist.map _ List.filter_sublist) r.rm.nd
/-- from here on it is data -/
theorem sx_frz {st : List Stmt} {a : Addr} {ms : List PyData} (hin : (a, MO.lst ms) ∈ S.m) (hf : a ∉ b.fx) (h : SX X b st (S.frz a (.list ms)) D) : SX X b st S D := by
  intro σ H r E k
  obtain ⟨r', x⟩ := r.frzL hin hf
  exact h σ H r' E (k.later x)
/-- a dict is forgotten -/
theorem Rel.drop {σ : List (Option V)} {H : Hp} {a : Addr} (r : Rel b S σ H) (hf : a ∉ b.fx) : Rel b ⟨S.g.map fun v => match v with
  | .m c => if c = a then .no else .m c
  | v => v, S.m.filter fun p => decide (p.1 ≠ a)⟩ σ H ∧ Ex (hide (Hd b S) H) (hide (Hd b ⟨S.g.map fun v => match v with
  | .m c => if c = a then .no else .m c
  | v => v, S.m.filter fun p => decide (p.1 ≠ a)⟩) H) := by
  have asub : ∀ c, c ∈ Hd b ⟨S.g.map fun v => match v with
  | .m c => if c = a then .no else .m c
  | v => v, S.m.filter fun p => decide (p.1 ≠ a)⟩ → c ∈ Hd b S := fun c h => by
    rcases List.mem_append.mp h with q | q
    · exact List.mem_append.mpr (.inl q)
    · obtain ⟨p, hp, e⟩ := List.mem_map.mp q
      exact List.mem_append.mpr (.inr (List.mem_map.mpr ⟨p, (List.mem_filter.mp hp).1, e⟩))
  have x : Ex (hide (Hd b S) H) (hide (Hd b ⟨S.g.map fun v => match v with
  | .m c => if c = a then .no else .m c
  | v => v, S.m.filter fun p => decide (p.1 ≠ a)⟩) H) := fun c u e => by
    obtain ⟨h1, h2⟩ := hide_some e
    rw [hide_out fun q => h2 (asub c q)]
    exact h1
  refine ⟨⟨by rw [r.len]; simp, fun i y h => ?_, ⟨fun p hp => ?_, ?_, fun c hc => ?_, r.rm.ext, fun c hc => by
    obtain ⟨p, hp, e⟩ := List.mem_map.mp (r.rm.fxs c hc)
    exact List.mem_map.mpr ⟨p, List.mem_filter.mpr ⟨hp, decide_eq_true (by rw [e]; intro z; exact hf (z ▸ hc))⟩, e⟩⟩⟩, x⟩
  · rw [List.getElem?_map] at h
    cases hg : S.g[i]? with
    | none => rw [hg] at h; cases h
    | some w =>
      rw [hg] at h
      have h := Option.some.inj h
      rcases r.slot i w hg with q | ⟨v, q, k⟩
      · subst q
        exact .inl h.symm
      · cases w with
        | no => exact .inl h.symm
        | d w =>
          refine .inr ⟨v, q, ?_⟩
          rw [← h]
          exact Dp.ex x k
        | m c =>
          by_cases hc : c = a
          · left
            rw [← h]
            show (if c = a then DV.no else DV.m c) = DV.no
            rw [if_pos hc]
          · refine .inr ⟨v, q, ?_⟩
            rw [← h]
            show VOk _ _ _ _ (if c = a then _ else _)
            rw [if_neg hc]
            obtain ⟨k1, k2⟩ := k
            refine ⟨k1, ?_⟩
            rcases List.mem_append.mp k2 with q | q
            · exact List.mem_append.mpr (.inl q)
            · obtain ⟨p, hp, e⟩ := List.mem_map.mp q
              exact List.mem_append.mpr (.inr (List.mem_map.mpr ⟨p, List.mem_filter.mpr ⟨hp, decide_eq_true (by rw [e]; exact hc)⟩, e⟩))
  · have hp' := (List.mem_filter.mp hp).1
    have := r.rm.mem p hp'
    obtain ⟨c, mo⟩ := p
    cases mo with
    | lst ds => obtain ⟨vs, q1, q2⟩ := this; exact ⟨vs, q1, DpAll.ex x q2⟩
    | dct ds => obtain ⟨vs, q1, q2⟩ := this; exact ⟨vs, q1, KvAll.ex x q2⟩
    | tab q => exact this
  · exact List.Pairwise.sublist (List.Sublist.map _ List.filter_sublist) r.rm.nd
  · obtain ⟨p, hp, e⟩ := List.mem_map.mp hc
    exact r.rm.fr c (List.mem_map.mpr ⟨p, (List.mem_filter.mp hp).1, e⟩)
/-! ### comprehensions -/
/-- the slots of the comprehension's own names are empty -/
def gWipe (g : List DV) : List Nat → List DV
  | [] => g
  | v :: vs => (gWipe g vs).set v .no
theorem gWipe_len (g : List DV) : ∀ vs, (gWipe g vs).length = g.length
  | [] => rfl
  | v :: vs => by unfold gWipe; rw [List.length_set, gWipe_len g vs]
theorem rel_wipe {g : List DV} {m : List (Addr × MO)} {σ : List (Option V)} {H : Hp} : ∀ {vs : List Nat}, Rel b ⟨g, m⟩ σ H → Rel b ⟨gWipe g vs, m⟩ (wipe σ vs) H
  | [], r => r
  | v :: vs, r => by
    have ih := rel_wipe (vs := vs) r
    refine ⟨by rw [wipe_length, gWipe_len]; exact r.len, fun i y h => ?_, ⟨r.rm.mem, r.rm.nd, r.rm.fr, r.rm.ext, r.rm.fxs⟩⟩
    have h : ((gWipe g vs).set v .no)[i]? = some y := h
    by_cases e : v = i
    · subst e
      by_cases hl : v < (gWipe g vs).length
      · rw [List.getElem?_set_self hl] at h
        exact .inl (Option.some.inj h).symm
      · rw [List.getElem?_eq_none (by rw [List.length_set]; omega)] at h
        cases h
    · rw [List.getElem?_set_ne e] at h
      rcases ih.slot i y h with q | ⟨w, q, k⟩
      · exact .inl q
      · refine .inr ⟨w, ?_, k⟩
        show ((wipe σ vs).set v none)[i]? = _
        rw [List.getElem?_set_ne e]
        exact q
/-- the block's judgements: over all contexts of the comprehension -/
def EVb (X : Cx) (b : Bs) (scope : Scope) (e : Expr) (S : DS) (x : DV) (S' : DS) : Prop := ∀ (s : Shared) (H : Hp) (C : Addr) (cl : List (Str × Addr)) (fp : List Addr), EV (X.blk s H scope (compEnvC scope cl C X.env) fp) b e S x S'
def wEb (X : Cx) (scope : Scope) (e : Expr) : TE := fun σ H Q => ∀ (s : Shared) (H0 : Hp) (C : Addr) (cl : List (Str × Addr)) (fp : List Addr), wE (X.blk s H0 scope (compEnvC scope cl C X.env) fp) e σ H Q
theorem peWb (scope : Scope) (e : Expr) (s : Shared) (H : Hp) (C : Addr) (cl : List (Str × Addr)) (fp : List Addr) : PE (X.blk s H scope (compEnvC scope cl C X.env) fp) e (wEb X scope e) := ⟨fun pins s' σ H' Q I h => h s H C cl fp pins s' I⟩
def ETb (X : Cx) (b : Bs) (scope : Scope) (e : Expr) (S : DS) (c : Bool) (S' : DS) : Prop := ∀ (s : Shared) (H : Hp) (C : Addr) (cl : List (Str × Addr)) (fp : List Addr), ET (X.blk s H scope (compEnvC scope cl C X.env) fp) b e S c S'
def wTb (X : Cx) (scope : Scope) (e : Expr) : TT := fun σ H Q => ∀ (s : Shared) (H0 : Hp) (C : Addr) (cl : List (Str × Addr)) (fp : List Addr), wT (X.blk s H0 scope (compEnvC scope cl C X.env) fp) e σ H Q
theorem ptWb (scope : Scope) (e : Expr) (s : Shared) (H : Hp) (C : Addr) (cl : List (Str × Addr)) (fp : List Addr) : PT (X.blk s H scope (compEnvC scope cl C X.env) fp) e (wTb X scope e) := ⟨fun pins s' σ H' Q I h => h s H C cl fp pins s' I⟩
/-- what comes out of n turns -/
def outs (c : Nat → Bool) (y : Nat → PyData) : Nat → List PyData
  | 0 => []
  | n + 1 => if c n then outs c y n ++ [y n] else outs c y n
theorem outs_le (c : Nat → Bool) (y : Nat → PyData) : ∀ n, (outs c y n).length ≤ n
  | 0 => Nat.le_refl _
  | n + 1 => by
    have := outs_le c y n
    unfold outs
    split
    · rw [List.length_append]; simp; omega
    · omega
theorem outs_picked {ds : List PyData} {f : PyData → Bool} {g : PyData → PyData} {c : Nat → Bool} {y : Nat → PyData} (h : ∀ (i : Nat) d, ds[i]? = some d → c i = f d ∧ y i = g d) : outs c y ds.length = (ds.filter f).map g := by
  have key : ∀ n, n ≤ ds.length → outs c y n = ((ds.take n).filter f).map g := by
    intro n
    induction n with
    | zero => intro _; rfl
    | succ n ih =>
      intro hn
      have hd : ds[n]? = some ds[n] := List.getElem?_eq_getElem (by omega)
      obtain ⟨h1, h2⟩ := h n _ hd
      unfold outs
      rw [ih (by omega), List.take_succ, hd, h1, h2]
      by_cases q : f ds[n] = true
      · rw [if_pos q, List.filter_append, List.map_append]; simp [q]
      · rw [if_neg q, List.filter_append, List.map_append]; simp [q]
  rw [key _ (Nat.le_refl _), List.take_length]
/-- slots stand in a later heap -/
theorem rel_later {g : List DV} {m m' : List (Addr × MO)} {σ : List (Option V)} {H H' : Hp} (r : Rel b ⟨g, m⟩ σ H) (x : Ex (hide (Hd b ⟨g, m⟩) H) (hide (Hd b ⟨g, m'⟩) H')) (hs : ∀ a ∈ Hd b ⟨g, m⟩, a ∈ Hd b ⟨g, m'⟩) (rm : RelM b ⟨g, m'⟩ H') : Rel b ⟨g, m'⟩ σ H' := by
  refine ⟨r.len, fun i y h => ?_, rm⟩
  rcases r.slot i y h with q | ⟨v, q, k⟩
  · exact .inl q
  · exact .inr ⟨v, q, k.ex x hs⟩
theorem relM_g {g g' : List DV} {m : List (Addr × MO)} {H : Hp} (r : RelM b ⟨g, m⟩ H) : RelM b ⟨g', m⟩ H := ⟨r.mem, r.nd, r.fr, r.ext, r.fxs⟩
/-- a target in a comprehension -/
def TGb (b : Bs) (vs : List Nat) (d : PyData) (g0 g1 : List DV) (g : TG) : Prop := ∀ v σ H m, VOk b.K (Hd b ⟨g0, m⟩) H v (.d d) → Rel b ⟨g0, m⟩ σ H → ∀ Q : List (Option V) → Hp → Prop, (∀ σ', Rel b ⟨g1, m⟩ σ' H → wipe σ' vs = wipe σ vs → Q σ' H) → g v σ H Q
theorem wipe_set (σ : List (Option V)) (j : Nat) (x : Option V) : ∀ {vs : List Nat}, j ∈ vs → wipe (σ.set j x) vs = wipe σ vs
  | v :: vs, h => by
    by_cases e : v = j
    · subst e
      show (wipe (σ.set v x) vs).set v none = (wipe σ vs).set v none
      by_cases hv : v ∈ vs
      · rw [wipe_set σ v x hv]
      · have comm : ∀ (σ : List (Option V)) (us : List Nat), v ∉ us → wipe (σ.set v x) us = (wipe σ us).set v x := by
          intro σ us
          induction us with
          | nil => intro _; rfl
          | cons u us ih =>
            intro hu
            show (wipe (σ.set v x) us).set u none = ((wipe σ us).set u none).set v x
            rw [ih fun h => hu (List.mem_cons_of_mem _ h), List.set_comm _ _ (fun e => hu (by rw [e]; exact List.mem_cons_self ..))]
        rw [comm σ vs hv, List.set_set]
    · show (wipe (σ.set j x) vs).set v none = (wipe σ vs).set v none
      rcases List.mem_cons.mp h with q | q
      · exact (e q.symm).elim
      · rw [wipe_set σ j x q]
theorem tgb_name {vs : List Nat} {d : PyData} {g0 : List DV} {j : Nat} (hj : j ∈ vs) (hl : j < g0.length) : TGb b vs d g0 (g0.set j (.d d)) (gName j) := fun v σ H m k r Q q => q _ (r.put hl k) (wipe_set σ j _ hj)
/-- several, nested -/
inductive TGbs (b : Bs) (vs : List Nat) : List TG → List PyData → List DV → List DV → Prop
  | nil {g0 : List DV} : TGbs b vs [] [] g0 g0
  | cons {g : TG} {gs : List TG} {d : PyData} {ds : List PyData} {g0 g1 g2 : List DV} : TGb b vs d g0 g1 g → TGbs b vs gs ds g1 g2 → TGbs b vs (g :: gs) (d :: ds) g0 g2
theorem tgbs_run {vs : List Nat} {gs : List TG} {ds : List PyData} {g0 g1 : List DV} (h : TGbs b vs gs ds g0 g1) : ∀ {us : List V} {σ : List (Option V)} {H : Hp} {m : List (Addr × MO)}, DpAll b.K (hide (Hd b ⟨g0, m⟩) H) us ds → Rel b ⟨g0, m⟩ σ H → ∀ Q : List (Option V) → Hp → Prop, (∀ σ', Rel b ⟨g1, m⟩ σ' H → wipe σ' vs = wipe σ vs → Q σ' H) → gList gs us σ H Q := by
  induction h with
  | nil =>
    intro us σ H m hd r Q q
    cases hd
    exact ⟨rfl, q σ r rfl⟩
  | @cons g gs d ds g0 g1 g2 h1 _ ih =>
    intro us σ H m hd r Q q
    cases hd with
    | cons hv hvs => exact ⟨_, _, rfl, h1 _ σ H m hv r _ fun σ1 r1 e1 => ih hvs r1 Q fun σ2 r2 e2 => q σ2 r2 (e2.trans e1)⟩
theorem tgb_tup {K : PySem.W.Frag} {vs : List Nat} {n : Nat} {gs : List TG} {ds : List PyData} {g0 g1 : List DV} (hK : K = b.K) (hn : ds.length = n) (h : TGbs b vs gs ds g0 g1) : TGb b vs (.tuple ds) g0 g1 (gTup K n (gList gs)) := by
  intro v σ H m kv r Q q
  cases kv with
  | tup hs ha => exact ⟨_, _, rfl, by rw [hK]; exact ex_t hide_ex hs, by rw [DpAll.len ha]; exact hn, tgbs_run h ha r Q q⟩
theorem wipe_wipe (σ : List (Option V)) : ∀ vs us : List Nat, (∀ v ∈ us, v ∈ vs) → wipe (wipe σ us) vs = wipe σ vs
  | vs, [], _ => rfl
  | vs, u :: us, h => by
    show wipe ((wipe σ us).set u none) vs = wipe σ vs
    rw [wipe_set _ u none (h u (List.mem_cons_self ..)), wipe_wipe σ vs us fun v hv => h v (List.mem_cons_of_mem _ hv)]
/-- a turn's two parts over all the block's contexts -/
theorem lc_step {scope : Scope} {elt : Expr} {tt : TT} {g0 gt : List DV} {M M' : List (Addr × MO)} {Dl : Addr} {acc : List PyData} {c : Bool} {d : PyData} {σ2 : List (Option V)} {H : Hp} {Nx : Hp → Prop}
    (hM : M'.map (·.1) = M.map (·.1)) (r : Rel b ⟨gt, M ++ [(Dl, .lst acc)]⟩ σ2 H) (hz : acc.length < 1000)
    (ht : ∀ Q : Bool → Hp → Prop, (∀ H', Rel b ⟨gt, M ++ [(Dl, .lst acc)]⟩ σ2 H' → Ex (hide (Hd b ⟨gt, M ++ [(Dl, .lst acc)]⟩) H) (hide (Hd b ⟨gt, M ++ [(Dl, .lst acc)]⟩) H') → Q c H') → tt σ2 H Q)
    (he : c = true → EVb X b scope elt ⟨gt, M ++ [(Dl, .lst acc)]⟩ (.d d) ⟨gt, M' ++ [(Dl, .lst acc)]⟩) (hno : c = false → M' = M)
    (hN : ∀ H', RelM b ⟨g0, M' ++ [(Dl, .lst (if c then acc ++ [d] else acc))]⟩ H' → Ex (hide (Hd b ⟨gt, M ++ [(Dl, .lst acc)]⟩) H) (hide (Hd b ⟨g0, M' ++ [(Dl, .lst (if c then acc ++ [d] else acc))]⟩) H') → Nx H') :
    tt σ2 H fun k H3 => if k = true then wEb X scope elt σ2 H3 fun y H4 => ∃ acc, H4 Dl = some (.lst acc) ∧ acc.length < sizeLine ∧ Nx (upd H4 Dl (.lst (acc ++ [y]))) else Nx H3 := by
  refine ht _ fun H3 r3 x3 => ?_
  cases c with
  | false =>
    show Nx H3
    have e := hno rfl
    subst e
    refine hN H3 (relM_g r3.rm) ?_
    exact x3
  | true =>
    show wEb X scope elt σ2 H3 _
    intro s H0 C cl fp
    refine he rfl s H0 C cl fp σ2 H3 r3 _ fun v H4 k4 r4 x4 a4 => ?_
    have hin : (Dl, MO.lst acc) ∈ (⟨gt, M' ++ [(Dl, .lst acc)]⟩ : DS).m := List.mem_append.mpr (.inr (by simp))
    obtain ⟨us, e1, e2⟩ := r4.rm.mem _ hin
    refine ⟨us, e1, by rw [DpAll.len e2]; exact small1000 (by omega), ?_⟩
    have xx : Ex (hide (Hd b ⟨gt, M' ++ [(Dl, .lst acc)]⟩) H4) (hide (Hd b ⟨gt, M' ++ [(Dl, .lst acc)]⟩) (upd H4 Dl (.lst (us ++ [v])))) := fun q u e => by
      obtain ⟨q1, q2⟩ := hide_some e
      have hne : q ≠ Dl := fun z => q2 (List.mem_append.mpr (.inr (List.mem_map.mpr ⟨_, hin, z.symm⟩)))
      rw [hide_out q2, upd_ne hne]
      exact q1
    obtain ⟨r5, x5⟩ := r4.setm (o' := .lst (acc ++ [d])) (H' := upd H4 Dl (.lst (us ++ [v]))) hin (fun q u e ne => by rw [upd_ne ne]; exact e) ⟨_, upd_same, DpAll.ex xx (DpAll.append e2 (.cons k4 .nil))⟩
    have em : (DS.setm ⟨gt, M' ++ [(Dl, .lst acc)]⟩ Dl (.lst (acc ++ [d]))) = ⟨gt, M' ++ [(Dl, .lst (acc ++ [d]))]⟩ := by
      have nd : ((M' ++ [(Dl, MO.lst acc)]).map (·.1)).Nodup := r4.rm.nd
      rw [List.map_append] at nd
      have hn : Dl ∉ M'.map (·.1) := fun q => (List.nodup_append.mp nd).2.2 Dl q Dl (by simp) rfl
      unfold DS.setm setM
      rw [List.map_append]
      have e0 : M'.map (fun p => if p.1 = Dl then (Dl, MO.lst (acc ++ [d])) else p) = M' := by
        refine (List.map_congr_left (fun p hp => ?_)).trans (List.map_id _)
        show (if p.1 = Dl then (Dl, MO.lst (acc ++ [d])) else p) = p
        rw [if_neg fun e => hn (List.mem_map.mpr ⟨p, hp, e⟩)]
      simp [e0]
    rw [em] at r5 x5
    refine hN _ (relM_g r5.rm) ?_
    exact (x3.trans x4).trans x5
/-- [elt for tg in a tuple (if test)] -/
theorem lc_core2 {elt : Expr} {scope : Scope} {own : List (Str × Nat)} {g : TG} {tt : TT} {ds : List PyData} {gT : PyData → List DV} {Ms : Nat → List (Addr × MO)} {c : Nat → Bool} {y : Nat → PyData} {σ : List (Option V)} {H1 : Hp} {S1 : DS} {Q : VK}
    (hz : ds.length ≤ 1000) (r1 : Rel b S1 σ H1) (h0 : Ms 0 = S1.m) (hM : ∀ i, (Ms i).map (·.1) = S1.m.map (·.1))
    (hg : ∀ (i : Nat) d, ds[i]? = some d → TGb b (own.map (·.2)) d (gWipe S1.g (own.map (·.2))) (gT d) g)
    (ht : ∀ (i : Nat) d, ds[i]? = some d → ∀ Dl acc σ2 H, Rel b ⟨gT d, Ms i ++ [(Dl, .lst acc)]⟩ σ2 H → ∀ Q : Bool → Hp → Prop, (∀ H', Rel b ⟨gT d, Ms i ++ [(Dl, .lst acc)]⟩ σ2 H' → Ex (hide (Hd b ⟨gT d, Ms i ++ [(Dl, .lst acc)]⟩) H) (hide (Hd b ⟨gT d, Ms i ++ [(Dl, .lst acc)]⟩) H') → Q (c i) H') → tt σ2 H Q)
    (he : ∀ (i : Nat) d, ds[i]? = some d → c i = true → ∀ Dl acc, EVb X b scope elt ⟨gT d, Ms i ++ [(Dl, .lst acc)]⟩ (.d (y i)) ⟨gT d, Ms (i + 1) ++ [(Dl, .lst acc)]⟩) (hno : ∀ (i : Nat) d, ds[i]? = some d → c i = false → Ms (i + 1) = Ms i)
    (q : ∀ v H', VOk b.K (Hd b ⟨S1.g, Ms ds.length⟩) H' v (.d (.list (outs c y ds.length))) → Rel b ⟨S1.g, Ms ds.length⟩ σ H' → Ex (hide (Hd b S1) H1) (hide (Hd b ⟨S1.g, Ms ds.length⟩) H') → Q v H')
    (D : Addr) (hD : H1 D = none) : (∃ Pv : Nat → Hp → Prop, Pv 0 (upd H1 D (.lst [])) ∧ (∀ i H, Pv i H → Ex (hide (Hd b S1) H1) (hide (Hd b S1 ++ [D]) H)) ∧ (∀ i H H', Pv i H → Ex H H' → Pv i H') ∧ (∀ i H, Pv i H → ∀ q ∈ Hd b S1 ++ [D], H q ≠ none) ∧ (∀ (i : Nat) (d : PyData) (x : V) (H : Hp), ds[i]? = some d → Dp b.K (hide (Hd b S1 ++ [D]) H) x d → Pv i H →
      g x (wipe σ (own.map (·.2))) H fun σ2 H2 => wipe σ2 (own.map (·.2)) = wipe σ (own.map (·.2)) ∧ tt σ2 H2 fun k H3 => if k = true then wEb X scope elt σ2 H3 fun y H4 => ∃ acc, H4 D = some (.lst acc) ∧ acc.length < sizeLine ∧ Pv (i + 1) (upd H4 D (.lst (acc ++ [y]))) else Pv (i + 1) H3) ∧ (∀ H, Pv ds.length H → Q (.ref D) H)) := by
  have nD : D ∉ Hd b S1 := r1.rm.fresh hD
  have hdM : ∀ (i : Nat) (gg : List DV) (o : MO) q, q ∈ Hd b ⟨gg, Ms i ++ [(D, o)]⟩ ↔ (q ∈ Hd b S1 ∨ q = D) := fun i gg o q => by
    unfold Hd DS.as
    simp only [List.map_append, hM i, List.mem_append, List.map_cons, List.map_nil, List.mem_singleton]
    constructor
    · rintro (h | h | h)
      · exact .inl (.inl h)
      · exact .inl (.inr h)
      · exact .inr h
    · rintro ((h | h) | h)
      · exact .inl h
      · exact .inr (.inl h)
      · exact .inr (.inr h)
  have hideE : ∀ (i : Nat) (gg : List DV) (o : MO) (H : Hp), hide (Hd b ⟨gg, Ms i ++ [(D, o)]⟩) H = hide (Hd b S1 ++ [D]) H := fun i gg o H => funext fun q => by
    by_cases hq : q ∈ Hd b S1 ++ [D]
    · rw [hide_in hq, hide_in ((hdM i gg o q).mpr (by simpa using hq))]
    · rw [hide_out hq, hide_out fun h => hq (by simpa using (hdM i gg o q).mp h)]
  have rw0 : Rel b ⟨gWipe S1.g (own.map (·.2)), S1.m⟩ (wipe σ (own.map (·.2))) H1 := rel_wipe (g := S1.g) (m := S1.m) r1
  have hh0 : ∀ gg : List DV, Hd b ⟨gg, S1.m⟩ = Hd b S1 := fun _ => rfl
  refine ⟨fun i H => RelM b ⟨S1.g, Ms i ++ [(D, .lst (outs c y i))]⟩ H ∧ Ex (hide (Hd b S1) H1) (hide (Hd b ⟨S1.g, Ms i ++ [(D, .lst (outs c y i))]⟩) H), ⟨?_, ?_⟩, fun i H h => by rw [← hideE i S1.g (.lst (outs c y i)) H]; exact h.2, fun i H H' h e => ⟨(h.1.grow e).1, h.2.trans (h.1.grow e).2⟩, fun i H h q hq => h.1.tracked q ((hdM i S1.g _ q).mpr (by simpa using hq)), fun i d x H hd1 hd2 h => ?_, fun H h => ?_⟩
  · rw [h0]
    have := (r1.addM (a := D) (o := .lst []) (H' := upd H1 D (.lst [])) hD (Ex.new hD) ⟨[], upd_same, .nil⟩).1.rm
    exact this
  · rw [h0]
    exact (r1.addM (a := D) (o := .lst []) (H' := upd H1 D (.lst [])) hD (Ex.new hD) ⟨[], upd_same, .nil⟩).2
  · obtain ⟨rm, x1⟩ := h
    have hi : i < ds.length := (List.getElem?_eq_some_iff.mp hd1).1
    have rw1 : Rel b ⟨gWipe S1.g (own.map (·.2)), Ms i ++ [(D, .lst (outs c y i))]⟩ (wipe σ (own.map (·.2))) H :=
      rel_later rw0 x1 (fun q hq => (hdM _ _ _ q).mpr (.inl hq)) (relM_g rm)
    refine hg i d hd1 x _ H _ (by show Dp _ _ _ _; rw [hideE]; exact hd2) rw1 _ fun σ2 r2 e2 => ?_
    refine ⟨by rw [e2]; exact wipe_wipe σ _ _ fun _ h => h, ?_⟩
    refine lc_step (g0 := S1.g) (M := Ms i) (M' := Ms (i + 1)) (acc := outs c y i) (c := c i) (d := y i) (by rw [hM, hM]) r2 (by have := outs_le c y i; omega) (fun Q hQ => ht i d hd1 D _ σ2 H r2 Q hQ) (fun hc => he i d hd1 hc D _) (hno i d hd1) fun H' rm' x' => ?_
    have eo : outs c y (i + 1) = if c i then outs c y i ++ [y i] else outs c y i := rfl
    rw [← eo] at rm' x'
    refine ⟨rm', x1.trans ?_⟩
    exact x'
  · obtain ⟨rm, x1⟩ := h
    have r3 : Rel b ⟨S1.g, Ms ds.length ++ [(D, .lst (outs c y ds.length))]⟩ σ H := rel_later (m := S1.m) r1 x1 (fun q hq => (hdM _ _ _ q).mpr (.inl hq)) rm
    have hfx : D ∉ b.fx := fun h => nD (List.mem_append.mpr (.inr (r1.rm.fxs D h)))
    have hin : (D, MO.lst (outs c y ds.length)) ∈ (⟨S1.g, Ms ds.length ++ [(D, .lst (outs c y ds.length))]⟩ : DS).m := List.mem_append.mpr (.inr (by simp))
    obtain ⟨r4, x4⟩ := r3.frzL hin hfx
    have em : (Ms ds.length ++ [(D, MO.lst (outs c y ds.length))]).filter (fun p => decide (p.1 ≠ D)) = Ms ds.length := by
      have nd : ((Ms ds.length ++ [(D, MO.lst (outs c y ds.length))]).map (·.1)).Nodup := r3.rm.nd
      rw [List.map_append] at nd
      have hn : D ∉ (Ms ds.length).map (·.1) := fun q => (List.nodup_append.mp nd).2.2 D q D (by simp) rfl
      rw [List.filter_append]
      have e1 : (Ms ds.length).filter (fun p => decide (p.1 ≠ D)) = Ms ds.length := List.filter_eq_self.mpr fun p hp => decide_eq_true fun e => hn (List.mem_map.mpr ⟨p, hp, e⟩)
      rw [e1]
      simp
    have hd4 : ∀ gg : List DV, Hd b ⟨gg, (Ms ds.length ++ [(D, MO.lst (outs c y ds.length))]).filter (fun p => decide (p.1 ≠ D))⟩ = Hd b ⟨S1.g, Ms ds.length⟩ := fun gg => by rw [em]; rfl
    have x5 : Ex (hide (Hd b S1) H1) (hide (Hd b ⟨S1.g, Ms ds.length⟩) H) := by
      rw [← hd4 (DS.frz ⟨S1.g, Ms ds.length ++ [(D, .lst (outs c y ds.length))]⟩ D (.list (outs c y ds.length))).g]
      exact x1.trans x4
    have hd5 : Hd b ⟨S1.g, Ms ds.length⟩ = Hd b S1 := by unfold Hd DS.as; rw [hM]
    have rm5 : RelM b ⟨S1.g, Ms ds.length⟩ H := by
      have := r4.rm
      unfold DS.frz at this
      rw [em] at this
      exact relM_g this
    refine q _ H ?_ (rel_later (m := S1.m) r1 x5 (fun q hq => by rw [hd5]; exact hq) rm5) x5
    obtain ⟨us, e1, e2⟩ := r3.rm.mem _ hin
    have nD5 : D ∉ Hd b ⟨S1.g, Ms ds.length⟩ := by rw [hd5]; exact nD
    refine .lst (.inl (.inl (by rw [hide_out nD5]; exact e1))) (DpAll.ex (fun q u e => ?_) e2)
    obtain ⟨q1, q2⟩ := hide_some e
    rw [hide_out fun z => q2 ((hdM _ _ _ q).mpr (.inl (by rw [hd5] at z; exact z)))]
    exact q1
/-- a test, or none, over all the block's contexts -/
def TTok (b : Bs) (tt : TT) (S : DS) (c : Bool) : Prop := ∀ σ H, Rel b S σ H → ∀ Q : Bool → Hp → Prop, (∀ H', Rel b S σ H' → Ex (hide (Hd b S) H) (hide (Hd b S) H') → Q c H') → tt σ H Q
theorem ttok_yes : TTok b tYes S true := fun σ H r Q q => q H r (Ex.refl _)
theorem ttok_one {scope : Scope} {t : Expr} {c : Bool} (h : ETb X b scope t S c S) : TTok b (wTb X scope t) S c := fun σ H r Q q => fun s H0 C cl fp => h s H0 C cl fp σ H r Q fun H' r' x _ => q H' r' x
theorem ev_lcT {elt tg iter : Expr} {ifs : List Expr} {scope : Scope} {own : List (Str × Nat)} {g : TG} {tt : TT} {ds : List PyData} {gT : PyData → List DV} {Ms : Nat → List (Addr × MO)} {c : Nat → Bool} {y : Nat → PyData}
    (hK : X.K = b.K) (hc : X.calm = true) (hN : X.N.Nodup) (hi : EV X b iter S (.d (.tuple ds)) S1) (hz : ds.length ≤ 1000) (hB : BlkOk X.N X.env.scope scope own) (h0 : Ms 0 = S1.m) (hM : ∀ i, (Ms i).map (·.1) = S1.m.map (·.1))
    (hpg : ∀ (s : Shared) (H : Hp) (C : Addr) (cl : List (Str × Addr)) (fp : List Addr), PG (X.blk s H scope (compEnvC scope cl C X.env) fp) tg g)
    (hpt : ∀ (s : Shared) (H : Hp) (C : Addr) (cl : List (Str × Addr)) (fp : List Addr), PTs (X.blk s H scope (compEnvC scope cl C X.env) fp) ifs tt)
    (hg : ∀ (i : Nat) d, ds[i]? = some d → TGb b (own.map (·.2)) d (gWipe S1.g (own.map (·.2))) (gT d) g)
    (ht : ∀ (i : Nat) d, ds[i]? = some d → ∀ Dl acc, TTok b tt ⟨gT d, Ms i ++ [(Dl, .lst acc)]⟩ (c i))
    (he : ∀ (i : Nat) d, ds[i]? = some d → c i = true → ∀ Dl acc, EVb X b scope elt ⟨gT d, Ms i ++ [(Dl, .lst acc)]⟩ (.d (y i)) ⟨gT d, Ms (i + 1) ++ [(Dl, .lst acc)]⟩) (hno : ∀ (i : Nat) d, ds[i]? = some d → c i = false → Ms (i + 1) = Ms i)
    (hf : ∀ x : Value, foldedSetIterable iter X.env x = pure x := by intro _; rfl)
    {z : PyData} (ez : z = .list (outs c y ds.length)) (eS : S' = ⟨S1.g, Ms ds.length⟩) : EV X b (.ListComp elt [⟨tg, iter, ifs, 0⟩] scope pos) S (.d z) S' := by
  subst ez
  subst eS
  intro σ H r Q q
  refine wE_of (pe_lc hc hN (pi_tup (peW _)) hB hpg hpt (peWb scope elt) hf) (hi σ H r _ fun v H1 k1 r1 x1 a1 => ?_)
  cases k1 with
  | tup hs ha =>
    rename_i a xs
    refine ⟨a, rfl, ⟨xs, by rw [hK]; exact ex_t hide_ex hs⟩, fun D hD => ?_⟩
    obtain ⟨Pv, p0, pe, pg, pt, ps, pd⟩ := lc_core2 (own := own) (Q := Q) (X := X) (elt := elt) (scope := scope) (tt := tt) hz r1 h0 hM hg (fun i d hd Dl acc σ2 H r Q q => ht i d hd Dl acc σ2 H r Q q) he hno (fun v H' k' r' x' => q v H' k' r' (x1.trans x') fun c hc => by
      have : Hd b ⟨S1.g, Ms ds.length⟩ = Hd b S1 := by unfold Hd DS.as; rw [hM]
      rw [this]; exact a1 c hc) D hD
    exact lc_tup (K := X.K) Pv p0 (fun i H _ h => by rw [hK]; exact ex_t hide_ex (ex_t (pe i H h) hs)) (fun i x H hx h => by obtain ⟨d, h1, h2⟩ := dpAll_getV ha hx; exact ps i d x H h1 (Dp.ex (pe i H h) h2) h) (by rw [DpAll.len ha]; exact pd)
theorem ev_lcL {elt tg iter : Expr} {ifs : List Expr} {scope : Scope} {own : List (Str × Nat)} {g : TG} {tt : TT} {ds : List PyData} {gT : PyData → List DV} {Ms : Nat → List (Addr × MO)} {c : Nat → Bool} {y : Nat → PyData}
    (hK : X.K = b.K) (hc : X.calm = true) (hN : X.N.Nodup) (hi : EV X b iter S (.d (.list ds)) S1) (hz : ds.length ≤ 1000) (hB : BlkOk X.N X.env.scope scope own) (h0 : Ms 0 = S1.m) (hM : ∀ i, (Ms i).map (·.1) = S1.m.map (·.1))
    (hpg : ∀ (s : Shared) (H : Hp) (C : Addr) (cl : List (Str × Addr)) (fp : List Addr), PG (X.blk s H scope (compEnvC scope cl C X.env) fp) tg g)
    (hpt : ∀ (s : Shared) (H : Hp) (C : Addr) (cl : List (Str × Addr)) (fp : List Addr), PTs (X.blk s H scope (compEnvC scope cl C X.env) fp) ifs tt)
    (hg : ∀ (i : Nat) d, ds[i]? = some d → TGb b (own.map (·.2)) d (gWipe S1.g (own.map (·.2))) (gT d) g)
    (ht : ∀ (i : Nat) d, ds[i]? = some d → ∀ Dl acc, TTok b tt ⟨gT d, Ms i ++ [(Dl, .lst acc)]⟩ (c i))
    (he : ∀ (i : Nat) d, ds[i]? = some d → c i = true → ∀ Dl acc, EVb X b scope elt ⟨gT d, Ms i ++ [(Dl, .lst acc)]⟩ (.d (y i)) ⟨gT d, Ms (i + 1) ++ [(Dl, .lst acc)]⟩) (hno : ∀ (i : Nat) d, ds[i]? = some d → c i = false → Ms (i + 1) = Ms i)
    (hf : ∀ x : Value, foldedSetIterable iter X.env x = pure x := by intro _; rfl)
    {z : PyData} (ez : z = .list (outs c y ds.length)) (eS : S' = ⟨S1.g, Ms ds.length⟩) : EV X b (.ListComp elt [⟨tg, iter, ifs, 0⟩] scope pos) S (.d z) S' := by
  subst ez
  subst eS
  intro σ H r Q q
  refine wE_of (pe_lc hc hN (pi_list (peW _)) hB hpg hpt (peWb scope elt) hf) (hi σ H r _ fun v H1 k1 r1 x1 a1 => ?_)
  cases k1 with
  | lst hs ha =>
    rename_i a xs
    refine ⟨a, rfl, ⟨xs, by rw [hK]; exact ex_l hide_ex hs⟩, fun D hD => ?_⟩
    obtain ⟨Pv, p0, pe, pg, pt, ps, pd⟩ := lc_core2 (own := own) (Q := Q) (X := X) (elt := elt) (scope := scope) (tt := tt) hz r1 h0 hM hg (fun i d hd Dl acc σ2 H r Q q => ht i d hd Dl acc σ2 H r Q q) he hno (fun v H' k' r' x' => q v H' k' r' (x1.trans x') fun c hc => by
      have : Hd b ⟨S1.g, Ms ds.length⟩ = Hd b S1 := by unfold Hd DS.as; rw [hM]
      rw [this]; exact a1 c hc) D hD
    exact lc_list (K := X.K) Pv p0 (fun i H _ h => by rw [hK]; exact ex_l hide_ex (ex_l (pe i H h) hs)) (fun i x H hx h => by obtain ⟨d, h1, h2⟩ := dpAll_getV ha hx; exact ps i d x H h1 (Dp.ex (pe i H h) h2) h) (by rw [DpAll.len ha]; exact pd)
/-- the ints from lo on -/
def intsFrom (lo : Int) (n : Nat) : List Int := (List.range n).map fun (i : Nat) => lo + (i : Int)
theorem intsFrom_len (lo : Int) (n : Nat) : (intsFrom lo n).length = n := by unfold intsFrom; simp
theorem intsFrom_get {lo : Int} {n i : Nat} (h : i < n) : (intsFrom lo n)[i]? = some (lo + (i : Int)) := by unfold intsFrom; simp [h]
theorem ev_lcR2 {elt tg e1 e2 : Expr} {p1 p2 : Pos} {ifs : List Expr} {scope : Scope} {own : List (Str × Nat)} {g : TG} {tt : TT} {lo hi' : Int} {gT : PyData → List DV} {Ms : Nat → List (Addr × MO)} {c : Nat → Bool} {y : Nat → PyData}
    (hK : X.K = b.K) (hc : X.calm = true) (hN : X.N.Nodup) (hgr : Gl X "range") (hmr : X.mg "range" = none) (h1 : EV X b e1 S (.d (.int lo)) S2) (h2 : EV X b e2 S2 (.d (.int hi')) S1) (hb : -(2 ^ 62) ≤ lo ∧ lo < 2 ^ 62 ∧ -(2 ^ 62) ≤ hi' ∧ hi' < 2 ^ 62) (hz : (hi' - lo).toNat ≤ 1000) (hB : BlkOk X.N X.env.scope scope own) (h0 : Ms 0 = S1.m) (hM : ∀ i, (Ms i).map (·.1) = S1.m.map (·.1))
    (hpg : ∀ (s : Shared) (H : Hp) (C : Addr) (cl : List (Str × Addr)) (fp : List Addr), PG (X.blk s H scope (compEnvC scope cl C X.env) fp) tg g)
    (hpt : ∀ (s : Shared) (H : Hp) (C : Addr) (cl : List (Str × Addr)) (fp : List Addr), PTs (X.blk s H scope (compEnvC scope cl C X.env) fp) ifs tt)
    (hg : ∀ i : Nat, i < (hi' - lo).toNat → TGb b (own.map (·.2)) (.int (lo + (i : Int))) (gWipe S1.g (own.map (·.2))) (gT (.int (lo + (i : Int)))) g)
    (ht : ∀ i : Nat, i < (hi' - lo).toNat → ∀ Dl acc, TTok b tt ⟨gT (.int (lo + (i : Int))), Ms i ++ [(Dl, .lst acc)]⟩ (c i))
    (he : ∀ i : Nat, i < (hi' - lo).toNat → c i = true → ∀ Dl acc, EVb X b scope elt ⟨gT (.int (lo + (i : Int))), Ms i ++ [(Dl, .lst acc)]⟩ (.d (y i)) ⟨gT (.int (lo + (i : Int))), Ms (i + 1) ++ [(Dl, .lst acc)]⟩) (hno : ∀ i : Nat, i < (hi' - lo).toNat → c i = false → Ms (i + 1) = Ms i)
    (hs1 : starEach [e1, e2] X.env = [(false, eval e1 X.env), (false, eval e2 X.env)] := by rfl) (hs2 : starEach [e2] X.env = [(false, eval e2 X.env)] := by rfl)
    (hf : ∀ x : Value, foldedSetIterable (.Call (.Name "range" p1) [e1, e2] [] p2) X.env x = pure x := by intro _; rfl)
    {z : PyData} (ez : z = .list (outs c y (hi' - lo).toNat)) (eS : S' = ⟨S1.g, Ms (hi' - lo).toNat⟩) : EV X b (.ListComp elt [⟨tg, .Call (.Name "range" p1) [e1, e2] [] p2, ifs, 0⟩] scope pos) S (.d z) S' := by
  subst ez
  subst eS
  intro σ H r Q q
  refine wE_of (pe_lc hc hN (pi_range2 hgr hmr (pa_cons (peW e1) (pa_cons (peW e2) pa_nil hs2) (by rw [hs1, hs2])) hs1 hs2) hB hpg hpt (peWb scope elt) hf) (h1 σ H r _ fun v H0 k0 r0 x0 a0 => ?_)
  refine h2 σ H0 r0 _ fun v' H1 k1 r1 x1 a1 => ?_
  have k0' := k0.ex x1 a1
  cases k0'
  cases k1
  refine ⟨lo, hi', rfl, hb, fun D hD => ?_⟩
  have hlen : ((intsFrom lo (hi' - lo).toNat).map PyData.int).length = (hi' - lo).toNat := by rw [List.length_map, intsFrom_len]
  have get : ∀ {i : Nat} {d : PyData}, ((intsFrom lo (hi' - lo).toNat).map PyData.int)[i]? = some d → i < (hi' - lo).toNat ∧ d = .int (lo + (i : Int)) := fun {i d} e => by
    have hi : i < (hi' - lo).toNat := by
      have := (List.getElem?_eq_some_iff.mp e).1
      rwa [hlen] at this
    rw [List.getElem?_map, intsFrom_get hi] at e
    exact ⟨hi, (Option.some.inj e).symm⟩
  obtain ⟨Pv, p0, pe, pg, pt, ps, pd⟩ := lc_core2 (own := own) (Q := Q) (X := X) (elt := elt) (scope := scope) (tt := tt) (c := c) (y := y) (ds := (intsFrom lo (hi' - lo).toNat).map PyData.int) (by rw [hlen]; exact hz) r1 h0 hM
    (fun i d e => by obtain ⟨h, rfl⟩ := get e; exact hg i h) (fun i d e Dl acc σ2 H r Q q => by obtain ⟨h, rfl⟩ := get e; exact ht i h Dl acc σ2 H r Q q) (fun i d e => by obtain ⟨h, rfl⟩ := get e; exact he i h) (fun i d e => by obtain ⟨h, rfl⟩ := get e; exact hno i h)
    (fun v H' k' r' x' => by
      rw [hlen] at k' r' x'
      exact q v H' k' r' ((x0.trans x1).trans x') fun c hc => by
        have : Hd b ⟨S1.g, Ms (hi' - lo).toNat⟩ = Hd b S1 := by unfold Hd DS.as; rw [hM]
        rw [this]; exact a1 c (a0 c hc)) D hD
  refine lc_range (lo := lo) (n := (hi' - lo).toNat) Pv p0 (fun i H hi h => ps i (.int (lo + (i : Int))) _ H ?_ (.int _) h) (fun H h => pd H ?_)
  · rw [List.getElem?_map, intsFrom_get hi]
    rfl
  · rw [List.length_map, intsFrom_len]
    exact h
/-- over zip(xs, ys) of two lists -/
theorem ev_lcZ {elt e1 e2 : Expr} {elts : List Expr} {kk : Nat} {tpos p1 p2 : Pos} {ifs : List Expr} {scope : Scope} {own : List (Str × Nat)} {g : TG} {tt : TT} {ds es : List PyData} {gT : PyData → List DV} {Ms : Nat → List (Addr × MO)} {c : Nat → Bool} {y : Nat → PyData}
    (hK : X.K = b.K) (hc : X.calm = true) (hN : X.N.Nodup) (hgr : Gl X "zip") (hmr : X.mg "zip" = none) (h1 : EV X b e1 S (.d (.list ds)) S2) (h2 : EV X b e2 S2 (.d (.list es)) S1) (hz : (ds.zip es).length ≤ 1000) (hB : BlkOk X.N X.env.scope scope own) (h0 : Ms 0 = S1.m) (hM : ∀ i, (Ms i).map (·.1) = S1.m.map (·.1))
    (hpg : ∀ (s : Shared) (H : Hp) (C : Addr) (cl : List (Str × Addr)) (fp : List Addr), PG (X.blk s H scope (compEnvC scope cl C X.env) fp) (.Tuple elts kk tpos) g)
    (hpt : ∀ (s : Shared) (H : Hp) (C : Addr) (cl : List (Str × Addr)) (fp : List Addr), PTs (X.blk s H scope (compEnvC scope cl C X.env) fp) ifs tt)
    (hg : ∀ (i : Nat) d e, (ds.zip es)[i]? = some (d, e) → TGb b (own.map (·.2)) (.tuple [d, e]) (gWipe S1.g (own.map (·.2))) (gT (.tuple [d, e])) g)
    (ht : ∀ (i : Nat) d e, (ds.zip es)[i]? = some (d, e) → ∀ Dl acc, TTok b tt ⟨gT (.tuple [d, e]), Ms i ++ [(Dl, .lst acc)]⟩ (c i))
    (he : ∀ (i : Nat) d e, (ds.zip es)[i]? = some (d, e) → c i = true → ∀ Dl acc, EVb X b scope elt ⟨gT (.tuple [d, e]), Ms i ++ [(Dl, .lst acc)]⟩ (.d (y i)) ⟨gT (.tuple [d, e]), Ms (i + 1) ++ [(Dl, .lst acc)]⟩) (hno : ∀ (i : Nat) d e, (ds.zip es)[i]? = some (d, e) → c i = false → Ms (i + 1) = Ms i)
    (hs1 : starEach [e1, e2] X.env = (false, eval e1 X.env) :: starEach [e2] X.env := by rfl) (hs2 : starEach [e2] X.env = (false, eval e2 X.env) :: starEach [] X.env := by rfl) (hpl : (backTo p2 (starEach [e2] X.env)).any (·.1) = false := by rfl)
    (hf : ∀ x : Value, foldedSetIterable (.Call (.Name "zip" p1) [e1, e2] [] p2) X.env x = pure x := by intro _; rfl)
    {z : PyData} (ez : z = .list (outs c y (ds.zip es).length)) (eS : S' = ⟨S1.g, Ms (ds.zip es).length⟩) : EV X b (.ListComp elt [⟨.Tuple elts kk tpos, .Call (.Name "zip" p1) [e1, e2] [] p2, ifs, 0⟩] scope pos) S (.d z) S' := by
  subst ez
  subst eS
  intro σ H r Q q
  refine wE_of (pe_lc hc hN (pi_zip hgr hmr (pa_cons (peW e1) (pa_cons (peW e2) pa_nil hs2) hs1) hs1 hpl) hB hpg hpt (peWb scope elt) hf) (h1 σ H r _ fun v H0 k0 r0 x0 a0 => ?_)
  refine h2 σ H0 r0 _ fun v' H1 k1 r1 x1 a1 => ?_
  have k0' := k0.ex x1 a1
  cases k0' with
  | lst hs1' ha1 =>
    rename_i pa xs
    cases k1 with
    | lst hs2' ha2 =>
      rename_i pb ys
      refine ⟨pa, pb, xs, ys, rfl, by rw [hK]; exact ex_l hide_ex hs1', by rw [hK]; exact ex_l hide_ex hs2', fun D hD => ?_⟩
      have hlen : ((ds.zip es).map fun p => PyData.tuple [p.1, p.2]).length = (ds.zip es).length := List.length_map _
      have get : ∀ {i : Nat} {t : PyData}, ((ds.zip es).map fun p => PyData.tuple [p.1, p.2])[i]? = some t → ∃ d e, (ds.zip es)[i]? = some (d, e) ∧ t = .tuple [d, e] := fun {i t} e => by
        rw [List.getElem?_map] at e
        cases hq : (ds.zip es)[i]? with
        | none => rw [hq] at e; cases e
        | some p => rw [hq] at e; exact ⟨p.1, p.2, rfl, (Option.some.inj e).symm⟩
      obtain ⟨Pv, p0, pe, pg, pt, ps, pd⟩ := lc_core2 (own := own) (Q := Q) (X := X) (elt := elt) (scope := scope) (tt := tt) (c := c) (y := y) (ds := (ds.zip es).map fun p => PyData.tuple [p.1, p.2]) (by rw [hlen]; exact hz) r1 h0 hM
        (fun i d e => by obtain ⟨u, w, h, rfl⟩ := get e; exact hg i u w h) (fun i d e Dl acc σ2 H r Q q => by obtain ⟨u, w, h, rfl⟩ := get e; exact ht i u w h Dl acc σ2 H r Q q) (fun i d e => by obtain ⟨u, w, h, rfl⟩ := get e; exact he i u w h) (fun i d e => by obtain ⟨u, w, h, rfl⟩ := get e; exact hno i u w h)
        (fun v H' k' r' x' => by
          rw [hlen] at k' r' x'
          exact q v H' k' r' ((x0.trans x1).trans x') fun c hc => by
            have : Hd b ⟨S1.g, Ms (ds.zip es).length⟩ = Hd b S1 := by unfold Hd DS.as; rw [hM]
            rw [this]; exact a1 c (a0 c hc)) D hD
      rw [hlen] at pd
      refine ⟨fun i m H => i + m = (ds.zip es).length ∧ Pv i H, ⟨(ds.zip es).length, by omega, p0⟩, fun i m H ⟨em, hp⟩ => ?_⟩
      have q1 : SqL X.K H pa xs := by rw [hK]; exact ex_l hide_ex (ex_l (pe i H hp) hs1')
      have q2 : SqL X.K H pb ys := by rw [hK]; exact ex_l hide_ex (ex_l (pe i H hp) hs2')
      have l1 := DpAll.len ha1
      have l2 := DpAll.len ha2
      have lz : (ds.zip es).length = min ds.length es.length := List.length_zip
      by_cases hi : i < (ds.zip es).length
      · have i1 : i < xs.length := by omega
        have i2 : i < ys.length := by omega
        have g1 : xs[i]? = some xs[i] := List.getElem?_eq_getElem i1
        have g2 : ys[i]? = some ys[i] := List.getElem?_eq_getElem i2
        obtain ⟨d, d1, d2⟩ := dpAll_getV ha1 g1
        obtain ⟨e, e1', e2'⟩ := dpAll_getV ha2 g2
        refine .inr ⟨⟨xs, ys, _, _, q1, q2, g1, g2⟩, fun H' => Pv (i + 1) H', fun H' h' => ⟨m - 1, by omega, by omega, h'⟩, fun x H' hy => ?_⟩
        obtain ⟨T, x1', x2', rfl, nT, rfl, f1, f2⟩ := hy
        have ex1 : x1' = xs[i] := Option.some.inj ((f1 _ q1).symm.trans g1)
        have ex2 : x2' = ys[i] := Option.some.inj ((f2 _ q2).symm.trans g2)
        subst ex1 ex2
        have gr : Ex H (upd H T (.tup [xs[i], ys[i]])) := Ex.new nT
        have hp' := pg i H _ hp gr
        have tz : (ds.zip es)[i]? = some (d, e) := by
          rw [List.getElem?_zip_eq_some]
          exact ⟨d1, e1'⟩
        have xh : Ex (hide (Hd b S1 ++ [D]) H) (hide (Hd b S1 ++ [D]) (upd H T (.tup [xs[i], ys[i]]))) := fun q u hq => by
          obtain ⟨z1, z2⟩ := hide_some hq
          rw [hide_out z2]
          exact gr q u z1
        have nTh : T ∉ Hd b S1 ++ [D] := fun hq => pt i H hp T hq nT
        refine ps i (.tuple [d, e]) (.ref T) _ (by rw [List.getElem?_map, tz]; rfl) (.tup (.inl (.inl (hide_new nTh))) (.cons (Dp.ex ((pe i H hp).trans xh) d2) (.cons (Dp.ex ((pe i H hp).trans xh) e2') .nil))) hp'
      · have : i = (ds.zip es).length := by omega
        subst this
        refine .inl ⟨⟨xs, ys, q1, q2, by omega⟩, pd H hp⟩
end
end DX
end
section
set_option Elab.async false
set_option linter.all false
set_option maxRecDepth 100000
set_option maxHeartbeats 4000000
namespace DX
open PySem PySem.Spec PyProof.Rows L2
set_option autoImplicit false
/-- a def of the module: where it stands -/
structure Def1 (K : PySem.W.Frag) (mg : Str → Option Value) (x : Str) (st : Stmt) (ps : List Str) where
  fa : Addr
  fd : FuncData
  F : Fun K x x st fa fd
  m : mg x = some (.ref fa)
  b : L2.Binds K fd ps []
theorem li {n m : Nat} (h : decide (n < m) = true := by rfl) : n < m := of_decide_eq_true h
theorem lq {n m : Nat} (h : decide (n ≤ m) = true := by rfl) : n ≤ m := of_decide_eq_true h
section
variable {X : Cx} {b : Bs} {S S1 S2 S3 S' : DS} {x y z : DV} {pos : Pos} {D : DE} {rest : List Stmt}
theorem vn (i : Nat) {nm : Str} {x : DV} (hN : X.N[i]? = some nm := by rfl) (hv : Vis X.env.scope nm := by first | exact Or.inl rfl | exact Or.inr (Or.inl rfl) | exact Or.inr (Or.inr rfl)) (h : S.g[i]? = some x := by rfl) (hx : x ≠ .no := by exact fun h => nomatch h) (hd : (nm == ("__debug__" : Str)) = false := by decide) (hcd : (nm == ("__classdict__" : Str)) = false := by decide) : EV X b (.Name nm pos) S x S := ev_name hN hv h hx hd hcd
/-- the end of a def of data -/
theorem sy_retF {e : Expr} {d0 : PyData} {N B C : DS → Prop} (h : EV X b e S (.d d0) S1) : SY X b (.Return (some e) pos) S ⟨N, fun x S' => x = .d d0, B, C⟩ := sy_ret h rfl
/-- .. that may raise -/
theorem sy_retX {e : Expr} {d0 : PyData} {N B C : DS → Prop} (h : EV X b e S (.d d0) S1) : SY X b (.Return (some e) pos) S ⟨N, fun x S' => ∃ d, Res.val d0 = .val d ∧ x = .d d, B, C⟩ := sy_ret h ⟨d0, rfl, rfl⟩
/-- .. that changes a list -/
theorem sy_retM {e : Expr} {d0 : PyData} {p0 : Addr × MO} {N B C : DS → Prop} (h : EV X b e S (.d d0) S1) (hm : p0 ∈ S1.m) : SY X b (.Return (some e) pos) S ⟨N, fun x S' => x = .d d0 ∧ p0 ∈ S'.m, B, C⟩ := sy_ret h ⟨rfl, hm⟩
/-- a comprehension over a list, the rest left as it is -/
theorem ev_lcL0p {elt tg iter : Expr} {scope : Scope} (own : List (Str × Nat)) {g : TG} {ds : List PyData} (gT : PyData → List DV) (q : PyData → PyData)
    (hK : X.K = b.K) (hc : X.calm = true) (hN : X.N.Nodup) (hi : EV X b iter S (.d (.list ds)) S1) (hz : ds.length ≤ 1000) (hB : BlkOk X.N X.env.scope scope own)
    (hpg : ∀ (s : Shared) (H : Hp) (C : Addr) (cl : List (Str × Addr)) (fp : List Addr), PG (X.blk s H scope (compEnvC scope cl C X.env) fp) tg g)
    (hg : ∀ (i : Nat) d, ds[i]? = some d → TGb b (own.map (·.2)) d (gWipe S1.g (own.map (·.2))) (gT d) g)
    (he : ∀ (i : Nat) d, ds[i]? = some d → ∀ Dl acc, EVb X b scope elt ⟨gT d, S1.m ++ [(Dl, .lst acc)]⟩ (.d (q d)) ⟨gT d, S1.m ++ [(Dl, .lst acc)]⟩)
    {z : PyData} (ez : z = .list (ds.map q))
    (hf : ∀ x : Value, foldedSetIterable iter X.env x = pure x := by intro _; rfl) : EV X b (.ListComp elt [⟨tg, iter, [], 0⟩] scope pos) S (.d z) S1 := by
  refine ev_lcL (tt := tYes) (own := own) (gT := gT) (Ms := fun _ => S1.m) (c := fun _ => true) (y := fun i => match ds[i]? with | some d => q d | none => .none) hK hc hN hi hz hB rfl (fun _ => rfl) hpg (fun _ _ _ _ _ => pts_nil) hg (fun i d hd Dl acc => ttok_yes) (fun i d hd _ Dl acc => by rw [show (match ds[i]? with | some d => q d | none => .none) = q d by rw [hd]]; exact he i d hd Dl acc) (fun _ _ _ _ => rfl) hf (by rw [ez]; have := outs_picked (ds := ds) (f := fun _ => true) (g := q) (c := fun _ => true) (y := fun i => match ds[i]? with | some d => q d | none => .none) (fun i d hd => ⟨rfl, by simp only [hd]⟩); rw [this, List.filter_eq_self.mpr (fun _ _ => rfl)]) rfl
/-- a comprehension over a list, the rest left as it is -/
theorem ev_lcL1p {elt tg iter t : Expr} {scope : Scope} (own : List (Str × Nat)) {g : TG} {ds : List PyData} (gT : PyData → List DV) {f : PyData → Bool} (q : PyData → PyData)
    (hK : X.K = b.K) (hc : X.calm = true) (hN : X.N.Nodup) (hi : EV X b iter S (.d (.list ds)) S1) (hz : ds.length ≤ 1000) (hB : BlkOk X.N X.env.scope scope own)
    (hpg : ∀ (s : Shared) (H : Hp) (C : Addr) (cl : List (Str × Addr)) (fp : List Addr), PG (X.blk s H scope (compEnvC scope cl C X.env) fp) tg g)
    (hg : ∀ (i : Nat) d, ds[i]? = some d → TGb b (own.map (·.2)) d (gWipe S1.g (own.map (·.2))) (gT d) g)
    (ht : ∀ (i : Nat) d, ds[i]? = some d → ∀ Dl acc, ETb X b scope t ⟨gT d, S1.m ++ [(Dl, .lst acc)]⟩ (f d) ⟨gT d, S1.m ++ [(Dl, .lst acc)]⟩)
    (he : ∀ (i : Nat) d, ds[i]? = some d → f d = true → ∀ Dl acc, EVb X b scope elt ⟨gT d, S1.m ++ [(Dl, .lst acc)]⟩ (.d (q d)) ⟨gT d, S1.m ++ [(Dl, .lst acc)]⟩)
    {z : PyData} (ez : z = .list ((ds.filter f).map q))
    (hf : ∀ x : Value, foldedSetIterable iter X.env x = pure x := by intro _; rfl) : EV X b (.ListComp elt [⟨tg, iter, [t], 0⟩] scope pos) S (.d z) S1 := by
  refine ev_lcL (tt := wTb X scope t) (own := own) (gT := gT) (Ms := fun _ => S1.m) (c := fun i => match ds[i]? with | some d => f d | none => false) (y := fun i => match ds[i]? with | some d => q d | none => .none) hK hc hN hi hz hB rfl (fun _ => rfl) hpg (fun s H C cl fp => pts_one (ptWb _ _ s H C cl fp)) hg (fun i d hd Dl acc => by rw [show (match ds[i]? with | some d => f d | none => false) = f d by rw [hd]]; exact ttok_one (ht i d hd Dl acc)) (fun i d hd hc Dl acc => by rw [show (match ds[i]? with | some d => q d | none => .none) = q d by rw [hd]]; exact he i d hd (by rw [show (match ds[i]? with | some d => f d | none => false) = f d by rw [hd]] at hc; exact hc) Dl acc) (fun _ _ _ _ => rfl) hf (by rw [ez, outs_picked (f := f) (g := q)]; intro i d hd; constructor <;> simp only [hd]) rfl
/-- a comprehension over a list by places, the rest left as it is -/
theorem ev_lcL1i {elt tg iter t : Expr} {scope : Scope} (own : List (Str × Nat)) {g : TG} {ds : List PyData} (gT : PyData → List DV) (c : Nat → Bool) (y : Nat → PyData)
    (hK : X.K = b.K) (hc : X.calm = true) (hN : X.N.Nodup) (hi : EV X b iter S (.d (.list ds)) S1) (hz : ds.length ≤ 1000) (hB : BlkOk X.N X.env.scope scope own)
    (hpg : ∀ (s : Shared) (H : Hp) (C : Addr) (cl : List (Str × Addr)) (fp : List Addr), PG (X.blk s H scope (compEnvC scope cl C X.env) fp) tg g)
    (hg : ∀ (i : Nat) d, ds[i]? = some d → TGb b (own.map (·.2)) d (gWipe S1.g (own.map (·.2))) (gT d) g)
    (ht : ∀ (i : Nat) d, ds[i]? = some d → ∀ Dl acc, ETb X b scope t ⟨gT d, S1.m ++ [(Dl, .lst acc)]⟩ (c i) ⟨gT d, S1.m ++ [(Dl, .lst acc)]⟩)
    (he : ∀ (i : Nat) d, ds[i]? = some d → c i = true → ∀ Dl acc, EVb X b scope elt ⟨gT d, S1.m ++ [(Dl, .lst acc)]⟩ (.d (y i)) ⟨gT d, S1.m ++ [(Dl, .lst acc)]⟩)
    {z : PyData} (ez : z = .list (outs c y ds.length))
    (hf : ∀ x : Value, foldedSetIterable iter X.env x = pure x := by intro _; rfl) : EV X b (.ListComp elt [⟨tg, iter, [t], 0⟩] scope pos) S (.d z) S1 := by
  refine ev_lcL (tt := wTb X scope t) (own := own) (gT := gT) (Ms := fun _ => S1.m) (c := c) (y := y) hK hc hN hi hz hB rfl (fun _ => rfl) hpg (fun s H C cl fp => pts_one (ptWb _ _ s H C cl fp)) hg (fun i d hd Dl acc => ttok_one (ht i d hd Dl acc)) he (fun _ _ _ _ => rfl) hf ez rfl
/-- a comprehension over a tuple by places, the rest left as it is -/
theorem ev_lcT1i {elt tg iter t : Expr} {scope : Scope} (own : List (Str × Nat)) {g : TG} {ds : List PyData} (gT : PyData → List DV) (c : Nat → Bool) (y : Nat → PyData)
    (hK : X.K = b.K) (hc : X.calm = true) (hN : X.N.Nodup) (hi : EV X b iter S (.d (.tuple ds)) S1) (hz : ds.length ≤ 1000) (hB : BlkOk X.N X.env.scope scope own)
    (hpg : ∀ (s : Shared) (H : Hp) (C : Addr) (cl : List (Str × Addr)) (fp : List Addr), PG (X.blk s H scope (compEnvC scope cl C X.env) fp) tg g)
    (hg : ∀ (i : Nat) d, ds[i]? = some d → TGb b (own.map (·.2)) d (gWipe S1.g (own.map (·.2))) (gT d) g)
    (ht : ∀ (i : Nat) d, ds[i]? = some d → ∀ Dl acc, ETb X b scope t ⟨gT d, S1.m ++ [(Dl, .lst acc)]⟩ (c i) ⟨gT d, S1.m ++ [(Dl, .lst acc)]⟩)
    (he : ∀ (i : Nat) d, ds[i]? = some d → c i = true → ∀ Dl acc, EVb X b scope elt ⟨gT d, S1.m ++ [(Dl, .lst acc)]⟩ (.d (y i)) ⟨gT d, S1.m ++ [(Dl, .lst acc)]⟩)
    {z : PyData} (ez : z = .list (outs c y ds.length))
    (hf : ∀ x : Value, foldedSetIterable iter X.env x = pure x := by intro _; rfl) : EV X b (.ListComp elt [⟨tg, iter, [t], 0⟩] scope pos) S (.d z) S1 := by
  refine ev_lcT (tt := wTb X scope t) (own := own) (gT := gT) (Ms := fun _ => S1.m) (c := c) (y := y) hK hc hN hi hz hB rfl (fun _ => rfl) hpg (fun s H C cl fp => pts_one (ptWb _ _ s H C cl fp)) hg (fun i d hd Dl acc => ttok_one (ht i d hd Dl acc)) he (fun _ _ _ _ => rfl) hf ez rfl
/-- a comprehension over a tuple, the rest left as it is -/
theorem ev_lcT0p {elt tg iter : Expr} {scope : Scope} (own : List (Str × Nat)) {g : TG} {ds : List PyData} (gT : PyData → List DV) (q : PyData → PyData)
    (hK : X.K = b.K) (hc : X.calm = true) (hN : X.N.Nodup) (hi : EV X b iter S (.d (.tuple ds)) S1) (hz : ds.length ≤ 1000) (hB : BlkOk X.N X.env.scope scope own)
    (hpg : ∀ (s : Shared) (H : Hp) (C : Addr) (cl : List (Str × Addr)) (fp : List Addr), PG (X.blk s H scope (compEnvC scope cl C X.env) fp) tg g)
    (hg : ∀ (i : Nat) d, ds[i]? = some d → TGb b (own.map (·.2)) d (gWipe S1.g (own.map (·.2))) (gT d) g)
    (he : ∀ (i : Nat) d, ds[i]? = some d → ∀ Dl acc, EVb X b scope elt ⟨gT d, S1.m ++ [(Dl, .lst acc)]⟩ (.d (q d)) ⟨gT d, S1.m ++ [(Dl, .lst acc)]⟩)
    {z : PyData} (ez : z = .list (ds.map q))
    (hf : ∀ x : Value, foldedSetIterable iter X.env x = pure x := by intro _; rfl) : EV X b (.ListComp elt [⟨tg, iter, [], 0⟩] scope pos) S (.d z) S1 := by
  refine ev_lcT (tt := tYes) (own := own) (gT := gT) (Ms := fun _ => S1.m) (c := fun _ => true) (y := fun i => match ds[i]? with | some d => q d | none => .none) hK hc hN hi hz hB rfl (fun _ => rfl) hpg (fun _ _ _ _ _ => pts_nil) hg (fun i d hd Dl acc => ttok_yes) (fun i d hd _ Dl acc => by rw [show (match ds[i]? with | some d => q d | none => .none) = q d by rw [hd]]; exact he i d hd Dl acc) (fun _ _ _ _ => rfl) hf (by rw [ez]; have := outs_picked (ds := ds) (f := fun _ => true) (g := q) (c := fun _ => true) (y := fun i => match ds[i]? with | some d => q d | none => .none) (fun i d hd => ⟨rfl, by simp only [hd]⟩); rw [this, List.filter_eq_self.mpr (fun _ _ => rfl)]) rfl
/-- a comprehension over a tuple, the rest left as it is -/
theorem ev_lcT1p {elt tg iter t : Expr} {scope : Scope} (own : List (Str × Nat)) {g : TG} {ds : List PyData} (gT : PyData → List DV) {f : PyData → Bool} (q : PyData → PyData)
    (hK : X.K = b.K) (hc : X.calm = true) (hN : X.N.Nodup) (hi : EV X b iter S (.d (.tuple ds)) S1) (hz : ds.length ≤ 1000) (hB : BlkOk X.N X.env.scope scope own)
    (hpg : ∀ (s : Shared) (H : Hp) (C : Addr) (cl : List (Str × Addr)) (fp : List Addr), PG (X.blk s H scope (compEnvC scope cl C X.env) fp) tg g)
    (hg : ∀ (i : Nat) d, ds[i]? = some d → TGb b (own.map (·.2)) d (gWipe S1.g (own.map (·.2))) (gT d) g)
    (ht : ∀ (i : Nat) d, ds[i]? = some d → ∀ Dl acc, ETb X b scope t ⟨gT d, S1.m ++ [(Dl, .lst acc)]⟩ (f d) ⟨gT d, S1.m ++ [(Dl, .lst acc)]⟩)
    (he : ∀ (i : Nat) d, ds[i]? = some d → f d = true → ∀ Dl acc, EVb X b scope elt ⟨gT d, S1.m ++ [(Dl, .lst acc)]⟩ (.d (q d)) ⟨gT d, S1.m ++ [(Dl, .lst acc)]⟩)
    {z : PyData} (ez : z = .list ((ds.filter f).map q))
    (hf : ∀ x : Value, foldedSetIterable iter X.env x = pure x := by intro _; rfl) : EV X b (.ListComp elt [⟨tg, iter, [t], 0⟩] scope pos) S (.d z) S1 := by
  refine ev_lcT (tt := wTb X scope t) (own := own) (gT := gT) (Ms := fun _ => S1.m) (c := fun i => match ds[i]? with | some d => f d | none => false) (y := fun i => match ds[i]? with | some d => q d | none => .none) hK hc hN hi hz hB rfl (fun _ => rfl) hpg (fun s H C cl fp => pts_one (ptWb _ _ s H C cl fp)) hg (fun i d hd Dl acc => by rw [show (match ds[i]? with | some d => f d | none => false) = f d by rw [hd]]; exact ttok_one (ht i d hd Dl acc)) (fun i d hd hc Dl acc => by rw [show (match ds[i]? with | some d => q d | none => .none) = q d by rw [hd]]; exact he i d hd (by rw [show (match ds[i]? with | some d => f d | none => false) = f d by rw [hd]] at hc; exact hc) Dl acc) (fun _ _ _ _ => rfl) hf (by rw [ez, outs_picked (f := f) (g := q)]; intro i d hd; constructor <;> simp only [hd]) rfl
end
end DX
end
section
set_option Elab.async false
set_option linter.all false
set_option maxRecDepth 100000
set_option maxHeartbeats 4000000
namespace DX
open PySem PySem.Spec PyProof.Rows L2
set_option autoImplicit false
/-! isinstance of data and a built-in class -/
def isInst : PyData → String → Bool
  | .none, _ => false
  | .bool _, T => T == "bool" || T == "int"
  | .int _, T => T == "int"
  | .str _, T => T == "str"
  | .list _, T => T == "list"
  | .tuple _, T => T == "tuple"
  | .dict _, _ => false
def isCls (T : String) : Prop := T = "int" ∨ T = "bool" ∨ T = "str" ∨ T = "tuple" ∨ T = "list"
theorem kit_tab : ∀ T, isCls T → kitB "NoneType" T = some false ∧ kitB "bool" T = some (T == "bool" || T == "int") ∧ kitB "int" T = some (T == "int") ∧ kitB "str" T = some (T == "str") ∧ kitB "list" T = some (T == "list") ∧ kitB "tuple" T = some (T == "tuple") := by
  rintro T (h | h | h | h | h) <;> subst h <;> decide +kernel
theorem dp_type {K : PySem.W.Frag} {H H' : Hp} (ex : Ex H H') {v : V} {d : PyData} (h : Dp K H v d) {T : String} (hT : isCls T) : ∃ t, TyX K H' v t ∧ PySem.W.kitOne K t (.type T) = some (isInst d T) := by
  obtain ⟨k1, k2, k3, k4, k5, k6⟩ := kit_tab T hT
  cases h with
  | non => exact ⟨_, .base .non, kit_ty k1⟩
  | bl c => exact ⟨_, .base (.bl c), kit_ty k2⟩
  | int i => exact ⟨_, .base (.int i), kit_ty k3⟩
  | str x => exact ⟨_, .base (.str x), kit_ty k4⟩
  | lst hs _ =>
    refine ⟨.type "list", ?_, kit_ty k5⟩
    rcases hs with (h | ⟨o, h⟩) | ⟨o, its, n, h1, h2, _⟩
    · exact .base (.lst (ex _ _ h))
    · exact .base (.frz (ex _ _ h))
    · exact .kList h1 h2
  | tup hs _ =>
    refine ⟨.type "tuple", ?_, kit_ty k6⟩
    rcases hs with (h | ⟨o, h⟩) | ⟨o, its, n, h1, h2, _⟩
    · exact .base (.tup (ex _ _ h))
    · exact .fTuple (ex _ _ h)
    · exact .kTuple h1 h2
section
variable {X : Cx} {b : Bs} {S S1 S2 S3 S' : DS} {x y z : DV} {pos : Pos} {D : DE} {rest : List Stmt}
theorem ev_isi {p p2 : Pos} {e : Expr} {nm : Str} {T : String} {d : PyData} (hK : X.K = b.K) (hg : Gl X "isinstance") (hm : X.mg "isinstance" = none) (hg2 : Gl X nm) (hm2 : X.mg nm = none) (hv : bootBuiltins nm = some (.type T)) (hT : isCls T) (h : EV X b e S (.d d) S1) (hn2 : nm ≠ "__name__" := by decide) (hd2 : (nm == ("__debug__" : Str)) = false := by decide)
    (he : starEach [e, .Name nm p2] X.env = (false, eval e X.env) :: starEach [.Name nm p2] X.env := by rfl) (he2 : starEach [.Name nm p2] X.env = (false, eval (.Name nm p2) X.env) :: starEach [] X.env := by rfl) (hpl : (backTo pos (starEach [.Name nm p2] X.env)).any (·.1) = false := by rfl) : EV X b (.Call (.Name "isinstance" p) [e, .Name nm p2] [] pos) S (.d (.bool (isInst d T))) S1 := by
  intro σ H r Q q
  refine wE_of (pe_callB call_isi hg hm (by decide +kernel) (pa_cons (peW e) (pa_cons (pe_bltn (v := .ty T) hg2 hm2 hv rfl hn2 hd2) pa_nil he2) he) (by decide) (by decide) he hpl) ?_
  show wE X e σ H _
  refine h σ H r _ fun v H1 k1 r1 x1 a1 => ?_
  obtain ⟨t, t1, t2⟩ := dp_type hide_ex k1 hT
  exact ⟨v, .ty T, t, .type T, isInst d T, rfl, .ty T, by rw [hK]; exact t1, by rw [hK]; exact t2, q _ H1 (.bl _) r1 x1 a1⟩
end
end DX
end
section
set_option Elab.async false
set_option linter.all false
set_option maxRecDepth 100000
set_option maxHeartbeats 4000000
namespace DX
open PySem PySem.Spec PyProof.Rows L2
set_option autoImplicit false
/-! math.isqrt of great numbers: the division by _pylong has its room -/
section
variable {prog : Program} {w : World} {A : Around} {E : Value → Shared → Prop} {s : Shared}
theorem room_inverse {Q : Unit → Shared → Prop} {n u : Nat} (hs : SeerAt (model prog w) A s.heap) (hl : s.heap.NoLimit) (hd : A.depth + Builtin.pylongFrames < recursionLimit) (h : Q () s) : wpAny (model prog w) { A with units := u } (Builtin.roomForPylongsInverse n) Q E s := by
  unfold Builtin.roomForPylongsInverse
  by_cases hb : n.log2 / 30 + 1 > 450
  · rw [if_pos hb]
    refine wpAny_bind (hs u s E _ rfl ?_)
    exact wpAny_pylongFrames (A := { A with units := u }) hl hd h
  · rw [if_neg hb]
    exact wpAny_pure h
theorem isqrt_great {n : Nat} {t : Tok} {Q : Value → Shared → Prop} (hz : n.log2 ≤ 200000) (hs : SeerAt (model prog w) A s.heap) (hl : s.heap.NoLimit) (hd : A.depth + Builtin.pylongFrames < recursionLimit) (h : Q (.int ((Float64.isqrt n : Nat) : Int) s.toks) { s with toks := s.toks + 1 }) :
    wpAny (model prog w) A (call (.builtin "math.isqrt") [.int (n : Int) t]) Q E s := by
  refine wpAny_call (codeAny_call_builtin PySem.W.MGF.plain_isqrt PySem.W.MGF.entry_isqrt ?_)
  have hfin : wpAny (model prog w) A.in1 (Builtin.«math.isqrt» ⟨[.int (n : Int) t], []⟩) (fun fin s' => match fin with | .done f => wants Q E (.ok f) s' | .again c' => c'.quiet = true ∧ codeAny (model prog w) A c' (wants Q E) s') (fun e s' => wants Q E (.error e) s') s := by
    obtain ⟨hp, g, d, tk, os⟩ := s
    have hc0 : ¬ (n : Int) < 0 := by omega
    have hc1 : ¬ (n : Int).toNat.log2 > 200000 := by rw [Int.toNat_natCast]; omega
    have hroom : ∀ {Q : Unit → Shared → Prop} {E : Value → Shared → Prop}, Q () ⟨hp, g, d, tk, os⟩ → wpAny (model prog w) A.in1 (Builtin.roomForPylongsInverse (n : Int).toNat) Q E ⟨hp, g, d, tk, os⟩ := fun h => room_inverse hs hl hd h
    wp_walk using (hroom)
    exact h
  have ok := PySem.W.MGF.args_isqrt (.int (n : Int) t)
  rw [show checkBuiltinCall "math.isqrt" ⟨[Value.int (n : Int) t], []⟩ = pure () from ?_]
  · exact wpAny_pure hfin
  · simp only [checkBuiltinCall, PySem.W.MGF.kind_isqrt]
    cases hsig : Manifest.signature? "math.isqrt" with
    | none => rfl
    | some sig =>
      simp only [argsOk, hsig] at ok
      exact ok
end
/-- the floor root of a natural number -/
def rIsqrt : List V → Hp → VK → Prop := fun vs H Q => ∃ n t : Nat, vs = [.int (n : Int)] ∧ n.log2 ≤ 200000 ∧ t * t ≤ n ∧ n < (t + 1) * (t + 1) ∧ Q (.int (t : Int)) H
theorem root_unique {n t u : Nat} (h1 : t * t ≤ n) (h2 : n < (t + 1) * (t + 1)) (h3 : u * u ≤ n) (h4 : n < (u + 1) * (u + 1)) : t = u := by
  have a : ∀ x y : Nat, x * x ≤ n → n < (y + 1) * (y + 1) → x ≤ y := fun x y p q => by
    refine Classical.byContradiction fun hc => ?_
    have : (y + 1) * (y + 1) ≤ x * x := Nat.mul_le_mul (by omega) (by omega)
    omega
  exact Nat.le_antisymm (a t u h1 h4) (a u t h3 h2)
theorem cr_isqrt {X : Cx} (hN : X.base.NoSeer) (ht : X.prog.given.tree = none) (hst : X.stack = X.env :: X.outer) (hgen : X.env.scope.isGenerator = false) (hco : X.env.scope.isCoroutine = false) (hr : Room 40 X.A) : CallR X (.builtin "math.isqrt") rIsqrt := by
  intro pins s σ H xs us Q I r h
  obtain ⟨n, t, rfl, hz, h1, h2, q⟩ := h
  obtain ⟨u, rfl, t', rfl⟩ := vals1 r
  have e : Float64.isqrt n = t := root_unique (Float64.isqrt_spec n).1 (Float64.isqrt_spec n).2 h1 h2
  have hS : SeerAt (model X.prog X.w) X.A s.heap := SeerAt.of (env := X.env) (l := X.outer) (hN.keeps I.bk) ht (by rw [I.ok.frames, hst]) hgen hco I.ok.blt I.ok.glob
  refine isqrt_great hz hS I.nolimit ?_ ?_
  · have := hr.dp
    show X.A.depth + 100 < recursionLimit
    omega
  · rw [e]
    exact ⟨.int (t : Int), H, I.tok _, ⟨_, rfl⟩, q⟩
theorem rc_isqrt {b : Bs} {S : DS} {n t : Nat} (hz : n.log2 ≤ 200000) (h1 : t * t ≤ n) (h2 : n < (t + 1) * (t + 1)) : RC b rIsqrt [.d (.int (n : Int))] S (.d (.int (t : Int))) := by
  intro H vs rm h Q q
  obtain ⟨v, rfl, k⟩ := vall1 h
  cases k
  exact ⟨n, t, rfl, hz, h1, h2, q _ H (.int _) (Ex.refl _)⟩
/-- math.lcm of ints below 2 ^ 64 -/
def rLcm : List V → Hp → VK → Prop := fun vs H Q => ∃ a b : Int, vs = [.int a, .int b] ∧ a.natAbs < 2 ^ 64 ∧ b.natAbs < 2 ^ 64 ∧ Q (.int ((Nat.lcm a.natAbs b.natAbs : Nat) : Int)) H
theorem cr_lcm {X : Cx} : CallR X (.builtin "math.lcm") rLcm := by
  intro pins s σ H xs us Q I r h
  obtain ⟨a, c, rfl, h1, h2, q⟩ := h
  obtain ⟨t, u, rfl⟩ := Vals.int2 r
  exact PySem.W.mc_lcm h1 h2 fun _ => ⟨.int _, H, I.tok _, ⟨_, rfl⟩, q⟩
theorem rc_lcm {b : Bs} {S : DS} {i j : Int} (h1 : i.natAbs < 2 ^ 64) (h2 : j.natAbs < 2 ^ 64) : RC b rLcm [.d (.int i), .d (.int j)] S (.d (.int ((Nat.lcm i.natAbs j.natAbs : Nat) : Int))) := by
  intro H vs rm h Q q
  obtain ⟨u, v, rfl, k1, k2⟩ := vall2 h
  cases k1; cases k2
  exact ⟨i, j, rfl, h1, h2, q _ H (.int _) (Ex.refl _)⟩
/-- math.isqrt of a number below 2 ^ 64 -/
def rIsqrtS : List V → Hp → VK → Prop := fun vs H Q => ∃ n t : Nat, vs = [.int (n : Int)] ∧ n < 2 ^ 64 ∧ t * t ≤ n ∧ n < (t + 1) * (t + 1) ∧ Q (.int (t : Int)) H
theorem cr_isqrtS {X : Cx} : CallR X (.builtin "math.isqrt") rIsqrtS := by
  intro pins s σ H xs us Q I r h
  obtain ⟨n, t, rfl, hz, h1, h2, q⟩ := h
  obtain ⟨u, rfl, t', rfl⟩ := vals1 r
  have e : Float64.isqrt n = t := root_unique (Float64.isqrt_spec n).1 (Float64.isqrt_spec n).2 h1 h2
  refine PySem.W.mg_isqrt (Int.natCast_nonneg _) (by omega) ?_
  rw [Int.toNat_natCast, e]
  exact ⟨.int (t : Int), H, I.tok _, ⟨_, rfl⟩, q⟩
theorem rc_isqrtS {b : Bs} {S : DS} {n t : Nat} (hz : n < 2 ^ 64) (h1 : t * t ≤ n) (h2 : n < (t + 1) * (t + 1)) : RC b rIsqrtS [.d (.int (n : Int))] S (.d (.int (t : Int))) := by
  intro H vs rm h Q q
  obtain ⟨v, rfl, k⟩ := vall1 h
  cases k
  exact ⟨n, t, rfl, hz, h1, h2, q _ H (.int _) (Ex.refl _)⟩
section
variable {X : Cx}
theorem iop_mulX' : OpR X (inplaceOp .Mult) (rI CMulX fun i j => .int (i * j)) := opI fun _ _ _ _ _ _ _ hc q => imul_int q hc.ok
end
end DX
end
section
set_option Elab.async false
set_option linter.all false
set_option maxRecDepth 100000
set_option maxHeartbeats 4000000
namespace DX
open PySem PySem.Spec PyProof.Rows L2
set_option autoImplicit false
theorem flat_succ {ds : List PyData} {i : Nat} {d : PyData} (h : ds[i]? = some d) (f : PyData → List PyData) : (ds.take (i + 1)).flatMap f = (ds.take i).flatMap f ++ f d := by
  rw [List.take_add_one, h, List.flatMap_append]
  simp
theorem map_succ {ds : List PyData} {i : Nat} {d : PyData} (h : ds[i]? = some d) (f : PyData → PyData) : (ds.take (i + 1)).map f = (ds.take i).map f ++ [f d] := by
  rw [List.take_add_one, h, List.map_append]
  simp
theorem tyes_run {σ : List (Option V)} {H : Hp} {A B : Hp → Prop} (h : A H) : tYes σ H fun k H3 => if k = true then A H3 else B H3 := by
  show (if true = true then A H else B H)
  rw [if_pos rfl]
  exact h
section
variable {X : Cx} {b : Bs} {S S1 : DS} {pos : Pos}
theorem hd_acc (M : List (Addr × MO)) (D : Addr) (g1 g2 : List DV) (o1 o2 : MO) : Hd b ⟨g1, M ++ [(D, o1)]⟩ = Hd b ⟨g2, M ++ [(D, o2)]⟩ := by
  unfold Hd DS.as
  simp only [List.map_append, List.map_cons, List.map_nil]
/-- [elt for tg in a tuple for tg1 in a tuple], the rest left as it is -/
theorem ev_lc2T {elt tg iter tg1 iter1 : Expr} {scope : Scope} (own : List (Str × Nat)) (vs1 : List Nat) {g g1 : TG} {ds es : List PyData} (gA : PyData → List DV) (gB : PyData → PyData → List DV) (y : PyData → PyData → PyData)
    (hK : X.K = b.K) (hc : X.calm = true) (hN : X.N.Nodup) (hi : EV X b iter S (.d (.tuple ds)) S1) (hz : (ds.flatMap fun d => es.map (y d)).length ≤ 900) (hB : BlkOk X.N X.env.scope scope own) (hv : ∀ i ∈ vs1, i ∈ own.map (·.2))
    (hpg : ∀ (s : Shared) (H : Hp) (C : Addr) (cl : List (Str × Addr)) (fp : List Addr), PG (X.blk s H scope (compEnvC scope cl C X.env) fp) tg g)
    (hpg1 : ∀ (s : Shared) (H : Hp) (C : Addr) (cl : List (Str × Addr)) (fp : List Addr), PG (X.blk s H scope (compEnvC scope cl C X.env) fp) tg1 g1)
    (hg : ∀ (i : Nat) d, ds[i]? = some d → TGb b (own.map (·.2)) d (gWipe S1.g (own.map (·.2))) (gA d) g)
    (hi1 : ∀ (i : Nat) d, ds[i]? = some d → ∀ Dl acc, EVb X b scope iter1 ⟨gA d, S1.m ++ [(Dl, .lst acc)]⟩ (.d (.tuple es)) ⟨gA d, S1.m ++ [(Dl, .lst acc)]⟩)
    (hg1 : ∀ (i : Nat) d, ds[i]? = some d → ∀ (j : Nat) e, es[j]? = some e → TGb b vs1 e (gWipe (gA d) vs1) (gB d e) g1)
    (he : ∀ (i : Nat) d, ds[i]? = some d → ∀ (j : Nat) e, es[j]? = some e → ∀ Dl acc, EVb X b scope elt ⟨gB d e, S1.m ++ [(Dl, .lst acc)]⟩ (.d (y d e)) ⟨gB d e, S1.m ++ [(Dl, .lst acc)]⟩)
    {z : PyData} (ez : z = .list (ds.flatMap fun d => es.map (y d)))
    (hf : ∀ x : Value, foldedSetIterable iter X.env x = pure x := by intro _; rfl) (hf1 : ∀ (env : Env) (x : Value), foldedSetIterable iter1 env x = pure x := by intro _ _; rfl) : EV X b (.ListComp elt [⟨tg, iter, [], 0⟩, ⟨tg1, iter1, [], 0⟩] scope pos) S (.d z) S1 := by
  subst ez
  intro σ H r Q q
  refine wE_of (pe_lc2 (wi1 := iTup X.K (wEb X scope iter1)) hc hN (pi_tup (peW _)) hB hv hpg (fun _ _ _ _ _ => pts_nil) (fun s H0 C cl fp => pi_tup (X := X.blk s H0 scope (compEnvC scope cl C X.env) fp) (peWb (X := X) scope iter1 s H0 C cl fp)) hpg1 (fun _ _ _ _ _ => pts_nil) (peWb scope elt) hf hf1) (hi σ H r _ fun v H1 k1 r1 x1 a1 => ?_)
  cases k1 with
  | tup hs ha =>
    rename_i a xs
    have hq0 : SqT X.K H1 a xs := by rw [hK]; exact ex_t hide_ex hs
    refine ⟨a, rfl, ⟨xs, hq0⟩, fun D hD => ?_⟩
    have nD : D ∉ Hd b S1 := r1.rm.fresh hD
    have xl : xs.length = ds.length := DpAll.len ha
    have hh : ∀ (gg : List DV) (acc : List PyData), Hd b ⟨gg, S1.m ++ [(D, MO.lst acc)]⟩ = Hd b ⟨S1.g, S1.m ++ [(D, MO.lst [])]⟩ := fun gg acc => hd_acc _ _ _ _ _ _
    generalize hHD : Hd b ⟨S1.g, S1.m ++ [(D, MO.lst [])]⟩ = HD at hh
    have hdM : ∀ q, q ∈ HD ↔ (q ∈ Hd b S1 ∨ q = D) := fun q => by
      rw [← hHD]
      unfold Hd DS.as
      simp only [List.map_append, List.mem_append, List.map_cons, List.map_nil, List.mem_singleton]
      constructor
      · rintro (h | h | h)
        · exact .inl (.inl h)
        · exact .inl (.inr h)
        · exact .inr h
      · rintro ((h | h) | h)
        · exact .inl h
        · exact .inr (.inl h)
        · exact .inr (.inr h)
    have rw0 : Rel b ⟨gWipe S1.g (own.map (·.2)), S1.m⟩ (wipe σ (own.map (·.2))) H1 := rel_wipe (g := S1.g) (m := S1.m) r1
    have tot : ∀ i j d, ds[i]? = some d → j < es.length → ((ds.take i).flatMap (fun d => es.map (y d)) ++ (es.take j).map (y d)).length < 1000 := fun i j d hd hj => by
      have hi : i < ds.length := (List.getElem?_eq_some_iff.mp hd).1
      have e1 : ds.flatMap (fun d => es.map (y d)) = (ds.take (i + 1)).flatMap (fun d => es.map (y d)) ++ (ds.drop (i + 1)).flatMap (fun d => es.map (y d)) := by rw [← List.flatMap_append, List.take_append_drop]
      rw [e1, flat_succ hd] at hz
      simp only [List.length_append, List.length_map] at hz ⊢
      have : (es.take j).length ≤ es.length := by rw [List.length_take]; omega
      omega
    refine ⟨fun i m H => m = ds.length - i ∧ i ≤ ds.length ∧ RelM b ⟨S1.g, S1.m ++ [(D, .lst ((ds.take i).flatMap fun d => es.map (y d)))]⟩ H ∧ Ex (hide (Hd b S1) H1) (hide HD H), ⟨_, rfl, Nat.zero_le _, ?_, ?_⟩, ?_⟩
    · exact (r1.addM (a := D) (o := .lst []) (H' := upd H1 D (.lst [])) hD (Ex.new hD) ⟨[], upd_same, .nil⟩).1.rm
    · have := (r1.addM (a := D) (o := .lst []) (H' := upd H1 D (.lst [])) hD (Ex.new hD) ⟨[], upd_same, .nil⟩).2
      rw [← hHD]
      exact this
    · rintro i m H2 ⟨rfl, hle, rm, xx⟩
      have hq : SqT X.K H2 a xs := by rw [hK]; exact ex_t hide_ex (ex_t xx hs)
      by_cases hlt : i < ds.length
      · refine .inr ⟨⟨xs, xs[i]'(by omega), hq, by simp [show i < xs.length by omega]⟩, fun H' => RelM b ⟨S1.g, S1.m ++ [(D, .lst ((ds.take (i + 1)).flatMap fun d => es.map (y d)))]⟩ H' ∧ Ex (hide (Hd b S1) H1) (hide HD H'), fun H' p => ⟨ds.length - (i + 1), by omega, rfl, hlt, p⟩, fun x H' yy => ?_⟩
        obtain ⟨e0, yy⟩ := yy
        subst e0
        obtain ⟨d, hd1, hd2⟩ := dpAll_getV ha (yy xs hq)
        have hd3 := Dp.ex xx hd2
        have rw1 : Rel b ⟨gWipe S1.g (own.map (·.2)), S1.m ++ [(D, .lst ((ds.take i).flatMap fun d => es.map (y d)))]⟩ (wipe σ (own.map (·.2))) H' :=
          rel_later rw0 (by rw [hh]; exact xx) (fun q hq => by rw [hh]; exact (hdM q).mpr (.inl hq)) (relM_g rm)
        refine hg i d hd1 x _ H' _ (by show Dp _ _ _ _; rw [hh]; exact hd3) rw1 _ fun σ2 r2 e2 => ?_
        refine ⟨by rw [e2]; exact wipe_wipe σ _ _ fun _ h => h, ?_⟩
        refine tyes_run (A := fun H3 => iTup X.K (wEb X scope iter1) σ2 H3 _) ?_
        intro s0 H0 C cl fp
        refine hi1 i d hd1 D _ s0 H0 C cl fp σ2 H' r2 _ fun v4 H4 k4 r4 x4 a4 => ?_
        cases k4 with
        | tup hs4 ha4 =>
          rename_i a4' xs4
          rw [hh] at hs4 ha4 x4
          have xl4 : xs4.length = es.length := DpAll.len ha4
          have hq4 : SqT X.K H4 a4' xs4 := by rw [hK]; exact ex_t hide_ex hs4
          refine ⟨a4', rfl, ⟨xs4, hq4⟩, fun j m H => m = es.length - j ∧ j ≤ es.length ∧ RelM b ⟨S1.g, S1.m ++ [(D, .lst ((ds.take i).flatMap (fun d => es.map (y d)) ++ (es.take j).map (y d)))]⟩ H ∧ Ex (hide HD H4) (hide HD H), ⟨_, rfl, Nat.zero_le _, ?_, Ex.refl _⟩, ?_⟩
          · rw [List.take_zero, List.map_nil, List.append_nil]
            exact relM_g r4.rm
          · rintro j k H5 ⟨rfl, hle5, rm5, xx5⟩
            have hq5 : SqT X.K H5 a4' xs4 := by rw [hK]; exact ex_t hide_ex (ex_t xx5 hs4)
            by_cases hlt5 : j < es.length
            · refine .inr ⟨⟨xs4, xs4[j]'(by omega), hq5, by simp [show j < xs4.length by omega]⟩, fun H' => RelM b ⟨S1.g, S1.m ++ [(D, .lst ((ds.take i).flatMap (fun d => es.map (y d)) ++ (es.take (j + 1)).map (y d)))]⟩ H' ∧ Ex (hide HD H4) (hide HD H'), fun H' p => ⟨es.length - (j + 1), by omega, rfl, hlt5, p⟩, fun x5 H6 yy5 => ?_⟩
              obtain ⟨e5, yy5⟩ := yy5
              subst e5
              obtain ⟨e, he1, he2⟩ := dpAll_getV ha4 (yy5 xs4 hq5)
              have he3 := Dp.ex xx5 he2
              have rw5 : Rel b ⟨gWipe (gA d) vs1, S1.m ++ [(D, .lst ((ds.take i).flatMap (fun d => es.map (y d)) ++ (es.take j).map (y d)))]⟩ (wipe σ2 vs1) H6 :=
                rel_later (rel_wipe (g := gA d) r4) (by rw [hh, hh]; exact xx5) (fun q hq => by rw [hh] at hq ⊢; exact hq) (relM_g rm5)
              refine hg1 i d hd1 j e he1 x5 _ H6 _ (by show Dp _ _ _ _; rw [hh]; exact he3) rw5 _ fun σ3 r6 e6 => ?_
              refine ⟨by rw [e6]; exact wipe_wipe σ2 _ _ fun _ h => h, ?_⟩
              refine lc_step (tt := tYes) (g0 := S1.g) (M := S1.m) (M' := S1.m) (acc := (ds.take i).flatMap (fun d => es.map (y d)) ++ (es.take j).map (y d)) (c := true) (d := y d e) rfl r6 (tot i j d hd1 hlt5) (fun Q hQ => hQ H6 r6 (Ex.refl _)) (fun _ => he i d hd1 j e he1 D _) (fun h => nomatch h) fun H' rm' x' => ?_
              rw [hh, hh] at x'
              rw [if_pos rfl, List.append_assoc, ← map_succ he1] at rm'
              exact ⟨rm', xx5.trans x'⟩
            · have ej : j = es.length := by omega
              subst ej
              refine .inl ⟨⟨xs4, hq5, by omega⟩, ?_, (xx.trans x4).trans xx5⟩
              rw [flat_succ hd1]
              rw [List.take_length] at rm5
              exact rm5
      · have ei : i = ds.length := by omega
        subst ei
        refine .inl ⟨⟨xs, hq, by omega⟩, ?_⟩
        rw [List.take_length] at rm
        generalize (ds.flatMap fun d => es.map (y d)) = out at rm q
        have r3 : Rel b ⟨S1.g, S1.m ++ [(D, .lst out)]⟩ σ H2 := rel_later (m := S1.m) r1 (by rw [hh]; exact xx) (fun q hq => by rw [hh]; exact (hdM q).mpr (.inl hq)) rm
        have hfx : D ∉ b.fx := fun h => nD (List.mem_append.mpr (.inr (r1.rm.fxs D h)))
        have hin : (D, MO.lst out) ∈ (⟨S1.g, S1.m ++ [(D, .lst out)]⟩ : DS).m := List.mem_append.mpr (.inr (by simp))
        obtain ⟨r4, x4⟩ := r3.frzL hin hfx
        have em : (S1.m ++ [(D, MO.lst out)]).filter (fun p => decide (p.1 ≠ D)) = S1.m := by
          have nd : ((S1.m ++ [(D, MO.lst out)]).map (·.1)).Nodup := r3.rm.nd
          rw [List.map_append] at nd
          have hn : D ∉ S1.m.map (·.1) := fun q => (List.nodup_append.mp nd).2.2 D q D (by simp) rfl
          rw [List.filter_append]
          have e1 : S1.m.filter (fun p => decide (p.1 ≠ D)) = S1.m := List.filter_eq_self.mpr fun p hp => decide_eq_true fun e => hn (List.mem_map.mpr ⟨p, hp, e⟩)
          rw [e1]
          simp
        have hd4 : ∀ gg : List DV, Hd b ⟨gg, (S1.m ++ [(D, MO.lst out)]).filter (fun p => decide (p.1 ≠ D))⟩ = Hd b S1 := fun gg => by rw [em]; rfl
        have x5 : Ex (hide (Hd b S1) H1) (hide (Hd b S1) H2) := by
          rw [hh] at x4
          have x4' := xx.trans x4
          unfold DS.frz at x4'
          rw [hd4] at x4'
          exact x4'
        have rm5 : RelM b S1 H2 := by
          have := r4.rm
          unfold DS.frz at this
          rw [em] at this
          exact relM_g this
        refine q _ H2 ?_ (rel_later (m := S1.m) r1 x5 (fun q hq => hq) rm5) (x1.trans x5) a1
        obtain ⟨us, e1, e2⟩ := r3.rm.mem _ hin
        refine .lst (.inl (.inl (by rw [hide_out nD]; exact e1))) (DpAll.ex (fun q u e => ?_) e2)
        obtain ⟨q1, q2⟩ := hide_some e
        rw [hide_out fun z => q2 (by rw [hh]; exact (hdM q).mpr (.inl z))]
        exact q1
end
end DX
end
section
set_option Elab.async false
set_option linter.all false
set_option maxRecDepth 100000
set_option maxHeartbeats 4000000
namespace DX
open PySem PySem.Spec PyProof.Rows L2
set_option autoImplicit false
/-! errors of the program's own: raised without arguments -/
abbrev veB : List Value := [.type "ValueError", .type "Exception", .type "BaseException", .type "object"]
/-- what the written part says of an own error class -/
structure ExcK (K : PySem.W.Frag) (C : Addr) : Prop where
  ex : PySem.W.excIn K C veB "ValueError.__new__" = true
  kp : PySem.W.keepIn K (.ref C) = true
  sb : PySem.W.subIn K (.ref C) (.type "BaseException") = some true
  ty : PySem.W.typeIn K (.ref C) = some (.type "type")
theorem pmk_bare {X : Cx} {C : Addr} {x : Str} {p pos : Pos} (T : ExcK X.K C) (gC : X.mg x = some (.ref C)) (hg : Gl X x) (hdb : (x == ("__debug__" : Str)) = false := by decide) :
    PMk X (.Call (.Name x p) [] [] pos) (fun _ H Q => Q (.ref C) none H) := by
  intro pins s σ H Q I h
  have r : Raises X (.ref C) := raises_own T.sb T.ty
  refine wpAny_Call_Name_kw (ld_glob I hg gC ?_ hdb)
  refine PySem.W.callWith_K0 (first := []) I.kIn T.kp ?_
  show wpAny _ _ (call (.ref C) []) _ _ _
  obtain ⟨bm, N, nm, qn, bs, hdct, sn, sub, ab, col, dd, k0, k1, k2, k3, k5, mN, hC, hN, hni, hT⟩ := exc_obj I.kIn T.ex
  refine wpAny_call_exc_subT PySem.F.excBase_ValueError hT hC hN hni (fun h' e hm => ?_) (by show 0 ≤ sizeLine; omega)
  exact mk_of I hm r h (I.hok.gone hm.new)
section
variable {X : Cx} {b : Bs} {S : DS} {D : DE} {pos : Pos}
theorem sy_raise0 {C : Addr} {x : Str} {p p2 : Pos} {EE : XK} (T : ExcK X.K C) (gC : X.mg x = some (.ref C)) (hg : Gl X x) (hc : X.calm = true) (tk : Takes X (fun cls d _ H => EE cls d H)) (hE : ∀ H', RelM b S H' → EE (.ref C) none H')
    (hdb : (x == ("__debug__" : Str)) = false := by decide) : SY X b (.Raise (some (.Call (.Name x p) [] [] p2)) none pos) S D := fun σ H r E k =>
  w1_of (ps_raise hc tk (pmk_bare T gC hg hdb)) (hE H r.rm)
end
end DX
end
section
set_option Elab.async false
set_option linter.all false
set_option maxRecDepth 100000
set_option maxHeartbeats 4000000
namespace DX
open PySem PySem.Spec PyProof.Rows L2
set_option autoImplicit false
section
variable {X : Cx} {b : Bs} {S S1 : DS} {D : DE} {pos lpos py : Pos}
/-- name = [..] over a tuple, on one line -/
theorem sy_setLcT {i : Nat} {nm : Str} {elt tg iter : Expr} {scope : Scope} (own : List (Str × Nat)) {g : TG} {ds : List PyData} (gT : PyData → List DV) (q : PyData → PyData)
    (hK : X.K = b.K) (hc : X.calm = true) (hN : X.N.Nodup) (hy : X.N[i]? = some nm) (hyl : X.env.scope.names.lookup nm = some .local) (hi : EV X b iter S (.d (.tuple ds)) S1) (hz : ds.length ≤ 1000) (hB : BlkOk X.N X.env.scope scope own)
    (hpg : ∀ (s : Shared) (H : Hp) (C : Addr) (cl : List (Str × Addr)) (fp : List Addr), PG (X.blk s H scope (compEnvC scope cl C X.env) fp) tg g)
    (hg : ∀ (i : Nat) d, ds[i]? = some d → TGb b (own.map (·.2)) d (gWipe S1.g (own.map (·.2))) (gT d) g)
    (he : ∀ (i : Nat) d, ds[i]? = some d → ∀ Dl acc, EVb X b scope elt ⟨gT d, S1.m ++ [(Dl, .lst acc)]⟩ (.d (q d)) ⟨gT d, S1.m ++ [(Dl, .lst acc)]⟩)
    {z : PyData} (ez : z = .list (ds.map q)) (hl : i < S1.g.length) (hd : D.nx (S1.put i (.d z)))
    (hsw : swapsWith (.ListComp elt [⟨tg, iter, [], 0⟩] scope lpos) (some (.Name nm py)) pos.line X.env = pure true)
    (hf : ∀ x : Value, foldedSetIterable iter X.env x = pure x := by intro _; rfl) : SY X b (.Assign [.Name nm py] (.ListComp elt [⟨tg, iter, [], 0⟩] scope lpos) pos) S D := by
  intro σ H r E k
  have eo : PyData.list (outs (fun _ => true) (fun i => match ds[i]? with | some d => q d | none => .none) ds.length) = z := by
    rw [ez, outs_picked (ds := ds) (f := fun _ => true) (g := q) (fun i d h => ⟨rfl, by simp only [h]⟩), List.filter_eq_self.mpr (fun _ _ => rfl)]
  refine w1_of (ps_setLc hc hN hy hyl hsw (pi_tup (peW _)) hB hpg (fun _ _ _ _ _ => pts_nil) (peWb scope elt) hf) (hi σ H r _ fun v H1 k1 r1 x1 a1 => ?_)
  cases k1 with
  | tup hs ha =>
    rename_i a xs
    refine ⟨a, rfl, ⟨xs, by rw [hK]; exact ex_t hide_ex hs⟩, fun Dl hD => ?_⟩
    obtain ⟨Pv, p0, pe, pg, pt, ps, pd⟩ := lc_core2 (own := own) (Q := fun x H1 => gName i x σ H1 E.nx) (X := X) (elt := elt) (scope := scope) (tt := tYes) (Ms := fun _ => S1.m) (c := fun _ => true) (y := fun i => match ds[i]? with | some d => q d | none => .none) hz r1 rfl (fun _ => rfl) hg (fun i d hd Dl acc σ2 H r Q q => ttok_yes σ2 H r Q q)
      (fun i d hd _ Dl acc => by rw [show (match ds[i]? with | some d => q d | none => .none) = q d by rw [hd]]; exact he i d hd Dl acc) (fun _ _ _ _ => rfl) (fun v H' k' r' x' => by
        rw [eo] at k'
        exact k.nx _ _ _ hd (r'.put hl k') (x1.trans x')) Dl hD
    exact lc_tup (K := X.K) Pv p0 (fun i H _ h => by rw [hK]; exact ex_t hide_ex (ex_t (pe i H h) hs)) (fun i x H hx h => by obtain ⟨d, h1, h2⟩ := dpAll_getV ha hx; exact ps i d x H h1 (Dp.ex (pe i H h) h2) h) (by rw [DpAll.len ha]; exact pd)
end
end DX
end
section
set_option Elab.async false
set_option linter.all false
set_option maxRecDepth 100000
set_option maxHeartbeats 4000000
namespace DX
open PySem PySem.Spec PyProof.Rows L2
set_option autoImplicit false
def isNoneD : PyData → Bool
  | .none => true
  | _ => false
theorem dp_typeA {K : PySem.W.Frag} {H H' : Hp} (ex : Ex H H') {v : V} {d : PyData} (h : Dp K H v d) : ∃ t, TyX K H' v t ∧ ∀ T, isCls T → PySem.W.kitOne K t (.type T) = some (isInst d T) := by
  have tab := kit_tab
  cases h with
  | non => exact ⟨_, .base .non, fun T hT => kit_ty (tab T hT).1⟩
  | bl c => exact ⟨_, .base (.bl c), fun T hT => kit_ty (tab T hT).2.1⟩
  | int i => exact ⟨_, .base (.int i), fun T hT => kit_ty (tab T hT).2.2.1⟩
  | str x => exact ⟨_, .base (.str x), fun T hT => kit_ty (tab T hT).2.2.2.1⟩
  | lst hs _ =>
    refine ⟨.type "list", ?_, fun T hT => kit_ty (tab T hT).2.2.2.2.1⟩
    rcases hs with (h | ⟨o, h⟩) | ⟨o, its, n, h1, h2, _⟩
    · exact .base (.lst (ex _ _ h))
    · exact .base (.frz (ex _ _ h))
    · exact .kList h1 h2
  | tup hs _ =>
    refine ⟨.type "tuple", ?_, fun T hT => kit_ty (tab T hT).2.2.2.2.2⟩
    rcases hs with (h | ⟨o, h⟩) | ⟨o, its, n, h1, h2, _⟩
    · exact .base (.tup (ex _ _ h))
    · exact .fTuple (ex _ _ h)
    · exact .kTuple h1 h2
section
variable {X : Cx} {b : Bs} {S S1 : DS} {D : DE} {pos : Pos}
/-- isinstance of data and two built-in classes -/
theorem ev_isi2 {p tp q1 q2 : Pos} {k : Nat} {e : Expr} {n1 n2 : Str} {T1 T2 : String} {d : PyData} (hK : X.K = b.K) (hg : Gl X "isinstance") (hm : X.mg "isinstance" = none) (hg1 : Gl X n1) (hm1 : X.mg n1 = none) (hv1 : bootBuiltins n1 = some (.type T1)) (hT1 : isCls T1)
    (hg2 : Gl X n2) (hm2 : X.mg n2 = none) (hv2 : bootBuiltins n2 = some (.type T2)) (hT2 : isCls T2) (h : EV X b e S (.d d) S1) (hn1 : n1 ≠ "__name__" := by decide) (hd1 : (n1 == ("__debug__" : Str)) = false := by decide) (hn2 : n2 ≠ "__name__" := by decide) (hd2 : (n2 == ("__debug__" : Str)) = false := by decide)
    (hs1 : starEach [.Name n1 q1, .Name n2 q2] X.env = (false, eval (.Name n1 q1) X.env) :: starEach [.Name n2 q2] X.env := by rfl) (hs2 : starEach [.Name n2 q2] X.env = (false, eval (.Name n2 q2) X.env) :: starEach [] X.env := by rfl)
    (he : starEach [e, .Tuple [.Name n1 q1, .Name n2 q2] k tp] X.env = (false, eval e X.env) :: starEach [.Tuple [.Name n1 q1, .Name n2 q2] k tp] X.env := by rfl) (he2 : starEach [.Tuple [.Name n1 q1, .Name n2 q2] k tp] X.env = (false, eval (.Tuple [.Name n1 q1, .Name n2 q2] k tp) X.env) :: starEach [] X.env := by rfl) (hpl : (backTo pos (starEach [.Tuple [.Name n1 q1, .Name n2 q2] k tp] X.env)).any (·.1) = false := by rfl) :
    EV X b (.Call (.Name "isinstance" p) [e, .Tuple [.Name n1 q1, .Name n2 q2] k tp] [] pos) S (.d (.bool (isInst d T1 || isInst d T2))) S1 := by
  intro σ H r Q q
  refine wE_of (pe_callB call_isiT hg hm (by decide +kernel) (pa_cons (peW e) (pa_cons (pe_tup (pa_cons (pe_bltn (v := .ty T1) hg1 hm1 hv1 rfl hn1 hd1) (pa_cons (pe_bltn (v := .ty T2) hg2 hm2 hv2 rfl hn2 hd2) pa_nil hs2) hs1)) pa_nil he2) he) (by decide) (by decide) he hpl) ?_
  refine h σ H r _ fun v H1 k1 r1 x1 a1 => ?_
  refine ⟨by show 2 ≤ sizeLine; rw [sizeLine_eq]; omega, fun tp hp => ?_⟩
  obtain ⟨r2, x2⟩ := r1.grow (Ex.new (o := .tup [.ty T1, .ty T2]) hp)
  obtain ⟨t, t1, t2⟩ := dp_typeA (hide_ex.trans (Ex.new (o := .tup [.ty T1, .ty T2]) hp)) k1
  refine ⟨v, tp, [.ty T1, .ty T2], t, [.type T1, .type T2], _, rfl, upd_same, .cons (.ty T1) (.cons (.ty T2) .nil), by rw [hK]; exact t1, ?_, q _ _ (.bl _) r2 (x1.trans x2) a1⟩
  rw [hK]
  refine kitAny_cons (t2 T1 hT1) (fun hb => ?_) fun hb => ?_
  · refine kitAny_cons (t2 T2 hT2) (fun hb2 => ?_) fun hb2 => ?_
    · rw [hb, hb2]; rfl
    · rw [hb2, Bool.or_true]
  · rw [hb, Bool.true_or]
theorem rv_isN {d : PyData} : RV b (fun x y H Q => y = .non ∧ Q (.bl (decide (x = .non))) H) (.d d) (.d .none) S (.d (.bool (isNoneD d))) := by
  intro H u v rm hu hv Q q
  cases hv
  refine ⟨rfl, q _ H ?_ (fun _ h => h) (Ex.refl _)⟩
  cases hu with
  | non => exact .bl _
  | bl c => rw [decide_eq_false (by intro e; cases e)]; exact .bl _
  | int i => rw [decide_eq_false (by intro e; cases e)]; exact .bl _
  | str x => rw [decide_eq_false (by intro e; cases e)]; exact .bl _
  | lst hs _ => rw [decide_eq_false (by intro e; cases e)]; exact .bl _
  | tup hs _ => rw [decide_eq_false (by intro e; cases e)]; exact .bl _
theorem et_isN {e1 : Expr} {d : PyData} {j} {p2 : Pos} (h1 : EV X b e1 S (.d d) S1) : ET X b (.Compare e1 [.Is] [.Constant .none j p2] pos) S (isNoneD d) S1 := et_cmp op_isN (nobehind _ (by decide) (by decide)) h1 ev_non rv_isN
/-- a comprehension over range(n), with one test -/
theorem ev_lcR1i {elt tg e t : Expr} {p1 p2 : Pos} {scope : Scope} (own : List (Str × Nat)) {g : TG} {n : Nat} (gT : PyData → List DV) (c : Nat → Bool) (y : Nat → PyData)
    (hK : X.K = b.K) (hc : X.calm = true) (hN : X.N.Nodup) (hgr : Gl X "range") (hmr : X.mg "range" = none) (h : EV X b e S (.d (.int (n : Int))) S1) (hz : n ≤ 1000) (hB : BlkOk X.N X.env.scope scope own)
    (hpg : ∀ (s : Shared) (H : Hp) (C : Addr) (cl : List (Str × Addr)) (fp : List Addr), PG (X.blk s H scope (compEnvC scope cl C X.env) fp) tg g)
    (hg : ∀ i : Nat, i < n → TGb b (own.map (·.2)) (.int (i : Int)) (gWipe S1.g (own.map (·.2))) (gT (.int (i : Int))) g)
    (ht : ∀ i : Nat, i < n → ∀ Dl acc, ETb X b scope t ⟨gT (.int (i : Int)), S1.m ++ [(Dl, .lst acc)]⟩ (c i) ⟨gT (.int (i : Int)), S1.m ++ [(Dl, .lst acc)]⟩)
    (he : ∀ i : Nat, i < n → c i = true → ∀ Dl acc, EVb X b scope elt ⟨gT (.int (i : Int)), S1.m ++ [(Dl, .lst acc)]⟩ (.d (y i)) ⟨gT (.int (i : Int)), S1.m ++ [(Dl, .lst acc)]⟩)
    {z : PyData} (ez : z = .list (outs c y n))
    (hs1 : starEach [e] X.env = [(false, eval e X.env)] := by rfl) (hf : ∀ x : Value, foldedSetIterable (.Call (.Name "range" p1) [e] [] p2) X.env x = pure x := by intro _; rfl) :
    EV X b (.ListComp elt [⟨tg, .Call (.Name "range" p1) [e] [] p2, [t], 0⟩] scope pos) S (.d z) S1 := by
  subst ez
  intro σ H r Q q
  refine wE_of (pe_lc hc hN (pi_range1 hgr hmr (pa_cons (peW e) pa_nil hs1) hs1) hB hpg (fun s H C cl fp => pts_one (ptWb scope t s H C cl fp)) (peWb scope elt) hf) (h σ H r _ fun v H1 k1 r1 x1 a1 => ?_)
  cases k1
  refine ⟨(n : Int), rfl, by omega, by omega, fun D hD => ?_⟩
  have hlen : ((intsFrom 0 n).map PyData.int).length = n := by rw [List.length_map, intsFrom_len]
  have get : ∀ {i : Nat} {d : PyData}, ((intsFrom 0 n).map PyData.int)[i]? = some d → i < n ∧ d = .int (i : Int) := fun {i d} e => by
    have hi : i < n := by
      have := (List.getElem?_eq_some_iff.mp e).1
      rwa [hlen] at this
    rw [List.getElem?_map, intsFrom_get hi, Int.zero_add] at e
    exact ⟨hi, (Option.some.inj e).symm⟩
  obtain ⟨Pv, p0, pe, pg, pt, ps, pd⟩ := lc_core2 (own := own) (Q := Q) (X := X) (elt := elt) (scope := scope) (tt := wTb X scope t) (c := c) (y := y) (Ms := fun _ => S1.m) (ds := (intsFrom 0 n).map PyData.int) (by rw [hlen]; exact hz) r1 rfl (fun _ => rfl)
    (fun i d e => by obtain ⟨h, rfl⟩ := get e; exact hg i h) (fun i d e Dl acc σ2 H r Q q => by obtain ⟨h, rfl⟩ := get e; exact ttok_one (ht i h Dl acc) σ2 H r Q q) (fun i d e => by obtain ⟨h, rfl⟩ := get e; exact he i h) (fun _ _ _ _ => rfl)
    (fun v H' k' r' x' => by
      rw [hlen] at k'
      exact q v H' k' r' (x1.trans x') a1) D hD
  refine lc_range (lo := 0) (n := n) Pv p0 (fun i H hi h => ps i (.int (i : Int)) _ H ?_ (by rw [Int.zero_add]; exact .int _) h) (fun H h => pd H ?_)
  · rw [List.getElem?_map, intsFrom_get hi, Int.zero_add]
    rfl
  · rw [List.length_map, intsFrom_len]
    exact h
end
end DX
end
section
set_option Elab.async false
set_option linter.all false
set_option maxRecDepth 100000
set_option maxHeartbeats 4000000
namespace DX
open PySem PySem.Spec PyProof.Rows L2 LamX
set_option autoImplicit false
/-! ### several except clauses, each with a name -/
def goneE (D : Ends) (i : Nat) : Ends := { nx := fun σ' H' => D.nx (σ'.set i none) H', rt := D.rt, bk := fun σ' H' => D.bk (σ'.set i none) H', ct := fun σ' H' => D.ct (σ'.set i none) H' }
def wMA (K : PySem.W.Frag) (Wo : WX) (D : Ends) : List (Value × Nat × TS) → WX
  | [] => Wo
  | x :: r => fun cls d σ H => ∃ b, PySem.W.exmOne K cls x.1 = some b ∧ (b = true → ∀ a, H a = none → x.2.2 (goneE D x.2.1) (σ.set x.2.1 (some (.ref a))) H) ∧ (b = false → wMA K Wo D r cls d σ H)
inductive HdA (X : Cx) : List ExceptHandler → List (Value × Nat × TS) → Prop
  | nil : HdA X [] []
  | cons {x n : Str} {c : Value} {i : Nat} {ts : TS} {b0 : Stmt} {su : List Stmt} {p1 p2 : Pos} {hds : List ExceptHandler} {l : List (Value × Nat × TS)} (hc : Names X x c) (hi : X.N[i]? = some n) (hn : X.env.kindOf n = some .local)
      (hs : ∀ (a : Addr) (pn : List (Addr × Obj)), PSs (X.suite a pn) (b0 :: su) ts) (r : HdA X hds l) : HdA X (.ExceptHandler (some (.Name x p1)) (some n) (b0 :: su) p2 :: hds) ((c, i, ts) :: l)
theorem ps_tryA {X : Cx} {body : List Stmt} {h0 : ExceptHandler} {hds : List ExceptHandler} {l : List (Value × Nat × TS)} {pos : Pos} {tb : WX → TS} {Wo : WX} (hs : X.stack = X.env :: X.outer) (hf : X.env.frame = some X.env.locals) (hN : X.N.Nodup) (tk : Takes X Wo)
    (hb : ∀ (W : WX) (pn : List (Addr × Obj)) (xe : Value → Shared → Prop), Takes (X.tr pn xe) W → PassesOwn (model X.prog X.w) X.A X.env xe → PSs (X.tr pn xe) body (tb W)) (hh : HdA X (h0 :: hds) l) : PS X (.Try body (h0 :: hds) [] [] pos) (fun D σ H => tb (wMA X.K Wo D l) D σ H) := by
  refine ⟨fun pins s σ H D I h => ?_⟩
  have ok := I.ok
  have hfr : X.A.frames = some (X.env :: X.outer) := by rw [ok.frames, hs]
  let xe' : Value → Shared → Prop := fun e s1 => wpAny (model X.prog X.w) X.A (noteFrame e X.env) (fun _ s2 => wpAny (model X.prog X.w) X.A (setFlight e none) (fun _ s3 => wpAny (model X.prog X.w) X.A (handleBy e X.env (h0 :: hds)) (SP X pins D) X.xe s3) X.xe s2) X.xe s1
  have hrun := hb (wMA X.K Wo D l) (X.pn ++ pins) xe' (fun u s' xx => ?_) PassesOwn.looking
  · refine wpAny_Try_except (wpAny_mono (hrun.run [] s σ H D (I.toTry _) h) (fun f s1 hsp => ?_) fun e s1 he => he)
    cases f with
    | next =>
      obtain ⟨σ1, H1, J, q⟩ := hsp
      exact wpAny_execs_nil ⟨σ1, H1, J.ofTry ok, q⟩
    | brk =>
      obtain ⟨σ1, H1, J, q⟩ := hsp
      exact ⟨σ1, H1, J.ofTry ok, q⟩
    | cont =>
      obtain ⟨σ1, H1, J, q⟩ := hsp
      exact ⟨σ1, H1, J.ofTry ok, q⟩
    | ret u =>
      obtain ⟨v, σ1, H1, J, r, q⟩ := hsp
      exact ⟨v, σ1, H1, J.ofTry ok, r, q⟩
  · obtain ⟨a, B, sI, pins', σ1, H1, cls, d, rfl, J0, nb, up, sky, na, os, ag, w⟩ := xx
    have J : Inv X pins σ1 H1 sI := J0.ofTry ok
    have sky1 : Sky B (X.env :: X.outer) a (Zc cls d) X.env.locals s'.heap := by rw [← hs]; exact sky
    show wpAny (model X.prog X.w) X.A (noteFrame (.ref a) X.env) _ _ _
    refine Sky.land Zc.steady hfr hf sky1 fun h3 fl3 up3 => ?_
    have J3 : Inv X pins σ1 H1 { s' with heap := h3 } := J.landed nb fl3.1 (up.trans up3) os ag
    obtain ⟨oe3, vs3, he3, hz3, hd3⟩ := fl3.there
    have off : a ∉ frs (X.env :: X.outer) := fun hm => by
      obtain ⟨_, o1, e1, no⟩ := fl3.2.2.1.mem hm
      rw [he3] at e1
      cases e1
      exact no _ hd3
    have nL : a ≠ X.env.locals := fun z => off (List.mem_filterMap.mpr ⟨X.env, List.mem_cons_self, by rw [hf, z]⟩)
    have nF : a ∉ X.fs := fun hm => by
      obtain ⟨e, he, q⟩ := List.mem_filterMap.mp hm
      exact off (List.mem_filterMap.mpr ⟨e, List.mem_cons_of_mem _ he, q⟩)
    have S3 := J3.suite he3 hd3 na nL nF
    have go : ∀ {hs1 : List ExceptHandler} {l1 : List (Value × Nat × TS)}, HdA X hs1 l1 → wMA X.K Wo D l1 cls d σ1 H1 → wpAny (model X.prog X.w) X.A (handleBy (.ref a) X.env hs1) (SP X pins D) X.xe { s' with heap := h3 } := by
      intro hs1 l1 hk
      induction hk with
      | nil =>
        intro w
        refine wpAny_handleBy_nil ?_
        obtain ⟨k1, k2, k3, oe, vs, T, oT, ts', he, hz, hd, h1, hr⟩ := id fl3
        unfold PySem.passOn
        refine wpAny_bind (wpAny_field he hd h1 ?_)
        rw [if_neg (show ¬ ((Value.ref T == Value.none) = true) from by simp)]
        have fin : wpAny (model X.prog X.w) X.A (setFlight (.ref a) X.env.frame) (fun _ s4 => wpAny (model X.prog X.w) X.A (throw (.ref a) : Sem Flow) (SP X pins D) X.xe s4) X.xe { s' with heap := h3 } := by
          rw [hf]
          refine HandSPX.setFlight_upZ fl3 fun h4 hh4 up4 => wpAny_throw (tk _ _ ?_)
          exact ⟨a, B, sI, pins, σ1, H1, cls, d, rfl, J, nb, (up.trans up3).trans up4, .inr (.inr (by rw [hs]; exact hh4)), na, os, ag, w⟩
        first
          | exact wpAny_bind (wpAny_pure (wpAny_bind fin))
          | exact wpAny_bind fin
      | @cons x n c i ts b0 su p1 p2 hs2 l2 hc hi hn hsu r ih =>
        intro w
        obtain ⟨b, hb1, hyes, hno⟩ := w
        refine wpAny_handleBy_cons (codeAny_handlers_test ?_) (by intro q; cases q)
        have LT : PySem.W.Looks (model X.prog X.w) h3 (typeOf (.ref a)) cls := fun A Q E s k q => wpAny_typeOf_ref (k _ _ he3) (by rw [hz3.1]; exact q)
        have LM := PySem.W.exm_one (M := model X.prog X.w) (J3.kIn) LT hb1
        have test : ∀ {Q : Value → Shared → Prop} {E : Value → Shared → Prop}, Q c { s' with heap := h3 } → wpAny (model X.prog X.w) (X.A.mark (some (.ref a))) (eval (.Name x p1) X.env) Q E { s' with heap := h3 } := fun {Q E} q => by
          obtain ⟨hg, hdbg, hm | ⟨hm, hv, hnn⟩⟩ := hc
          · exact ld_glob (X := X.suite a ((a, oe3) :: (X.pn ++ pins))) S3 hg hm q hdbg
          · exact ld_blt (X := X.suite a ((a, oe3) :: (X.pn ++ pins))) S3 hg hm hv q hnn hdbg
        refine test (LM.here ?_)
        cases b with
        | false =>
          show wpAny _ X.A (handleBy (.ref a) X.env hs2) _ _ _
          exact ih (hno rfl)
        | true =>
          refine codeAny_handlers_suite_as ?_
          refine HandSPX.lands_againZ fl3 fun h4 fl4 up4 => ?_
          have J4 : Inv X pins σ1 H1 { s' with heap := h4 } := J.landed nb fl4.1 ((up.trans up3).trans up4) os ag
          obtain ⟨oe4, vs4, he4, hz4, hd4⟩ := fl4.there
          have S4 := J4.suite he4 hd4 na nL nF
          refine store_ok (X := X.suite a ((a, oe4) :: (X.pn ++ pins))) (v := .ref a) S4 hN hi (.inl hn) rfl (fun s5 S5 => ?_) (.inr hn)
          have endq : ∀ {σ6 : L2.St} {H6 : Hp} {s6 : Shared} {Q : Shared → Prop}, Inv (X.suite a ((a, oe4) :: (X.pn ++ pins))) [] σ6 H6 s6 → (∀ s7, Inv X pins (σ6.set i none) H6 s7 → Q s7) →
              wpAny (model X.prog X.w) X.A (do bindName X.env n .none; unbindBehindTheSuite X.env n p2) (fun _ s7 => Q s7) X.xe s6 := fun {σ6 H6 s6 Q} S6 hq => gone_ok (S6.unsuite ok) hN hi hn hq
          refine wpAny_mono ((hsu a ((a, oe4) :: (X.pn ++ pins))).run [] s5 _ H1 _ S5 (hyes rfl a na)) (fun f s6 hsp => ?_) (fun _ _ z => False.elim z)
          cases f with
          | next =>
            obtain ⟨σ6, H6, S6, q6⟩ := hsp
            exact endq S6 fun s7 J7 => ⟨_, _, J7, q6⟩
          | brk =>
            obtain ⟨σ6, H6, S6, q6⟩ := hsp
            exact endq S6 fun s7 J7 => ⟨_, _, J7, q6⟩
          | cont =>
            obtain ⟨σ6, H6, S6, q6⟩ := hsp
            exact endq S6 fun s7 J7 => ⟨_, _, J7, q6⟩
          | ret u =>
            obtain ⟨v6, σ6, H6, S6, r6, q6⟩ := hsp
            exact endq S6 fun s7 J7 => ⟨_, _, _, J7, r6, q6⟩
    exact go hh w
/-! ### lambdas with or without one default, made -/
section
variable {X : Cx} {pins : List (Addr × Obj)} {σ : L2.St} {H : Hp} {s : Shared}
def ExtP (P : Addr) (H H' : Hp) : Prop := ∀ b o, H b = some o → b ≠ P → H' b = some o
abbrev lamQ (X : Cx) : Str := X.env.qual ++ "<lambda>"
theorem lam_tail {c P : Addr} {params : Arguments} {body : Expr} {scope : Scope} {pos : Pos} {dV : Value} {E : Value → Shared → Prop} {Q : Value → Shared → Prop} (I : Inv X pins σ H s) (TB : TabB X.base X.mg c P) (hcode : X.env.code = .ref c) (hT : TabS H P (lamQ X))
    (hfree : ∀ y ∈ scope.names, y.2 = .free → ∃ c, X.env.cells.lookup y.1 = some c)
    (h : ∀ (f c' : Addr) (doc pm ctv : Value) (H1 : Hp) (s' : Shared), Inv X pins σ H1 s' → ExtP P H H1 → TabS H1 P (lamQ X) → s'.heap.get? f = some (PySem.W.kdv_obj "<lambda>" (lamQ X) params (.expr body) scope (cloFrom X.env.cells scope.names []) dV doc pm c' ctv) →
      H1 f = none → f ∉ frs X.stack → H1 c' = some (CodeO c' (lamQ X)) → (∀ b o, s.heap.get? b = some o → b ≠ P → s'.heap.get? b = some o ∧ (H b = none → H1 b = none)) → Q (.ref f) s') :
    wpAny (model X.prog X.w) X.A (makeTail "<lambda>" (lamQ X) params (.expr body) scope X.env dV .none none pos pos.line) Q E s := by
  obtain ⟨ps, hP, ht, ha⟩ := id hT
  have bP : s.heap.BuiltinsAt X.mg P := TB.bm.keeps I.bk
  have hP' : s.heap.get? P = some { cls := .none, data := .fields ps } := I.hok P _ hP
  have nofr : ∀ f, s.heap.objs.size ≤ f → f ∉ frs X.stack := fun f hf z => by
    rcases List.mem_cons.mp (I.stkSub _ z) with e | e
    · have h1 := I.lt
      rw [← e] at h1
      exact Nat.lt_irrefl _ (Nat.lt_of_lt_of_le h1 hf)
    · exact I.nofs hf e
  cases hc : codeAmong pos ps.toList with
  | none =>
    refine PySem.W.kdv_makeTail (mg := X.mg) (c := c) (P := P) (ps := ps) (closure_ok hfree) I.ok.glob (I.mod.glob.keeps I.bk) hcode (TB.code.keeps I.bk) hP' ht hc TB.gP bP fun c' ctv doc h' tk hx hge hlt hrec htb => ?_
    obtain ⟨c2, oc, vs, t, e2, hoc, hd, hv⟩ := hrec
    cases e2
    have hsz : s.heap.objs.size ≤ h'.objs.size := Nat.le_trans hge (Nat.le_of_lt hlt)
    have nC : H c' = none := I.hok.fresh hge
    have I1 := inv_table (t' := tk) (more := #[rawInt pos.line, rawInt pos.col, .ref c']) (h' := h'.push (PySem.W.kdv_obj "<lambda>" (lamQ X) params (.expr body) scope (cloFrom X.env.cells scope.names []) dV doc ((X.mg "__name__").getD .none) c' ctv)) I hP
      (fun b o hb e => Heap.get?_push_of_some _ (hx b o hb e)) (Heap.get?_push_of_some _ htb) hge ⟨oc, vs, t, Heap.get?_push_of_some _ hoc, hd, hv⟩
    have eL : (ps ++ #[rawInt pos.line, rawInt pos.col, .ref c']).toList = ps.toList ++ [rawInt pos.line, rawInt pos.col, .ref c'] := by simp
    have hE : ExtP P H (upd (upd H P (.tbl (ps ++ #[rawInt pos.line, rawInt pos.col, .ref c']))) c' (CodeO c' (lamQ X))) := fun b o e n => by
      rw [upd_ne (ne_of_none e nC), upd_ne n]
      exact e
    have gone : ∀ b, b < s.heap.objs.size → b ≠ P → H b = none → upd (upd H P (.tbl (ps ++ #[rawInt pos.line, rawInt pos.col, .ref c']))) c' (CodeO c' (lamQ X)) b = none := fun b hb n e => by
      rw [upd_ne (show b ≠ c' by omega), upd_ne n]
      exact e
    have n1 : h'.objs.size ≠ c' := Nat.ne_of_gt hlt
    have n2 : h'.objs.size ≠ P := Nat.ne_of_gt (Nat.lt_of_lt_of_le (Heap.lt_size hP') hsz)
    refine h h'.objs.size c' doc ((X.mg "__name__").getD .none) ctv _ _ I1 hE ⟨_, by rw [upd_ne (ne_of_none hP nC), upd_same], by rw [eL]; exact PySem.TriplesOk_snoc _ _ _ _ ht, fun p' cv hcv => ?_⟩ (Heap.get?_push_size _ rfl) ?_ (nofr _ hsz) upd_same fun b o e n => ⟨Heap.get?_push_of_some _ (hx b o n e), gone b (Heap.lt_size e) n⟩
    · rw [eL] at hcv
      rcases among_app _ ht hcv with z | z
      · obtain ⟨c0, e1, e2⟩ := ha p' cv z
        exact ⟨c0, e1, hE _ _ e2 fun e => by rw [e, hP] at e2; exact codeO_ne ps (Option.some.inj e2).symm⟩
      · exact ⟨c', z, upd_same⟩
    · rw [upd_ne n1, upd_ne n2]
      exact I.hok.fresh hsz
  | some cv =>
    obtain ⟨c', e, hco⟩ := ha pos cv hc
    subst e
    refine PySem.W.kdv_makeTailHit (mg := X.mg) (c := c) (P := P) (ps := ps) (closure_ok hfree) I.ok.glob (I.mod.glob.keeps I.bk) hcode (TB.code.keeps I.bk) hP' ht hc bP fun ctv doc h' tk hx hsz => ?_
    have I1 : Inv X pins σ H { s with heap := h'.push (PySem.W.kdv_obj "<lambda>" (lamQ X) params (.expr body) scope (cloFrom X.env.cells scope.names []) dV doc ((X.mg "__name__").getD .none) c' ctv), toks := tk } := I.kept fun b o e => Heap.get?_push_of_some _ (hx b o e)
    exact h h'.objs.size c' doc ((X.mg "__name__").getD .none) ctv H _ I1 (fun _ _ e _ => e) hT (Heap.get?_push_size _ rfl) (I.hok.fresh hsz) (nofr _ hsz) hco fun b o e _ => ⟨Heap.get?_push_of_some _ (hx b o e), fun e => e⟩
/-! ### the lambda's names, its body entered -/
structure LamA (N : List Str) (sc scope : Scope) : Prop where
  kind : scope.kind = .function
  co : scope.isCoroutine = false
  gen : scope.isGenerator = false
  own : ∀ y ∈ scope.names, y.2 ≠ .cell ∧ (y.2 = .local → y.1 ∉ N)
  free : ∀ y ∈ scope.names, y.2 = .free → sc.names.lookup y.1 = some .cell ∨ sc.names.lookup y.1 = some .free
theorem LamA.has {scope : Scope} (L : LamA X.N X.env.scope scope) (ok : X.Ok) : ∀ y ∈ scope.names, y.2 = .free → ∃ c, X.env.cells.lookup y.1 = some c := fun y hy e => by
  rcases L.free y hy e with k | k
  · exact ok.has _ (.inl k)
  · exact ok.has _ (.inr k)
theorem lamA_start {HZ : Hp} {s1 : Shared} {A : Around} {outer : List Env} {E : XK} {scope : Scope} {f c' : Addr} {h1 : Heap} {tk : Nat} {bnd : List (Str × Value)} (I : Inv X pins σ H s) (L : LamA X.N X.env.scope scope) (e0 : Env0 X.prog X.w X.K X.mg X.base A outer s1 HZ) (hd : A.handled = none)
    (un : Un (frs X.stack) [] H HZ s.heap s1.heap) (hns : h1.Ns s1.heap.objs.size fun y => bnd.reverse.lookup y) (kp : ∀ b o, s1.heap.get? b = some o → h1.get? b = some o) : Inv (lamCx X A outer s1 HZ E scope f c') [] σ HZ { s1 with heap := h1, toks := tk } := by
  have hfree := L.has I.ok
  have back : ∀ {y c}, (cloFrom X.env.cells scope.names []).lookup y = some c → X.env.cells.lookup y = some c := fun {y c} e => by
    rcases cloFrom_mem (PySem.mem_of_lookup e) with hm | ⟨q1, q2⟩
    · cases hm
    · obtain ⟨c1, hc⟩ := hfree _ q1 rfl
      have hc : X.env.cells.lookup y = some c1 := hc
      have e2 : c = c1 := by rw [q2, hc] <;> rfl
      rw [e2]
      exact hc
  have look : ∀ {y}, scope.names.lookup y = some .free → ∃ c, (cloFrom X.env.cells scope.names []).lookup y = some c := fun {y} hl => mem_lookup (cloFrom_has (cells := X.env.cells) (acc := []) (PySem.mem_of_lookup hl))
  have cellK : ∀ {c : Addr} {v : Option Value}, H c = none → s.heap.IsCell c v → h1.IsCell c v := fun {c v} n ⟨o, ho, hd⟩ => by
    obtain ⟨sl, q⟩ := un.any ho n (by simp)
    exact ⟨_, kp _ _ q, hd⟩
  have noA : ∀ b : Addr, b ∉ (lamCx X A outer s1 HZ E scope f c').ex := fun b z => absurd (show b ∈ ([] : List Addr) from z) (by simp)
  refine ⟨⟨e0.mod, L.kind, rfl, rfl, Nat.le_refl _, fun y z c e1 e2 => I.ok.inj y z c (back e1) (back e2), fun y hy => ?_, fun y c z _ => ?_, fun _ => hd, Around.frames_deeper e0.frames, .inr ⟨rfl, rfl⟩, fun b z => absurd z (noA b), e0.bs, e0.bsz, fun b _ _ => noA b,
      fun b z => absurd z (noA b), e0.funs, e0.frf⟩,
    rfl, e0.bare, Un.kept kp, ⟨_, hns, fun i y v e1 e2 e3 => ?_⟩, fun y c e => ?_, e0.hok.fresh (Nat.le_refl _), fun y c e => ?_, fun q hq => absurd (show q ∈ ([] : List (Addr × Obj)) ++ [] from hq) (by simp), e0.hok.kept kp, I.len⟩
  · have hy : scope.names.lookup y = some .cell ∨ scope.names.lookup y = some .free := hy
    rcases hy with hy | hy
    · exact absurd rfl (L.own _ (PySem.mem_of_lookup hy)).1
    · exact look hy
  · have z : false = true := z
    cases z
  · have e3 : Vis scope y := e3
    rcases e3 with k | k | k
    · exact absurd (List.mem_of_getElem? e1) ((L.own _ (PySem.mem_of_lookup k)).2 rfl)
    · exact absurd rfl (L.own _ (PySem.mem_of_lookup k)).1
    · obtain ⟨m, hn, hl⟩ := I.loc
      have hvis : Vis X.env.scope y := (L.free _ (PySem.mem_of_lookup k) rfl).elim (fun k => .inr (.inl k)) (fun k => .inr (.inr k))
      obtain ⟨w', r, q⟩ := hl i y v e1 e2 hvis
      obtain ⟨c2, h2⟩ := look k
      refine ⟨w', r, .inr ⟨.inr k, c2, h2, ?_⟩⟩
      have c1 := back h2
      rcases q with ⟨k', _⟩ | ⟨_, c3, e', z⟩
      · have k' : X.env.scope.names.lookup y = some .local := k'
        rcases L.free _ (PySem.mem_of_lookup k) rfl with k2 | k2 <;> rw [show X.env.scope.names.lookup y = _ from k2] at k' <;> cases k'
      · rw [c1] at e'
        cases e'
        exact cellK (I.freeC y _ c1) z
  · obtain ⟨w', z⟩ := I.cell y c (back e)
    exact ⟨w', cellK (I.freeC y c (back e)) z⟩
  · obtain ⟨v, o, ho, hd⟩ := I.cell y c (back e)
    exact un.free c o ho (I.freeC y c (back e)) (by simp)
/-- work(), in the def that got the lambda -/
theorem pe_actA {CXg : CXT} {Eg : XK} {Ng : List Str} {qg : Str} {sg : Scope} {g f c' : Addr} {cdg doc pm ctv dV : Value} {params : Arguments} {body : Expr} {scope : Scope} {k i : Nat} {a : Str} {pn : List (Addr × Obj)} {xe : Value → Shared → Prop} {W : WX} {E : XK} {tb : TE} {p1 p2 : Pos} {bnd : List (Str × Value)}
    (I : Inv X pins σ H s) (L : LamA X.N X.env.scope scope) (hf : s.heap.get? f = some (PySem.W.kdv_obj "<lambda>" (lamQ X) params (.expr body) scope (cloFrom X.env.cells scope.names []) dV doc pm c' ctv)) (hfn : H f = none) (hfr : f ∉ frs X.stack)
    (hbind : ∀ s1 : Shared, (∀ b o, s.heap.get? b = some o → H b = none → b ∉ frs X.stack → s1.heap.get? b = some o) → BindsTo s1 (PySem.W.kdv_fn "<lambda>" (lamQ X) params (.expr body) scope (cloFrom X.env.cells scope.names []) dV doc pm (.ref c') ctv) ⟨[], []⟩ bnd) (hbl : ∀ y ∈ bnd, scope.names.lookup y.1 = some .local)
    (tk : Takes ((cxOf CXg X.prog X.w X.K X.mg X.base Ng qg sg g cdg X.A X.stack s H Eg).tr pn xe) W) (hW : ∀ cls d σ' H', E cls d H' → W cls d σ' H') (hr : Room (k + 1) (X.A.deeper (envOfC qg sg s.heap.objs.size g cdg)))
    (hbody : ∀ (A : Around) (outer : List Env) (s : Shared) (H : Hp), Room k (A.deeper (lamEnv X scope s.heap.objs.size f c')) → PE (lamCx X A outer s H E scope f c') body tb)
    (hN : Ng[i]? = some a) (hv : Vis sg a) (hd : (a == ("__debug__" : Str)) = false := by decide) (hcd : (a == ("__classdict__" : Str)) = false := by decide) :
    PE ((cxOf CXg X.prog X.w X.K X.mg X.base Ng qg sg g cdg X.A X.stack s H Eg).tr pn xe) (.Call (.Name a p1) [] [] p2)
      (fun σZ HZ Q => σZ[i]? = some (some (.ref f)) ∧ HZ c' = some (CodeO c' (lamQ X)) ∧ tb σ HZ Q) := by
  refine ⟨fun pinsZ sZ σZ HZ Q IZ h => ?_⟩
  obtain ⟨hs, hc, ht⟩ := h
  refine wpAny_Call_Name_kw (thn ((pe_var (pos := p1) (i := i) hN hv hd hcd).run pinsZ sZ σZ HZ (fun v H1 => v = .ref f ∧ H1 = HZ) IZ ⟨.ref f, hs, rfl, rfl⟩) fun u s1 ⟨v, H1, I1, r1, q1⟩ => ?_)
  obtain ⟨ev, eH⟩ := q1
  subst ev
  rw [eH] at I1
  obtain rfl : u = Value.ref f := r1
  have keep : ∀ b o, s.heap.get? b = some o → H b = none → b ∉ frs X.stack → s1.heap.get? b = some o := fun b o e n nf => I1.base.keep b o e n nf (fun z => nomatch (show b ∈ ([] : List Addr) from z))
  have of1 := keep f _ hf hfn hfr
  refine PySem.W.callWith_F0 ⟨_, _, _, _, of1⟩ ?_
  have un : Un (frs X.stack) [] H HZ s.heap s1.heap := I1.base
  obtain ⟨⟨oc, vs, t, hoc, hdc, hvc⟩, _, _⟩ := I1.hok c' _ hc
  have rc : codeAny (model X.prog X.w) (X.A.deeper (envOfC qg sg s.heap.objs.size g cdg)) (.call (.ref f) ⟨[], []⟩) (CR (L2.CX X.prog X.w) (envOfC qg sg s.heap.objs.size g cdg :: X.stack) X.prog X.w HZ s1 Q E) s1 := by
    refine PySem.W.kla_callFunE hr.depth of1 rfl L.co L.gen rfl ⟨c', oc, vs, t, rfl, hoc, hdc, hvc⟩ ?_
    refine hbind s1 keep _ _ _ _ ?_
    refine wpAny_newFunctionEnv (fun y hy => (L.own y hy).1) hbl (fun h1 hns hsb => ⟨I1.nolimit.fresh _ hsb, ?_⟩) L.kind
    show codeAny _ _ (.expr body (lamEnv X scope s1.heap.objs.size f c')) _ _
    have kp : ∀ b o, s1.heap.get? b = some o → h1.get? b = some o := fun b o e => hsb.extBut b o (Nat.ne_of_lt (Heap.lt_size e)) (Heap.get?_push_of_some _ e)
    have J : Inv (lamCx X (X.A.deeper (envOfC qg sg s.heap.objs.size g cdg)) (envOfC qg sg s.heap.objs.size g cdg :: X.stack) s1 HZ E scope f c') [] σ HZ { s1 with heap := h1, toks := s1.toks + bnd.length } :=
      lamA_start I L I1.env0 hr.hd un hns kp
    refine PySem.W.kla_codeExpr (wpAny_mono ((hbody _ _ s1 HZ (hr.deeper _)).run [] _ _ HZ Q J ht) (fun v s' hq => ?_) fun e s' hq => hq)
    obtain ⟨w', H', J', rv, q⟩ := hq
    exact ⟨w', H', J'.os, J'.bare, J'.base, J'.hok, rv, q⟩
  have hx : Passes (L2.CX X.prog X.w) ((cxOf CXg X.prog X.w X.K X.mg X.base Ng qg sg g cdg X.A X.stack s H Eg).tr pn xe) E := passes_call tk hW
  refine wpAny_call (codeAny_mono rc fun r s' hq => ?_)
  cases r with
  | error e => exact hx pinsZ σZ HZ s1 e s' I1 hq
  | ok fl =>
    cases fl with
    | ret u => exact I1.after hq
    | next => exact False.elim hq
    | brk => exact False.elim hq
    | cont => exact False.elim hq
/-- told: try: work() / except A as e: .. / except B as e: .. / except C as e: .. -/
def TTold3 (K : PySem.W.Frag) (l : List (Addr × Str)) : (XK → Hp → VK → Prop) → Hp → VK → Prop := fun tl H Q =>
  ∃ Ech : XK, (∀ cls d H', Ech cls d H' → ∃ C r, (C, r) ∈ l ∧ cls = .ref C ∧ Q (.str r) H') ∧ tl Ech H fun _ _ => False
end
end DX
end
section
set_option Elab.async false
set_option linter.all false
set_option maxRecDepth 100000
set_option maxHeartbeats 4000000
namespace DX
open PySem PySem.Spec PyProof.Rows L2 LamX
set_option autoImplicit false
/-! ### lambdas handed to a def that calls them and tells the error -/
def Tell3 (l : List (Addr × Str)) : (XK → Hp → VK → Prop) → Hp → VK → Prop := fun tl H Q =>
  ∃ Ech : XK, (∀ cls d H', Ech cls d H' → ∃ C r, (C, r) ∈ l ∧ cls = .ref C ∧ Q (.str r) H') ∧ ∀ Q' : VK, tl Ech H Q'
/-- how a lambda is made, whatever its defaults -/
def LamMk (X : Cx) (P : Addr) (params : Arguments) (body : Expr) (scope : Scope) (lpos : Pos) : Prop :=
  ∀ (pins : List (Addr × Obj)) (σ : L2.St) (H : Hp) (s : Shared) (E : Value → Shared → Prop) (Q : Value → Shared → Prop), Inv X pins σ H s → TabS H P (lamQ X) →
    (∀ (f c' : Addr) (doc pm ctv dV : Value) (bnd : List (Str × Value)) (H1 : Hp) (s' : Shared), Inv X pins σ H1 s' → ExtP P H H1 → TabS H1 P (lamQ X) → s'.heap.get? f = some (PySem.W.kdv_obj "<lambda>" (lamQ X) params (.expr body) scope (cloFrom X.env.cells scope.names []) dV doc pm c' ctv) →
      H1 f = none → f ∉ frs X.stack → H1 c' = some (CodeO c' (lamQ X)) → (∀ s1 : Shared, (∀ b o, s'.heap.get? b = some o → H1 b = none → b ∉ frs X.stack → s1.heap.get? b = some o) → BindsTo s1 (PySem.W.kdv_fn "<lambda>" (lamQ X) params (.expr body) scope (cloFrom X.env.cells scope.names []) dV doc pm (.ref c') ctv) ⟨[], []⟩ bnd) →
      (∀ y ∈ bnd, scope.names.lookup y.1 = some .local) → Q (.ref f) s') → wpAny (model X.prog X.w) X.A (eval (.Lambda params body scope lpos) X.env) Q E s
section
variable {X : Cx}
theorem lamMk0 {c P : Addr} {params : Arguments} {body : Expr} {scope : Scope} {lpos : Pos} (TB : TabB X.base X.mg c P) (hcode : X.env.code = .ref c) (L : LamA X.N X.env.scope scope) (hdef : defaultsOf params X.env = ([], []))
    (hb : ∀ (cl : List (Str × Addr)) (doc pm cv ctv : Value), bindArgs (PySem.W.kdv_fn "<lambda>" (lamQ X) params (.expr body) scope cl .none doc pm cv ctv) ⟨[], []⟩ = pure []) : LamMk X P params body scope lpos := by
  intro pins σ H s E Q I hT h
  refine PySem.W.kla_eval hdef ?_
  rw [makeFunction_eq]
  simp only [List.zip_nil_right, List.filterMap_nil, List.isEmpty_nil, if_true, pure_bind]
  refine lam_tail I TB hcode hT (L.has I.ok) fun f c' doc pm ctv H1 s' I1 e1 t1 hf nf nfr hc _ => ?_
  exact h f c' doc pm ctv .none [] H1 s' I1 e1 t1 hf nf nfr hc (fun s1 _ => .of_eq (hb _ _ _ _ _)) fun y hy => by cases hy
theorem lamMk1 {c P : Addr} {params : Arguments} {body : Expr} {scope : Scope} {lpos : Pos} {a : Str} {n : Int} {j} {dp : Pos} (TB : TabB X.base X.mg c P) (hcode : X.env.code = .ref c) (L : LamA X.N X.env.scope scope) (hdf : params.defaults = [.Constant (.int n) j dp]) (hkw : params.kw_defaults = [])
    (ha : scope.names.lookup a = some .local)
    (hb : ∀ (cl : List (Str × Addr)) (T : Addr) (doc pm cv ctv : Value), ∃ k : Option (Array Value) → Sem (List (Str × Value)), bindArgs (PySem.W.kdv_fn "<lambda>" (lamQ X) params (.expr body) scope cl (.ref T) doc pm cv ctv) ⟨[], []⟩ = seqItems? (.ref T) >>= k ∧ ∀ v : Value, k (some #[v]) = pure [(a, v)]) : LamMk X P params body scope lpos := by
  intro pins σ H s E Q I hT h
  refine PySem.W.kdv_lam (by rw [hdf]; rfl) hkw ?_
  rw [hdf]
  refine PySem.W.kdv_all1 (thn ((pe_int (X := X) (i := n) (j := j) (pos := dp)).run pins s σ H (fun v H1 => v = .int n ∧ H1 = H) I ⟨rfl, rfl⟩) fun u s1 ⟨v, H1, I1, r1, ev, eH⟩ => ?_)
  subst ev
  rw [eH] at I1
  refine PySem.W.kdv_all0 ?_
  rw [makeFunction_eq]
  simp only [List.zip_nil_right, List.filterMap_nil, List.isEmpty_nil, List.isEmpty_cons, Bool.false_eq_true, if_false, if_true, pure_bind]
  refine wpAny_bind (wpAny_newTextTuple ?_)
  have I2 : Inv X pins σ H { s1 with heap := s1.heap.push (PySem.W.kdv_tup [u]) } := I1.kept fun b o e => Heap.get?_push_of_some _ e
  have hg : (s1.heap.push (PySem.W.kdv_tup [u])).get? s1.heap.objs.size = some (PySem.W.kdv_tup [u]) := Heap.get?_push_size _ rfl
  have nT : H s1.heap.objs.size = none := I1.hok.fresh (Nat.le_refl _)
  have neP : s1.heap.objs.size ≠ P := fun e => by
    obtain ⟨ps, hP, _⟩ := hT
    rw [e, hP] at nT
    cases nT
  have nfr : s1.heap.objs.size ∉ frs X.stack := fun z => by
    rcases List.mem_cons.mp (I1.stkSub _ z) with e | e
    · have h1 := I1.lt
      rw [← e] at h1
      exact Nat.lt_irrefl _ h1
    · exact I1.nofs (Nat.le_refl _) e
  refine lam_tail I2 TB hcode hT (L.has I.ok) fun f c' doc pm ctv H1 s' I3 e1 t1 hf nf nfr2 hc kp => ?_
  obtain ⟨g1, g2⟩ := kp _ _ hg neP
  refine h f c' doc pm ctv (.ref s1.heap.objs.size) [(a, u)] H1 s' I3 e1 t1 hf nf nfr2 hc (fun s2 kk => ?_) fun y hy => ?_
  · obtain ⟨k, k1, k2⟩ := hb (cloFrom X.env.cells scope.names []) s1.heap.objs.size doc pm (.ref c') ctv
    exact BindsTo.of_defaults rfl (kk _ _ g1 (g2 nT) nfr) rfl k1 (k2 u)
  · rw [List.mem_singleton] at hy
    rw [hy]
    exact ha
def tLamP (P : Addr) (q : Str) (TT : (XK → Hp → VK → Prop) → Hp → VK → Prop) (t : XK → TE) : TE := fun σ H Q => TabS H P q ∧ ∀ H1, ExtP P H H1 → TabS H1 P q → TT (fun E H' Q' => t E σ H' Q') H1 Q
theorem pe_lamP {TT : (XK → Hp → VK → Prop) → Hp → VK → Prop} {x a : Str} {g P : Addr} {k : Nat} {st : Stmt} {fd : FuncData} {Ng : List Str} {params : Arguments} {body : Expr} {scope : Scope} {t : XK → TE} {p lpos pos : Pos} (hg : Gl X x) (hm : X.mg x = some (.ref g)) (F : Fun X.K x x st g fd) (hb : L2.Binds X.K fd [a] []) (Sg : FnScope Ng [a] (defScope st)) (hNg : Ng[0]? = some a) (hva : Vis (defScope st) a)
    (hG : ∀ cdv : Value, GivesTo X Ng x (defScope st) g cdv (defBody st) a (lamQ X) TT) (hmk : LamMk X P params body scope lpos) (hr : Room (k + 2) X.A) (L : LamA X.N X.env.scope scope)
    (hbody : ∀ (A : Around) (outer : List Env) (s : Shared) (H : Hp) (E : XK) (f c' : Addr), Room k (A.deeper (lamEnv X scope s.heap.objs.size f c')) → PE (lamCx X A outer s H E scope f c') body (t E))
    (hdb : (x == ("__debug__" : Str)) = false := by decide) (hd : (a == ("__debug__" : Str)) = false := by decide) (hcd : (a == ("__classdict__" : Str)) = false := by decide) :
    PE X (.Call (.Name x p) [.Lambda params body scope lpos] [] pos) (tLamP P (lamQ X) TT t) := by
  obtain ⟨oc, od, kV, doc0, pm0, an, cdv, ct, osl, rfl, lk, hcg⟩ := F.ex
  refine ⟨fun pins s σ H Q I h => ?_⟩
  obtain ⟨hT, h⟩ := h
  refine wpAny_Call_Name_kw (ld_glob I hg hm ?_ hdb)
  refine PySem.W.callWith_K (h₀ := X.base) I.ok.mod.kin F.kp ?_ (by rfl) (by rfl)
  show wpAny _ _ (spliced ((false, eval (.Lambda params body scope lpos) X.env) :: backTo pos (starEach [] X.env))) _ _ s
  refine Calls.spliced_cons (hmk pins σ H s _ _ I hT fun f c' doc pm ctv dV bnd H1 s' I1 e1 t1 hf nf nfr hco hbind hbl => ?_)
  refine Calls.spliced_nil ⟨I1.kIn, ?_⟩
  have rc : codeAny (model X.prog X.w) X.A (.call (.ref g) ⟨[.ref f], []⟩) (CR C8.CX0 X.stack X.prog X.w H1 s' Q C8.E0) s' := by
    refine run_ofS (N := Ng) (ps := [a]) (us := [.ref f]) (vs := [.ref f]) lk hcg Sg hr I1.env0 (hb s' [.ref f] I1.kIn rfl) (.cons rfl .nil) rfl fun hr' => ?_
    obtain ⟨t', ht', hq'⟩ := hG cdv f c' s' H1 Q (fun E H' Q' => t E σ H' Q') (fun W pn xe E p1 p2 tk hW => pe_actA (i := 0) I1 L hf nf nfr hbind hbl tk hW hr' (fun A outer s H hr2 => hbody A outer s H E f c' hr2) hNg hva hd hcd) hco (h H1 e1 t1)
    exact ⟨t', ht'.nox, hq'⟩
  refine wpAny_call (codeAny_mono rc fun r s2 hq => ?_)
  cases r with
  | error e => exact (show False from hq).elim
  | ok fl =>
    cases fl with
    | ret u => exact I1.after hq
    | next => exact False.elim hq
    | brk => exact False.elim hq
    | cont => exact False.elim hq
end
/-! over data -/
section
variable {X : Cx} {b : Bs} {S S1 : DS} {pos p lpos : Pos}
theorem setM_same {m : List (Addr × MO)} {a : Addr} {o : MO} (nd : (m.map (·.1)).Nodup) (h : (a, o) ∈ m) : setM m a o = m := by
  unfold setM
  have : ∀ q ∈ m, (if q.1 = a then (a, o) else q) = q := fun q hq => by
    by_cases e : q.1 = a
    · rw [if_pos e]
      obtain ⟨c, mo⟩ := q
      have e : c = a := e
      subst e
      have := uniqM (S := ⟨[], m⟩) nd h hq
      rw [this]
    · rw [if_neg e]
  rw [List.map_congr_left this, List.map_id']
theorem Rel.tabbed {σ : List (Option V)} {H H1 : Hp} {P : Addr} {q : Str} (r : Rel b S σ H) (hin : (P, MO.tab q) ∈ S.m) (e : ExtP P H H1) (t : TabS H1 P q) : Rel b S σ H1 ∧ Ex (hide (Hd b S) H) (hide (Hd b S) H1) := by
  have h := r.setm (H' := H1) (o' := .tab q) hin (fun c u h n => e c u h n) t
  have es : S.setm P (.tab q) = S := by
    unfold DS.setm
    rw [setM_same r.rm.nd hin]
  rw [es] at h
  exact h
/-- the reading of a lambda's body -/
def wEl (X : Cx) (k : Nat) (scope : Scope) (body : Expr) (E : XK) : TE := fun σ H Q => ∀ (A : Around) (outer : List Env) (s : Shared) (H0 : Hp) (f c' : Addr), Room k (A.deeper (lamEnv X scope s.heap.objs.size f c')) → wE (lamCx X A outer s H0 E scope f c') body σ H Q
/-- a call that ends in an error -/
theorem wE_err {EE : XK} {k : Nat} {fa : Addr} {fd : FuncData} {ps : List Str} {f : List PyData → Res → Prop} {nm : Str} {e : Expr} {es : List Expr} {ds : List PyData} {C : Addr} (F : FnOk X.prog X.w X.K X.mg X.base (L2.CX X.prog X.w) k fa fd ps (FX X.K f)) (hK : X.K = b.K) (hr : Room k X.A) (hm : X.mg nm = some (.ref fa)) (kp : PySem.W.keepIn X.K (.ref fa) = true) (hb : L2.Binds X.K fd ps []) (hx : Passes (L2.CX X.prog X.w) X EE)
    (ha : EA X b (e :: es) S (ds.map .d) S) (hf : f ds (.err C)) {σ : List (Option V)} {H : Hp} (r : Rel b S σ H) (hE : ∀ H', Rel b S σ H' → Ex (hide (Hd b S) H) (hide (Hd b S) H') → EE (.ref C) none H') {Q : VK} (hg : Gl X nm := by rfl) (hdb : (nm == ("__debug__" : Str)) = false := by decide)
    (he : starEach (e :: es) X.env = (false, eval e X.env) :: starEach es X.env := by rfl) (hpl : (backTo pos (starEach es X.env)).any (·.1) = false := by rfl) : wE X (.Call (.Name nm p) (e :: es) [] pos) σ H Q := by
  refine wE_of (pe_call F hr hg hm kp hb .nil hx (paW _) hdb he hpl) (ha σ H r _ fun vs H1 k1 r1 x1 a1 => ?_)
  show FX X.K f (vs ++ []) H1 Q EE
  rw [List.append_nil, hK]
  refine ⟨Hd b S, ds, _, r1.rm.tracked, vall_d k1, hf, fun d' e => (by cases e), fun C' e H2 x2 => ?_⟩
  cases e
  obtain ⟨r2, x3⟩ := r1.grow x2
  exact hE H2 r2 (x1.trans x3)
/-- told(lambda: ..) -/
theorem ev_tell {l : List (Addr × Str)} {x a : Str} {g P C : Addr} {r : Str} {k : Nat} {st : Stmt} {fd : FuncData} {Ng : List Str} {params : Arguments} {body : Expr} {scope : Scope} (hin : (P, MO.tab (lamQ X)) ∈ S.m) (hm : X.mg x = some (.ref g)) (F : Fun X.K x x st g fd) (hb : L2.Binds X.K fd [a] []) (Sg : FnScope Ng [a] (defScope st)) (hNg : Ng[0]? = some a) (hva : Vis (defScope st) a)
    (hG : ∀ cdv : Value, GivesTo X Ng x (defScope st) g cdv (defBody st) a (lamQ X) (Tell3 l)) (hmk : LamMk X P params body scope lpos) (hr : Room (k + 2) X.A) (L : LamA X.N X.env.scope scope) (hCl : (C, r) ∈ l)
    (hbody : ∀ (σ : List (Option V)) (H : Hp) (E : XK), Rel b S σ H → (∀ H', Rel b S σ H' → Ex (hide (Hd b S) H) (hide (Hd b S) H') → E (.ref C) none H') → ∀ Q : VK, wEl X k scope body E σ H Q) (hg : Gl X x := by rfl)
    (hdb : (x == ("__debug__" : Str)) = false := by decide) (hd : (a == ("__debug__" : Str)) = false := by decide) (hcd : (a == ("__classdict__" : Str)) = false := by decide) :
    EV X b (.Call (.Name x p) [.Lambda params body scope lpos] [] pos) S (.d (.str r)) S := by
  intro σ H rl Q q
  refine wE_of (pe_lamP (t := wEl X k scope body) hg hm F hb Sg hNg hva hG hmk hr L (fun A outer s H0 E f c' hr2 => ⟨fun pins s' σ' H' Q' I h => h A outer s H0 f c' hr2 pins s' I⟩) hdb hd hcd) ?_
  refine ⟨rl.rm.mem _ hin, fun H1 e1 t1 => ?_⟩
  obtain ⟨r1, x1⟩ := rl.tabbed hin e1 t1
  refine ⟨fun cls d H' => cls = .ref C ∧ Rel b S σ H' ∧ Ex (hide (Hd b S) H1) (hide (Hd b S) H'), fun cls d H' ⟨h1, h2, h3⟩ => ⟨C, r, hCl, h1, q _ H' (.str r) h2 (x1.trans h3) fun _ h => h⟩, fun Q' => ?_⟩
  exact hbody σ H1 _ r1 (fun H' h2 h3 => ⟨rfl, h2, h3⟩) Q'
/-- the lambda's names, looked at -/
def lamAB (N : List Str) (sc scope : Scope) : Bool := decide (scope.kind = .function) && !scope.isCoroutine && !scope.isGenerator && scope.names.all fun y => !decide (y.2 = .cell) && (!decide (y.2 = .local) || !decide (y.1 ∈ N)) && (!decide (y.2 = .free) || decide (sc.names.lookup y.1 = some .cell) || decide (sc.names.lookup y.1 = some .free))
theorem lamA_by {N : List Str} {sc scope : Scope} (h : lamAB N sc scope = true) : LamA N sc scope := by
  unfold lamAB at h
  simp only [Bool.and_eq_true, Bool.or_eq_true, Bool.not_eq_true', decide_eq_true_eq, decide_eq_false_iff_not, List.all_eq_true] at h
  obtain ⟨⟨⟨h1, h2⟩, h3⟩, h4⟩ := h
  refine ⟨h1, h2, h3, fun y hy => ⟨(h4 y hy).1.1, fun e => ?_⟩, fun y hy e => ?_⟩
  · rcases (h4 y hy).1.2 with z | z
    · exact absurd e z
    · exact z
  · rcases (h4 y hy).2 with (z | z) | z
    · exact absurd e z
    · exact .inl z
    · exact .inr z
end
end DX
end
section
set_option Elab.async false
set_option linter.all false
set_option maxRecDepth 100000
set_option maxHeartbeats 4000000
namespace K0
open PySem PySem.Spec PyProof.Rows L2 DX
set_option autoImplicit false
def topS (i : Nat) : Stmt := PySem.Challenge.pw_treespace_k00_whole_sums.main.body.getD i (.Pass ⟨0, 0, 0, 0⟩)
abbrev s_is_whole : Stmt := topS 2
abbrev N_is_whole : List Str := ["value"]
abbrev P_is_whole : List Str := ["value"]
theorem sc_is_whole : FnScope N_is_whole P_is_whole (defScope s_is_whole) := ⟨rfl, rfl, rfl, by decide +kernel, rfl, by decide +kernel, by decide +kernel⟩
abbrev s_is_pair : Stmt := topS 3
abbrev N_is_pair : List Str := ["value"]
abbrev P_is_pair : List Str := ["value"]
theorem sc_is_pair : FnScope N_is_pair P_is_pair (defScope s_is_pair) := ⟨rfl, rfl, rfl, by decide +kernel, rfl, by decide +kernel, by decide +kernel⟩
abbrev s_is_fraction : Stmt := topS 4
abbrev N_is_fraction : List Str := ["value", "top", "low"]
abbrev P_is_fraction : List Str := ["value"]
theorem sc_is_fraction : FnScope N_is_fraction P_is_fraction (defScope s_is_fraction) := ⟨rfl, rfl, rfl, by decide +kernel, rfl, by decide +kernel, by decide +kernel⟩
abbrev s_rises : Stmt := topS 5
abbrev N_rises : List Str := ["values", "value", "following"]
abbrev P_rises : List Str := ["values"]
theorem sc_rises : FnScope N_rises P_rises (defScope s_rises) := ⟨rfl, rfl, rfl, by decide +kernel, rfl, by decide +kernel, by decide +kernel⟩
abbrev s_reduced : Stmt := topS 12
abbrev N_reduced : List Str := ["top", "low", "common"]
abbrev P_reduced : List Str := ["top", "low"]
theorem sc_reduced : FnScope N_reduced P_reduced (defScope s_reduced) := ⟨rfl, rfl, rfl, by decide +kernel, rfl, by decide +kernel, by decide +kernel⟩
abbrev s_fraction_plus : Stmt := topS 13
abbrev N_fraction_plus : List Str := ["one", "other"]
abbrev P_fraction_plus : List Str := ["one", "other"]
theorem sc_fraction_plus : FnScope N_fraction_plus P_fraction_plus (defScope s_fraction_plus) := ⟨rfl, rfl, rfl, by decide +kernel, rfl, by decide +kernel, by decide +kernel⟩
abbrev s_fraction_times : Stmt := topS 14
abbrev N_fraction_times : List Str := ["one", "other"]
abbrev P_fraction_times : List Str := ["one", "other"]
theorem sc_fraction_times : FnScope N_fraction_times P_fraction_times (defScope s_fraction_times) := ⟨rfl, rfl, rfl, by decide +kernel, rfl, by decide +kernel, by decide +kernel⟩
abbrev s_square_split : Stmt := topS 15
abbrev N_square_split : List Str := ["number", "outside", "radicand", "rest", "factor", "last"]
abbrev P_square_split : List Str := ["number"]
theorem sc_square_split : FnScope N_square_split P_square_split (defScope s_square_split) := ⟨rfl, rfl, rfl, by decide +kernel, rfl, by decide +kernel, by decide +kernel⟩
abbrev s_collected : Stmt := topS 16
abbrev N_collected : List Str := ["pairs", "parts", "radicand", "part"]
abbrev P_collected : List Str := ["pairs"]
theorem sc_collected : FnScope N_collected P_collected (defScope s_collected) := ⟨rfl, rfl, rfl, by decide +kernel, rfl, by decide +kernel, by decide +kernel⟩
abbrev s_root_sum : Stmt := topS 17
abbrev N_root_sum : List Str := ["one", "top", "low", "outside", "radicand", "low_outside", "low_radicand"]
abbrev P_root_sum : List Str := ["one"]
theorem sc_root_sum : FnScope N_root_sum P_root_sum (defScope s_root_sum) := ⟨rfl, rfl, rfl, by decide +kernel, rfl, by decide +kernel, by decide +kernel⟩
abbrev s_sum_plus : Stmt := topS 18
abbrev N_sum_plus : List Str := ["one", "other"]
abbrev P_sum_plus : List Str := ["one", "other"]
theorem sc_sum_plus : FnScope N_sum_plus P_sum_plus (defScope s_sum_plus) := ⟨rfl, rfl, rfl, by decide +kernel, rfl, by decide +kernel, by decide +kernel⟩
abbrev s_pair_times : Stmt := topS 19
abbrev N_pair_times : List Str := ["one", "other", "common", "radicand"]
abbrev P_pair_times : List Str := ["one", "other"]
theorem sc_pair_times : FnScope N_pair_times P_pair_times (defScope s_pair_times) := ⟨rfl, rfl, rfl, by decide +kernel, rfl, by decide +kernel, by decide +kernel⟩
abbrev s_sum_times : Stmt := topS 20
abbrev N_sum_times : List Str := ["one", "other", "part", "by"]
abbrev P_sum_times : List Str := ["one", "other"]
theorem sc_sum_times : FnScope N_sum_times P_sum_times (defScope s_sum_times) := ⟨rfl, rfl, rfl, by decide +kernel, rfl, by decide +kernel, by decide +kernel⟩
abbrev s_over_one_low : Stmt := topS 21
abbrev N_over_one_low : List Str := ["one", "low", "_", "part", "radicand", "top", "part_low"]
abbrev P_over_one_low : List Str := ["one"]
theorem sc_over_one_low : FnScope N_over_one_low P_over_one_low (defScope s_over_one_low) := ⟨rfl, rfl, rfl, by decide +kernel, rfl, by decide +kernel, by decide +kernel⟩
abbrev s_between : Stmt := topS 22
abbrev N_between : List Str := ["parts", "bits", "below", "above", "radicand", "factor", "square", "under", "over"]
abbrev P_between : List Str := ["parts", "bits"]
theorem sc_between : FnScope N_between P_between (defScope s_between) := ⟨rfl, rfl, rfl, by decide +kernel, rfl, by decide +kernel, by decide +kernel⟩
abbrev s_sum_sign : Stmt := topS 23
abbrev N_sum_sign : List Str := ["one", "parts", "bits", "below", "above"]
abbrev P_sum_sign : List Str := ["one"]
theorem sc_sum_sign : FnScope N_sum_sign P_sum_sign (defScope s_sum_sign) := ⟨rfl, rfl, rfl, by decide +kernel, rfl, by decide +kernel, by decide +kernel⟩
abbrev s_sum_figures : Stmt := topS 24
abbrev N_sum_figures : List Str := ["one", "bits", "low", "parts", "extra", "below", "above", "figure"]
abbrev P_sum_figures : List Str := ["one", "bits"]
theorem sc_sum_figures : FnScope N_sum_figures P_sum_figures (defScope s_sum_figures) := ⟨rfl, rfl, rfl, by decide +kernel, rfl, by decide +kernel, by decide +kernel⟩
abbrev s_is_sum_pair : Stmt := topS 31
abbrev N_is_sum_pair : List Str := ["value", "radicand", "part"]
abbrev P_is_sum_pair : List Str := ["value"]
theorem sc_is_sum_pair : FnScope N_is_sum_pair P_is_sum_pair (defScope s_is_sum_pair) := ⟨rfl, rfl, rfl, by decide +kernel, rfl, by decide +kernel, by decide +kernel⟩
abbrev s_is_sum : Stmt := topS 32
abbrev N_is_sum : List Str := ["value", "radicands", "pair", "radicand"]
abbrev P_is_sum : List Str := ["value"]
theorem sc_is_sum : FnScope N_is_sum P_is_sum (defScope s_is_sum) := ⟨rfl, rfl, rfl, by decide +kernel, rfl, by decide +kernel, by decide +kernel⟩
abbrev s_check_sum : Stmt := topS 33
abbrev N_check_sum : List Str := ["value"]
abbrev P_check_sum : List Str := ["value"]
theorem sc_check_sum : FnScope N_check_sum P_check_sum (defScope s_check_sum) := ⟨rfl, rfl, rfl, by decide +kernel, rfl, by decide +kernel, by decide +kernel⟩
abbrev s_root : Stmt := topS 34
abbrev N_root : List Str := ["one", "top", "low"]
abbrev P_root : List Str := ["one"]
theorem sc_root : FnScope N_root P_root (defScope s_root) := ⟨rfl, rfl, rfl, by decide +kernel, rfl, by decide +kernel, by decide +kernel⟩
abbrev s_plus : Stmt := topS 35
abbrev N_plus : List Str := ["one", "other"]
abbrev P_plus : List Str := ["one", "other"]
theorem sc_plus : FnScope N_plus P_plus (defScope s_plus) := ⟨rfl, rfl, rfl, by decide +kernel, rfl, by decide +kernel, by decide +kernel⟩
abbrev s_times : Stmt := topS 36
abbrev N_times : List Str := ["one", "other"]
abbrev P_times : List Str := ["one", "other"]
theorem sc_times : FnScope N_times P_times (defScope s_times) := ⟨rfl, rfl, rfl, by decide +kernel, rfl, by decide +kernel, by decide +kernel⟩
abbrev s_sign : Stmt := topS 37
abbrev N_sign : List Str := ["one"]
abbrev P_sign : List Str := ["one"]
theorem sc_sign : FnScope N_sign P_sign (defScope s_sign) := ⟨rfl, rfl, rfl, by decide +kernel, rfl, by decide +kernel, by decide +kernel⟩
abbrev s_figures : Stmt := topS 38
abbrev N_figures : List Str := ["one", "bits"]
abbrev P_figures : List Str := ["one", "bits"]
theorem sc_figures : FnScope N_figures P_figures (defScope s_figures) := ⟨rfl, rfl, rfl, by decide +kernel, rfl, by decide +kernel, by decide +kernel⟩
abbrev s_law_taken : Stmt := topS 40
abbrev N_law_taken : List Str := ["row", "many", "cell", "found"]
abbrev P_law_taken : List Str := ["row", "many"]
theorem sc_law_taken : FnScope N_law_taken P_law_taken (defScope s_law_taken) := ⟨rfl, rfl, rfl, by decide +kernel, rfl, by decide +kernel, by decide +kernel⟩
abbrev s_law_pick : Stmt := topS 41
abbrev N_law_pick : List Str := ["row", "things"]
abbrev P_law_pick : List Str := ["row", "things"]
theorem sc_law_pick : FnScope N_law_pick P_law_pick (defScope s_law_pick) := ⟨rfl, rfl, rfl, by decide +kernel, rfl, by decide +kernel, by decide +kernel⟩
abbrev s_law_alike : Stmt := topS 42
abbrev N_law_alike : List Str := ["found", "due", "k"]
abbrev P_law_alike : List Str := ["found", "due"]
theorem sc_law_alike : FnScope N_law_alike P_law_alike (defScope s_law_alike) := ⟨rfl, rfl, rfl, by decide +kernel, rfl, by decide +kernel, by decide +kernel⟩
abbrev s_law_fr : Stmt := topS 43
abbrev N_law_fr : List Str := ["top", "low", "a", "b"]
abbrev P_law_fr : List Str := ["top", "low"]
theorem sc_law_fr : FnScope N_law_fr P_law_fr (defScope s_law_fr) := ⟨rfl, rfl, rfl, by decide +kernel, rfl, by decide +kernel, by decide +kernel⟩
abbrev s_law_plus : Stmt := topS 44
abbrev N_law_plus : List Str := ["one", "other"]
abbrev P_law_plus : List Str := ["one", "other"]
theorem sc_law_plus : FnScope N_law_plus P_law_plus (defScope s_law_plus) := ⟨rfl, rfl, rfl, by decide +kernel, rfl, by decide +kernel, by decide +kernel⟩
abbrev s_law_times : Stmt := topS 45
abbrev N_law_times : List Str := ["one", "other"]
abbrev P_law_times : List Str := ["one", "other"]
theorem sc_law_times : FnScope N_law_times P_law_times (defScope s_law_times) := ⟨rfl, rfl, rfl, by decide +kernel, rfl, by decide +kernel, by decide +kernel⟩
abbrev s_law_floor_root : Stmt := topS 46
abbrev N_law_floor_root : List Str := ["number", "low", "high", "middle"]
abbrev P_law_floor_root : List Str := ["number"]
theorem sc_law_floor_root : FnScope N_law_floor_root P_law_floor_root (defScope s_law_floor_root) := ⟨rfl, rfl, rfl, by decide +kernel, rfl, by decide +kernel, by decide +kernel⟩
abbrev s_law_side : Stmt := topS 47
abbrev N_law_side : List Str := ["number", "side", "rest", "part", "whole"]
abbrev P_law_side : List Str := ["number"]
theorem sc_law_side : FnScope N_law_side P_law_side (defScope s_law_side) := ⟨rfl, rfl, rfl, by decide +kernel, rfl, by decide +kernel, by decide +kernel⟩
abbrev s_law_root : Stmt := topS 48
abbrev N_law_root : List Str := ["one", "side", "rest"]
abbrev P_law_root : List Str := ["one"]
theorem sc_law_root : FnScope N_law_root P_law_root (defScope s_law_root) := ⟨rfl, rfl, rfl, by decide +kernel, rfl, by decide +kernel, by decide +kernel⟩
abbrev s_law_of : Stmt := topS 49
abbrev N_law_of : List Str := ["one"]
abbrev P_law_of : List Str := ["one"]
theorem sc_law_of : FnScope N_law_of P_law_of (defScope s_law_of) := ⟨rfl, rfl, rfl, by decide +kernel, rfl, by decide +kernel, by decide +kernel⟩
abbrev s_law_add : Stmt := topS 50
abbrev N_law_add : List Str := ["one", "other", "many", "found", "radicand", "part"]
abbrev P_law_add : List Str := ["one", "other", "many"]
theorem sc_law_add : FnScope N_law_add P_law_add (defScope s_law_add) := ⟨rfl, rfl, rfl, by decide +kernel, rfl, by decide +kernel, by decide +kernel⟩
abbrev s_law_multiply : Stmt := topS 51
abbrev N_law_multiply : List Str := ["one", "other", "found", "first", "part", "second", "more", "a", "b"]
abbrev P_law_multiply : List Str := ["one", "other"]
theorem sc_law_multiply : FnScope N_law_multiply P_law_multiply (defScope s_law_multiply) := ⟨rfl, rfl, rfl, by decide +kernel, rfl, by decide +kernel, by decide +kernel⟩
abbrev s_law_span : Stmt := topS 52
abbrev N_law_span : List Str := ["one", "many", "low", "high", "radicand", "part", "top", "floor"]
abbrev P_law_span : List Str := ["one", "many"]
theorem sc_law_span : FnScope N_law_span P_law_span (defScope s_law_span) := ⟨rfl, rfl, rfl, by decide +kernel, rfl, by decide +kernel, by decide +kernel⟩
abbrev s_law_sign : Stmt := topS 53
abbrev N_law_sign : List Str := ["one", "many", "low", "high"]
abbrev P_law_sign : List Str := ["one"]
theorem sc_law_sign : FnScope N_law_sign P_law_sign (defScope s_law_sign) := ⟨rfl, rfl, rfl, by decide +kernel, rfl, by decide +kernel, by decide +kernel⟩
abbrev s_law_drawn : Stmt := topS 54
abbrev N_law_drawn : List Str := ["row", "found", "turn", "top", "part"]
abbrev P_law_drawn : List Str := ["row"]
theorem sc_law_drawn : FnScope N_law_drawn P_law_drawn (defScope s_law_drawn) := ⟨rfl, rfl, rfl, by decide +kernel, rfl, by decide +kernel, by decide +kernel⟩
abbrev s_law_told : Stmt := topS 55
abbrev N_law_told : List Str := ["work", "e"]
abbrev P_law_told : List Str := ["work"]
theorem sc_law_told : FnScope N_law_told P_law_told (defScope s_law_told) := ⟨rfl, rfl, rfl, by decide +kernel, rfl, by decide +kernel, by decide +kernel⟩
abbrev s_law : Stmt := topS 56
abbrev N_law : List Str := ["script", "row", "top", "low", "one", "first", "second", "gap", "bits", "found", "power", "turn", "odd", "bad", "wrong", "words"]
abbrev P_law : List Str := ["script"]
theorem sc_law : FnScope N_law P_law (defScope s_law) := ⟨rfl, rfl, rfl, by decide +kernel, rfl, by decide +kernel, by decide +kernel⟩
structure Tx (K : PySem.W.Frag) (mg : Str → Option Value) where
  d_is_whole : Def1 K mg "is_whole" s_is_whole P_is_whole
  d_is_pair : Def1 K mg "is_pair" s_is_pair P_is_pair
  d_is_fraction : Def1 K mg "is_fraction" s_is_fraction P_is_fraction
  d_rises : Def1 K mg "rises" s_rises P_rises
  d_reduced : Def1 K mg "reduced" s_reduced P_reduced
  d_fraction_plus : Def1 K mg "fraction_plus" s_fraction_plus P_fraction_plus
  d_fraction_times : Def1 K mg "fraction_times" s_fraction_times P_fraction_times
  d_square_split : Def1 K mg "square_split" s_square_split P_square_split
  d_collected : Def1 K mg "collected" s_collected P_collected
  d_root_sum : Def1 K mg "root_sum" s_root_sum P_root_sum
  d_sum_plus : Def1 K mg "sum_plus" s_sum_plus P_sum_plus
  d_pair_times : Def1 K mg "pair_times" s_pair_times P_pair_times
  d_sum_times : Def1 K mg "sum_times" s_sum_times P_sum_times
  d_over_one_low : Def1 K mg "over_one_low" s_over_one_low P_over_one_low
  d_between : Def1 K mg "between" s_between P_between
  d_sum_sign : Def1 K mg "sum_sign" s_sum_sign P_sum_sign
  d_sum_figures : Def1 K mg "sum_figures" s_sum_figures P_sum_figures
  d_is_sum_pair : Def1 K mg "is_sum_pair" s_is_sum_pair P_is_sum_pair
  d_is_sum : Def1 K mg "is_sum" s_is_sum P_is_sum
  d_check_sum : Def1 K mg "check_sum" s_check_sum P_check_sum
  d_root : Def1 K mg "root" s_root P_root
  d_plus : Def1 K mg "plus" s_plus P_plus
  d_times : Def1 K mg "times" s_times P_times
  d_sign : Def1 K mg "sign" s_sign P_sign
  d_figures : Def1 K mg "figures" s_figures P_figures
  d_law_taken : Def1 K mg "_law_taken" s_law_taken P_law_taken
  d_law_pick : Def1 K mg "_law_pick" s_law_pick P_law_pick
  d_law_alike : Def1 K mg "_law_alike" s_law_alike P_law_alike
  d_law_fr : Def1 K mg "_law_fr" s_law_fr P_law_fr
  d_law_plus : Def1 K mg "_law_plus" s_law_plus P_law_plus
  d_law_times : Def1 K mg "_law_times" s_law_times P_law_times
  d_law_floor_root : Def1 K mg "_law_floor_root" s_law_floor_root P_law_floor_root
  d_law_side : Def1 K mg "_law_side" s_law_side P_law_side
  d_law_root : Def1 K mg "_law_root" s_law_root P_law_root
  d_law_of : Def1 K mg "_law_of" s_law_of P_law_of
  d_law_add : Def1 K mg "_law_add" s_law_add P_law_add
  d_law_multiply : Def1 K mg "_law_multiply" s_law_multiply P_law_multiply
  d_law_span : Def1 K mg "_law_span" s_law_span P_law_span
  d_law_sign : Def1 K mg "_law_sign" s_law_sign P_law_sign
  d_law_drawn : Def1 K mg "_law_drawn" s_law_drawn P_law_drawn
  d_law_told : Def1 K mg "_law_told" s_law_told P_law_told
  d_law : Def1 K mg "law" s_law P_law
  c_TreeError : Addr
  m_TreeError : mg "TreeError" = some (.ref c_TreeError)
  c_BadFraction : Addr
  m_BadFraction : mg "BadFraction" = some (.ref c_BadFraction)
  c_BadSum : Addr
  m_BadSum : mg "BadSum" = some (.ref c_BadSum)
  c_BadNumber : Addr
  m_BadNumber : mg "BadNumber" = some (.ref c_BadNumber)
  i_gcd : mg "gcd" = some (.builtin "math.gcd")
  i_isqrt : mg "isqrt" = some (.builtin "math.isqrt")
  i_lcm : mg "lcm" = some (.builtin "math.lcm")
  g_ROOT_MOST : ∃ t, mg "ROOT_MOST" = some (Value.int (10 ^ 9) t)
  g_ROOT_MOST_LOW : ∃ t, mg "ROOT_MOST_LOW" = some (Value.int (1000) t)
  g_SUM_MOST_PAIRS : ∃ t, mg "SUM_MOST_PAIRS" = some (Value.int (20) t)
  g_SUM_MOST_RADICAND : ∃ t, mg "SUM_MOST_RADICAND" = some (Value.int (10 ^ 15) t)
  g_FIGURES_MOST_BITS : ∃ t, mg "FIGURES_MOST_BITS" = some (Value.int (200) t)
  n_ValueError : mg "ValueError" = none
  n_all : mg "all" = none
  n_bool : mg "bool" = none
  n_int : mg "int" = none
  n_isinstance : mg "isinstance" = none
  n_len : mg "len" = none
  n_list : mg "list" = none
  n_max : mg "max" = none
  n_min : mg "min" = none
  n_range : mg "range" = none
  n_sorted : mg "sorted" = none
  n_str : mg "str" = none
  n_tuple : mg "tuple" = none
  n_zip : mg "zip" = none
end K0
end
section
set_option Elab.async false
set_option linter.all false
set_option maxRecDepth 100000
set_option maxHeartbeats 4000000
set_option exponentiation.threshold 100000
namespace K0
open PySem PySem.Spec PyProof.Rows L2 DX
set_option autoImplicit false
/-! mathematics -/
def frD (p : Int × Int) : PyData := .tuple [.int p.1, .int p.2]
def red (t l : Int) : Int × Int := (t / (Nat.gcd t.natAbs l.natAbs : Nat), l / (Nat.gcd t.natAbs l.natAbs : Nat))
def Sz (n : Nat) (i : Int) : Prop := i.natAbs < 2 ^ n
theorem Sz.mul {a b : Nat} {i j : Int} (h : Sz a i) (g : Sz b j) : Sz (a + b) (i * j) := wide_lt h g
theorem Sz.mono {a b : Nat} {i : Int} (h : Sz a i) (g : a ≤ b) : Sz b i := Nat.lt_of_lt_of_le h (Nat.pow_le_pow_right (by decide) g)
theorem Sz.add {a : Nat} {i j : Int} (h : Sz a i) (g : Sz a j) : Sz (a + 1) (i + j) := by
  unfold Sz at *
  rw [Nat.pow_succ]
  omega
theorem Sz.cm {a b : Nat} {i j : Int} (h : Sz a i) (g : Sz b j) (hab : a + b ≤ 134217728) : CMulX i j := mulx_ok h g hab
theorem Sz.dv {a : Nat} {i j : Int} (h0 : 0 < j) (h : Sz a j) (ha : a ≤ 9000) (h1 : 0 < a) : CDivW i j := wide_div h0 h h1 ha
/-- reduced: of ints within 2 ^ 8000, low above 0 -/
def r_reduced (ds : List PyData) (d : PyData) : Prop := ∃ t l, ds = [.int t, .int l] ∧ 0 < l ∧ Sz 8000 l ∧ d = frD (red t l)
section
variable {P : Program} {w : World} {K : PySem.W.Frag} {mg : Str → Option Value} {base : Heap}
theorem ok_reduced (T : Tx K mg) : FnOk P w K mg base CX0 1 T.d_reduced.fa T.d_reduced.fd P_reduced (FP K r_reduced) := by
  refine fp_ok T.d_reduced.F sc_reduced (fun ds d h => ?_) fun cdv A outer s H E b hK hr ds d h => ?_
  · obtain ⟨t, l, rfl, _⟩ := h
    rfl
  · obtain ⟨t, l, rfl, h0, hl, rfl⟩ := h
    have hg : (0 : Int) < ((Nat.gcd t.natAbs l.natAbs : Nat) : Int) := by
      have : 0 < Nat.gcd t.natAbs l.natAbs := Nat.gcd_pos_of_pos_right _ (by omega)
      omega
    have hgs : Sz 8000 ((Nat.gcd t.natAbs l.natAbs : Nat) : Int) := Nat.lt_of_le_of_lt (by rw [Int.natAbs_natCast]; exact Nat.le_of_dvd (by omega) (Nat.gcd_dvd_right _ _)) hl
    refine sx_cons (sy_asg (i := 2) (ev_callF cr_gcd rfl T.i_gcd (ea_cons (vn 0) (ea_cons (vn 1) ea_nil)) rc_gcd) sc_reduced.nd rfl (.inl rfl) li ?_)
    refine sx_one (sy_retF (ev_tup (ds := [_, _]) (ea_cons (ev_fdiv (vn 0) (vn 2) ?_) (ea_cons (ev_fdiv (vn 1) (vn 2) ?_) ea_nil)) lq))
    · exact hgs.dv hg (by decide) (by decide)
    · exact hgs.dv hg (by decide) (by decide)
/-- fractions: below 2 ^ n, low above 0 -/
def Fr (n : Nat) (p : Int × Int) : Prop := 0 < p.2 ∧ Sz n p.1 ∧ Sz n p.2
def fadd (p q : Int × Int) : Int × Int := red (p.1 * q.2 + q.1 * p.2) (p.2 * q.2)
def fmul (p q : Int × Int) : Int × Int := red (p.1 * q.1) (p.2 * q.2)
def r_fplus (ds : List PyData) (d : PyData) : Prop := ∃ p q, ds = [frD p, frD q] ∧ Fr 3000 p ∧ Fr 3000 q ∧ d = frD (fadd p q)
def r_ftimes (ds : List PyData) (d : PyData) : Prop := ∃ p q, ds = [frD p, frD q] ∧ Fr 3000 p ∧ Fr 3000 q ∧ d = frD (fmul p q)
theorem ok_fraction_plus (T : Tx K mg) : FnOk P w K mg base CX0 2 T.d_fraction_plus.fa T.d_fraction_plus.fd P_fraction_plus (FP K r_fplus) := by
  refine fp_ok T.d_fraction_plus.F sc_fraction_plus (fun ds d h => ?_) fun cdv A outer s H E b hK hr ds d h => ?_
  · obtain ⟨p, q, rfl, _⟩ := h
    rfl
  · obtain ⟨p, q, rfl, ⟨p1, p2, p3⟩, ⟨q1, q2, q3⟩, rfl⟩ := h
    refine sx_one (sy_retF (ev_call (ok_reduced T) hK.symm hr rfl T.d_reduced.m T.d_reduced.F.kp T.d_reduced.b pass0 (ds := [_, _]) (ea_cons (ev_add (ev_mul (ev_ixT hK.symm (vn 0) ev_int rfl) (ev_ixT hK.symm (vn 1) ev_int rfl) ?_) (ev_mul (ev_ixT hK.symm (vn 1) ev_int rfl) (ev_ixT hK.symm (vn 0) ev_int rfl) ?_)) (ea_cons (ev_mul (ev_ixT hK.symm (vn 0) ev_int rfl) (ev_ixT hK.symm (vn 1) ev_int rfl) ?_) ea_nil)) ?_))
    · exact p2.cm q3 (by decide)
    · exact q2.cm p3 (by decide)
    · exact p3.cm q3 (by decide)
    · exact ⟨_, _, rfl, Int.mul_pos p1 q1, (p3.mul q3).mono (by decide), rfl⟩
end
end K0
end
section
set_option Elab.async false
set_option linter.all false
set_option maxRecDepth 100000
set_option maxHeartbeats 4000000
set_option exponentiation.threshold 100000
namespace K0
open PySem PySem.Spec PyProof.Rows L2 DX
set_option autoImplicit false
/-! checks -/
def isWhole : PyData → Bool
  | .int _ => true
  | _ => false
def isPair : PyData → Bool
  | .tuple [_, _] => true
  | _ => false
def isFrac : PyData → Bool
  | .tuple [.int t, .int l] => decide (0 < l) && decide (((Nat.gcd t.natAbs l.natAbs : Nat) : Int) = 1)
  | _ => false
theorem isWhole_eq (x : PyData) : (isInst x "int" && !isInst x "bool") = isWhole x := by
  cases x <;> rfl
def r_of (g : PyData → Bool) (ds : List PyData) (d : PyData) : Prop := ∃ x, ds = [x] ∧ d = .bool (g x)
theorem Str.isInt : bootBuiltins "int" = some (.type "int") := by decide +kernel
theorem Str.isBool : bootBuiltins "bool" = some (.type "bool") := by decide +kernel
theorem Str.isTuple : bootBuiltins "tuple" = some (.type "tuple") := by decide +kernel
theorem isFrac_inv {x : PyData} (h : isFrac x = true) : ∃ t l, x = .tuple [.int t, .int l] ∧ 0 < l ∧ Nat.gcd t.natAbs l.natAbs = 1 := by
  unfold isFrac at h
  split at h
  · rename_i t l
    rw [Bool.and_eq_true] at h
    have := of_decide_eq_true h.2
    exact ⟨t, l, rfl, of_decide_eq_true h.1, by omega⟩
  · cases h
section
variable {P : Program} {w : World} {K : PySem.W.Frag} {mg : Str → Option Value} {base : Heap}
theorem ok_is_whole (T : Tx K mg) : FnOk P w K mg base CX0 1 T.d_is_whole.fa T.d_is_whole.fd P_is_whole (FP K (r_of isWhole)) := by
  refine fp_ok T.d_is_whole.F sc_is_whole (fun ds d h => ?_) fun cdv A outer s H E b hK hr ds d h => ?_
  · obtain ⟨x, rfl, _⟩ := h
    rfl
  · obtain ⟨x, rfl, rfl⟩ := h
    rw [← isWhole_eq]
    exact sx_one (sy_retF (ev_and (ev_isi hK.symm rfl T.n_isinstance rfl T.n_int Str.isInt (.inl rfl) (vn 0)) fun _ => (ev_one (ev_not (ev_isi hK.symm rfl T.n_isinstance rfl T.n_bool Str.isBool (.inr (.inl rfl)) (vn 0))))))
theorem ok_is_pair (T : Tx K mg) : FnOk P w K mg base CX0 1 T.d_is_pair.fa T.d_is_pair.fd P_is_pair (FP K (r_of isPair)) := by
  refine fp_ok T.d_is_pair.F sc_is_pair (fun ds d h => ?_) fun cdv A outer s H E b hK hr ds d h => ?_
  · obtain ⟨x, rfl, _⟩ := h
    rfl
  · obtain ⟨x, rfl, rfl⟩ := h
    have key : ∃ n : Int, isPair x = (isInst x "tuple" && decide (n = 2)) ∧ (isInst x "tuple" = true → ∃ xs, x = .tuple xs ∧ n = (xs.length : Int)) := by
      cases x with
      | tuple xs =>
        refine ⟨(xs.length : Int), ?_, fun _ => ⟨xs, rfl, rfl⟩⟩
        match xs with
        | [] => rfl
        | [_] => rfl
        | [_, _] => rfl
        | a :: c :: e :: r =>
          have : ¬ (((a :: c :: e :: r).length : Int) = 2) := by simp; omega
          rw [decide_eq_false this]
          rfl
      | _ => exact ⟨0, rfl, fun h => by cases h⟩
    obtain ⟨n, e1, e2⟩ := key
    rw [e1]
    refine sx_one (sy_retF (ev_and (ev_isi hK.symm rfl T.n_isinstance rfl T.n_tuple Str.isTuple (.inr (.inr (.inr (.inl rfl)))) (vn 0)) fun h => ?_))
    obtain ⟨xs, rfl, rfl⟩ := e2 h
    exact ev_one (ev_eqI (ev_callB call_len_seq rfl T.n_len PySem.boot_len (ea_cons (vn 0) ea_nil) (rc_lenT hK.symm)) ev_int)
theorem ok_is_fraction (T : Tx K mg) : FnOk P w K mg base CX0 2 T.d_is_fraction.fa T.d_is_fraction.fd P_is_fraction (FP K (r_of isFrac)) := by
  refine fp_ok T.d_is_fraction.F sc_is_fraction (fun ds d h => ?_) fun cdv A outer s H E b hK hr ds d h => ?_
  · obtain ⟨x, rfl, _⟩ := h
    rfl
  · obtain ⟨x, rfl, rfl⟩ := h
    refine sx_cons (sy_if (t := !isPair x) (et_not (et_val (ev_call (ok_is_pair T) hK.symm hr rfl T.d_is_pair.m T.d_is_pair.F.kp T.d_is_pair.b pass0 (ds := [x]) (ea_cons (vn 0) ea_nil) ⟨x, rfl, rfl⟩))) (fun h => ?_) fun h => ?_)
    · have e : isFrac x = false := by
        cases hx : isFrac x with
        | false => rfl
        | true =>
          obtain ⟨t, l, rfl, _⟩ := isFrac_inv hx
          cases h
      rw [e]
      exact sx_one (sy_retF ev_bl)
    · refine sx_nil ?_
      obtain ⟨t, l, rfl⟩ : ∃ t l, x = .tuple [t, l] := by
        cases x with
        | tuple xs =>
          match xs with
          | [] => cases h
          | [_] => cases h
          | [t, l] => exact ⟨t, l, rfl⟩
          | _ :: _ :: _ :: _ => cases h
        | _ => cases h
      refine sx_cons (sy_unpack (vn 0) (pg_tup rfl (pgs_cons (pg_name (i := 1) sc_is_fraction.nd rfl (.inl rfl)) (pgs_cons (pg_name (i := 2) sc_is_fraction.nd rfl (.inl rfl)) pgs_nil))) (tg_tup hK.symm rfl (.cons (tg_name li) rfl (.cons (tg_name li) rfl .nil))) rfl ?_)
      by_cases ht : isWhole t = true
      · obtain ⟨i, rfl⟩ : ∃ i, t = .int i := by cases t <;> first | (cases ht; done) | exact ⟨_, rfl⟩
        by_cases hl : isWhole l = true
        · obtain ⟨j, rfl⟩ : ∃ i, l = .int i := by cases l <;> first | (cases hl; done) | exact ⟨_, rfl⟩
          have e : isFrac (.tuple [.int i, .int j]) = (isWhole (.int i) && (isWhole (.int j) && (decide (0 < j) && decide (((Nat.gcd i.natAbs j.natAbs : Nat) : Int) = 1)))) := by
            rfl
          rw [e]
          exact sx_one (sy_retF (ev_and (ev_call (ok_is_whole T) hK.symm (hr.mono (by decide)) rfl T.d_is_whole.m T.d_is_whole.F.kp T.d_is_whole.b pass0 (ds := [.int i]) (ea_cons (vn 1) ea_nil) ⟨_, rfl, rfl⟩) fun _ => (ev_and (ev_call (ok_is_whole T) hK.symm (hr.mono (by decide)) rfl T.d_is_whole.m T.d_is_whole.F.kp T.d_is_whole.b pass0 (ds := [.int j]) (ea_cons (vn 2) ea_nil) ⟨_, rfl, rfl⟩) fun _ => (ev_and (ev_gt (vn 2) ev_int) fun _ => (ev_one (ev_eqI (ev_callF cr_gcd rfl T.i_gcd (ea_cons (vn 1) (ea_cons (vn 2) ea_nil)) rc_gcd) ev_int))))))
        · have e : isFrac (.tuple [.int i, l]) = (isWhole (.int i) && (isWhole l && false)) := by cases l <;> first | rfl | exact (hl rfl).elim
          rw [e]
          refine sx_one (sy_retF (ev_and (ev_call (ok_is_whole T) hK.symm (hr.mono (by decide)) rfl T.d_is_whole.m T.d_is_whole.F.kp T.d_is_whole.b pass0 (ds := [.int i]) (ea_cons (vn 1) ea_nil) ⟨_, rfl, rfl⟩) fun _ => (ev_and (ev_call (ok_is_whole T) hK.symm (hr.mono (by decide)) rfl T.d_is_whole.m T.d_is_whole.F.kp T.d_is_whole.b pass0 (ds := [l]) (ea_cons (vn 2) ea_nil) ⟨_, rfl, rfl⟩) fun h => (hl h).elim)))
      · have e : isFrac (.tuple [t, l]) = (isWhole t && false) := by cases t <;> first | rfl | exact (ht rfl).elim
        rw [e]
        refine sx_one (sy_retF (ev_and (ev_call (ok_is_whole T) hK.symm (hr.mono (by decide)) rfl T.d_is_whole.m T.d_is_whole.F.kp T.d_is_whole.b pass0 (ds := [t]) (ea_cons (vn 1) ea_nil) ⟨_, rfl, rfl⟩) fun h => (ht h).elim))
end
end K0
end
section
set_option Elab.async false
set_option linter.all false
set_option maxRecDepth 100000
set_option maxHeartbeats 4000000
set_option exponentiation.threshold 100000
namespace K0
open PySem PySem.Spec PyProof.Rows L2 DX
set_option autoImplicit false
/-! rises -/
def risesB : List Int → Bool
  | x :: y :: r => decide (x < y) && risesB (y :: r)
  | _ => true
def r_rises (ds : List PyData) (d : PyData) : Prop := ∃ ns : List Int, ds = [.list (ns.map .int)] ∧ ns.length ≤ 1000 ∧ d = .bool (risesB ns)
theorem outs_all (y : Nat → PyData) : ∀ n, outs (fun _ => true) y n = (List.range n).map y
  | 0 => rfl
  | n + 1 => by
    unfold outs
    rw [if_pos rfl, outs_all y n, List.range_succ, List.map_append]
    rfl
def upB (ns : List Int) (i : Nat) : Bool := decide (ns.getD i 0 < ns.getD (i + 1) 0)
theorem rises_range : ∀ ns : List Int, ((List.range (ns.length - 1)).map (upB ns)).all id = risesB ns
  | [] => rfl
  | [_] => rfl
  | x :: y :: r => by
    have ih := rises_range (y :: r)
    have e : (x :: y :: r).length - 1 = ((y :: r).length - 1) + 1 := by simp
    rw [e, List.range_succ_eq_map, List.map_cons, List.all_cons, List.map_map]
    have e2 : (upB (x :: y :: r)) ∘ Nat.succ = upB (y :: r) := by
      funext i
      rfl
    rw [e2, ih]
    rfl
section
variable {P : Program} {w : World} {K : PySem.W.Frag} {mg : Str → Option Value} {base : Heap}
theorem ok_rises (T : Tx K mg) : FnOk P w K mg base CX0 1 T.d_rises.fa T.d_rises.fd P_rises (FP K r_rises) := by
  refine fp_ok T.d_rises.F sc_rises (fun ds d h => ?_) fun cdv A outer s H E b hK hr ds d h => ?_
  · obtain ⟨x, rfl, _⟩ := h
    rfl
  · obtain ⟨ns, rfl, hz, rfl⟩ := h
    have hzip : ((ns.map PyData.int).zip ((ns.map PyData.int).drop 1)).length = ns.length - 1 := by simp
    have hget : ∀ (i : Nat) d e, ((ns.map PyData.int).zip ((ns.map PyData.int).drop 1))[i]? = some (d, e) → d = .int (ns.getD i 0) ∧ e = .int (ns.getD (i + 1) 0) := fun i d e h => by
      rw [List.getElem?_zip_eq_some] at h
      obtain ⟨h1, h2⟩ := h
      rw [List.getElem?_map] at h1
      rw [List.getElem?_drop, List.getElem?_map] at h2
      constructor
      · cases hq : ns[i]? with
        | none => rw [hq] at h1; cases h1
        | some a =>
          rw [hq] at h1
          rw [List.getD_eq_getElem?_getD, hq]
          exact (Option.some.inj h1).symm
      · rw [Nat.add_comm 1 i] at h2
        cases hq : ns[i + 1]? with
        | none => rw [hq] at h2; cases h2
        | some a =>
          rw [hq] at h2
          rw [List.getD_eq_getElem?_getD, hq]
          exact (Option.some.inj h2).symm
    have e1 : PyData.list (outs (fun _ => true) (fun i => .bool (upB ns i)) ((ns.map PyData.int).zip ((ns.map PyData.int).drop 1)).length) = .list ((((List.range (ns.length - 1)).map (upB ns))).map .bool) := by
      rw [outs_all, hzip, List.map_map]
      rfl
    refine sx_one (sy_retF (S1 := ⟨[.d (.list (ns.map .int)), .no, .no], []⟩) (ev_callB (cr_all rfl) rfl T.n_all (by decide +kernel) (ea_cons (x := .d (.list ((((List.range (ns.length - 1)).map (upB ns))).map .bool))) ?_ ea_nil) (by rw [← rises_range]; exact rc_all hK.symm)))
    refine ev_lcZ (S1 := ⟨[.d (.list (ns.map .int)), .no, .no], []⟩) (tt := tYes) (g := gTup K 2 (gList [gName 1, gName 2])) (S2 := ⟨gStart N_rises [.d (.list (ns.map .int))], []⟩) (own := [("value", 1), ("following", 2)]) (gT := fun p => match p with
        | .tuple [x, y] => [.d (.list (ns.map .int)), .d x, .d y]
        | _ => []) (Ms := fun _ => []) (c := fun _ => true) (y := fun i => .bool (upB ns i)) ?_ ?_ ?_ ?_ ?_ ?_ ?_ ?_ ?_ ?_ ?_ ?_ ?_ ?_ ?_ ?_ ?_ (ez := e1.symm) (eS := ?_)
    · exact hK.symm
    · rfl
    · exact sc_rises.nd
    · rfl
    · exact T.n_zip
    · exact vn 0
    · exact ev_from (n := 1) hK.symm (vn 0)
    · rw [hzip]; omega
    · exact blkOk_by (N := N_rises) (sc := defScope s_rises) (by decide +kernel)
    · rfl
    · exact fun _ => rfl
    · exact fun _ _ _ _ _ => pg_tup rfl (pgs_cons (pg_name (i := 1) sc_rises.nd rfl (.inl rfl)) (pgs_cons (pg_name (i := 2) sc_rises.nd rfl (.inl rfl)) pgs_nil))
    · exact fun _ _ _ _ _ => pts_nil
    · exact fun i d e h => tgb_tup hK.symm rfl (.cons (tgb_name (by simp) li) (.cons (tgb_name (by simp) li) .nil))
    · exact fun i d e h Dl acc => ttok_yes
    · intro i d e h _ Dl acc
      obtain ⟨rfl, rfl⟩ := hget i d e h
      intro s H C cl fp
      exact ev_lt (vn 1) (vn 2)
    · intro i d e h hc
      cases hc
    · rfl
end
end K0
end
section
set_option Elab.async false
set_option linter.all false
set_option maxRecDepth 100000
set_option maxHeartbeats 4000000
set_option exponentiation.threshold 100000
namespace K0
open PySem PySem.Spec PyProof.Rows L2 DX
set_option autoImplicit false
theorem Sz.nat {n a : Nat} (h : n < 2 ^ a) : Sz a (n : Int) := by unfold Sz; rw [Int.natAbs_natCast]; exact h
def r_split (ds : List PyData) (d : PyData) : Prop := ∃ n o r : Nat, ds = [.int (n : Int)] ∧ 0 < n ∧ n < 2 ^ 60 ∧ o * o * r = n ∧ TS.Sqf r ∧ d = .tuple [.int (o : Int), .int (r : Int)]
section
variable {P : Program} {w : World} {K : PySem.W.Frag} {mg : Str → Option Value} {base : Heap}
/-- square_split's slots -/
abbrev gSplit (n O R m f : Nat) (t : DV) : List DV := [.d (.int (n : Int)), .d (.int (O : Int)), .d (.int (R : Int)), .d (.int (m : Int)), .d (.int (f : Int)), t]
theorem ok_square_split (T : Tx K mg) : FnOk P w K mg base CX0 1 T.d_square_split.fa T.d_square_split.fd P_square_split (FP K r_split) := by
  refine fp_ok T.d_square_split.F sc_square_split (fun ds d h => ?_) fun cdv A outer s H E b hK hr ds d h => ?_
  · obtain ⟨n, o, r, rfl, _⟩ := h
    rfl
  · obtain ⟨n, o, r, rfl, n0, nz, en, hr', rfl⟩ := h
    have o0 : 0 < o := by
      rcases Nat.eq_zero_or_pos o with e | e
      · subst e; simp at en; omega
      · exact e
    refine sx_cons (sy_asg (i := 1) ev_int sc_square_split.nd rfl (.inl rfl) li ?_)
    refine sx_cons (sy_asg (i := 2) ev_int sc_square_split.nd rfl (.inl rfl) li ?_)
    refine sx_cons (sy_asg (i := 3) (vn 0) sc_square_split.nd rfl (.inl rfl) li ?_)
    refine sx_cons (sy_asg (i := 4) ev_int sc_square_split.nd rfl (.inl rfl) li ?_)
    refine sx_cons (sy_while (fun μ S' => ∃ O R m f : Nat, S' = ⟨gSplit n O R m f .no, []⟩ ∧ TS.Spl n O R m f ∧ (f = 2 ∨ f % 2 = 1) ∧ f ≤ n + 2 ∧ μ = 2 * m + (n + 3 - f)) _ ⟨1, 1, n, 2, rfl, TS.Spl.start n0, .inl rfl, by omega, rfl⟩ PassesOwn.never ?_)
    rintro μ S' ⟨O, R, m, f, rfl, hS, hodd, hf, rfl⟩
    have hmn : O * O * R * m = n := hS.eq
    have R0 := hS.sq.1
    have m0 := hS.m0
    have O0 := hS.O0
    have le1 : m ≤ n := by rw [← hmn]; exact Nat.le_mul_of_pos_left _ (Nat.mul_pos (Nat.mul_pos O0 O0) R0)
    have le2 : R ≤ n := by
      rw [← hmn, Nat.mul_assoc]
      exact Nat.le_trans (Nat.le_mul_of_pos_right R m0) (Nat.le_mul_of_pos_left _ (Nat.mul_pos O0 O0))
    have le3 : O ≤ n := by
      rw [← hmn, Nat.mul_assoc, Nat.mul_assoc]
      exact Nat.le_mul_of_pos_right O (Nat.mul_pos O0 (Nat.mul_pos R0 m0))
    have zO : Sz 61 (O : Int) := Sz.nat (by omega)
    have zR : Sz 61 (R : Int) := Sz.nat (by omega)
    have zm : Sz 61 (m : Int) := Sz.nat (by omega)
    have zf : Sz 61 (f : Int) := Sz.nat (by omega)
    have f2 := hS.f2
    have cast3 : ((f : Int) * f * f ≤ (m : Int)) ↔ f * f * f ≤ m := by
      constructor
      · intro h; exact_mod_cast h
      · intro h; exact_mod_cast h
    refine ⟨decide ((f : Int) * f * f ≤ m), _, et_le (ev_mul (ev_mul (vn 4) (vn 4) (zf.cm zf (by decide))) (vn 4) ((zf.mul zf).cm zf (by decide))) (vn 3), fun h => ?_, fun h => ?_⟩
    · -- a turn
      have h3 : f * f * f ≤ m := cast3.mp (of_decide_eq_true h)
      have hfm : f ≤ m := Nat.le_trans (by have : f * 1 * 1 ≤ f * f * f := Nat.mul_le_mul (Nat.mul_le_mul_left f (by omega)) (by omega); omega) h3
      refine sx_cons (sy_if (et_neI (ev_mod (vn 3) (vn 4) (by omega)) ev_int) (fun h => ?_) fun h => ?_)
      · have hm : m % f ≠ 0 := fun e => by
          have : ((m : Int) % (f : Int)) = 0 := by exact_mod_cast e
          rw [this] at h
          cases h
        refine sx_cons (sy_aug (i := 4) (ipR0 iop_add) rfl (ev_if (x := .d (.int (if f = 2 then 1 else 2))) (S' := ⟨gSplit n O R m f .no, []⟩) (et_eqI (vn 4) ev_int) (fun h => ?_) fun h => ?_) trivial sc_square_split.nd rfl (.inl rfl) li ?_)
        · have : f = 2 := by have := of_decide_eq_true h; omega
          rw [if_pos this]
          exact ev_int
        · have : ¬ f = 2 := by
            have := of_decide_eq_false h
            omega
          rw [if_neg this]
          exact ev_int
        · refine sx_one (sy_continue ?_)
          refine ⟨_, ?_, O, R, m, f + (if f = 2 then 1 else 2), ?_, hS.next hm hodd, ?_, ?_, rfl⟩
          · split <;> omega
          · have e : ((f : Int) + (if f = 2 then 1 else 2)) = ((f + (if f = 2 then 1 else 2) : Nat) : Int) := by split <;> omega
            exact congrArg (fun z : Int => (⟨[.d (.int (n : Int)), .d (.int (O : Int)), .d (.int (R : Int)), .d (.int (m : Int)), .d (.int z), .no], []⟩ : DS)) e
          · split <;> omega
          · split <;> omega
      · have hm : m % f = 0 := by
          have := h
          simp at this
          omega
        refine sx_nil ?_
        obtain ⟨m1, rfl⟩ : ∃ m1, m = m1 * f := ⟨m / f, by rw [Nat.div_mul_cancel (Nat.dvd_of_mod_eq_zero hm)]⟩
        have m10 : 0 < m1 := by
          rcases Nat.eq_zero_or_pos m1 with e | e
          · subst e; simp at m0
          · exact e
        have e1 : ((m1 * f : Nat) : Int) / (f : Int) = (m1 : Int) := by
          rw [← Int.natCast_ediv, Nat.mul_div_cancel _ (by omega)]
        have hm1 : m1 * 2 ≤ m1 * f := Nat.mul_le_mul_left m1 f2
        refine sx_cons (sy_aug (i := 3) (ipR iop_fdivW) rfl (vn 4) (zf.dv (by omega) (by decide) (by decide)) sc_square_split.nd rfl (.inl rfl) li ?_)
        rw [e1]
        refine sx_one (sy_if (et_eqI (ev_mod (vn 3) (vn 4) (by omega)) ev_int) (fun h => ?_) fun h => ?_)
        · have hm' : m1 % f = 0 := by
            have := of_decide_eq_true h
            omega
          obtain ⟨m2, rfl⟩ : ∃ m2, m1 = m2 * f := ⟨m1 / f, by rw [Nat.div_mul_cancel (Nat.dvd_of_mod_eq_zero hm')]⟩
          have m20 : 0 < m2 := by
            rcases Nat.eq_zero_or_pos m2 with e | e
            · subst e; simp at m10
            · exact e
          have e2 : ((m2 * f : Nat) : Int) / (f : Int) = (m2 : Int) := by
            rw [← Int.natCast_ediv, Nat.mul_div_cancel _ (by omega)]
          have hm2 : m2 * 2 ≤ m2 * f := Nat.mul_le_mul_left m2 f2
          refine sx_cons (sy_aug (i := 3) (ipR iop_fdivW) rfl (vn 4) (zf.dv (by omega) (by decide) (by decide)) sc_square_split.nd rfl (.inl rfl) li ?_)
          rw [e2]
          refine sx_one (sy_aug (i := 1) (ipR iop_mulX') rfl (vn 4) (zO.cm zf (by decide)) sc_square_split.nd rfl (.inl rfl) li ?_)
          refine ⟨_, ?_, O * f, R, m2, f, ?_, hS.twice m20, hodd, hf, rfl⟩
          · omega
          · exact congrArg (fun z : Int => (⟨[.d (.int (n : Int)), .d (.int z), .d (.int (R : Int)), .d (.int (m2 : Int)), .d (.int (f : Int)), .no], []⟩ : DS)) (Int.natCast_mul O f).symm
        · have hm' : ¬ f ∣ m1 := fun hd => by
            have := Nat.mod_eq_zero_of_dvd hd
            have q : ((m1 : Int) % (f : Int)) = 0 := by exact_mod_cast this
            rw [q] at h
            cases h
          refine sx_one (sy_aug (i := 2) (ipR iop_mulX') rfl (vn 4) (zR.cm zf (by decide)) sc_square_split.nd rfl (.inl rfl) li ?_)
          refine ⟨_, ?_, O, R * f, m1, f, ?_, hS.once m10 hm', hodd, hf, rfl⟩
          · omega
          · exact congrArg (fun z : Int => (⟨[.d (.int (n : Int)), .d (.int (O : Int)), .d (.int z), .d (.int (m1 : Int)), .d (.int (f : Int)), .no], []⟩ : DS)) (Int.natCast_mul R f).symm
    · -- behind the loop
      have h3 : m < f * f * f := by
        refine Nat.lt_of_not_le fun hle => ?_
        exact absurd (cast3.mpr hle) (of_decide_eq_false h)
      obtain ⟨t, t1, t2⟩ := TS.isq_ex m
      have tm : t ≤ m := Nat.le_trans (Nat.le_mul_self t) t1
      have zt : Sz 61 (t : Int) := Sz.nat (by omega)
      refine sx_cons (sy_asg (i := 5) (ev_callF cr_isqrtS rfl T.i_isqrt (ea_cons (vn 3) ea_nil) (rc_isqrtS (by omega) t1 t2)) sc_square_split.nd rfl (.inl rfl) li ?_)
      refine sx_cons (sy_if (et_eqI (ev_mul (vn 5) (vn 5) (zt.cm zt (by decide))) (vn 3)) (fun h => ?_) fun h => ?_)
      · have ht : t * t = m := by
          have := of_decide_eq_true h
          exact_mod_cast this
        have eq := TS.sqf_unique hr' hS.sq o0 (en.trans (hS.last_sq ht).symm)
        obtain ⟨rfl, rfl⟩ := eq
        rw [Int.natCast_mul]
        exact sx_one (sy_retF (ev_tup (ds := [_, _]) (ea_cons (ev_mul (vn 1) (vn 5) (zO.cm zt (by decide))) (ea_cons (vn 2) ea_nil)) lq))
      · have ht : ∀ u, u * u ≠ m := fun u hu => by
          have : u = t := root_unique (n := m) (by omega) (by rw [← hu]; exact Nat.mul_lt_mul'' (Nat.lt_succ_self u) (Nat.lt_succ_self u)) t1 t2
          subst this
          have : decide (((u : Int) * u) = (m : Int)) = true := decide_eq_true (by exact_mod_cast hu)
          rw [this] at h
          cases h
        refine sx_nil ?_
        have eq := TS.sqf_unique hr' (hS.last_no h3 ht).1 o0 (en.trans (hS.last_no h3 ht).2.symm)
        obtain ⟨rfl, rfl⟩ := eq
        rw [Int.natCast_mul]
        exact sx_one (sy_retF (ev_tup (ds := [_, _]) (ea_cons (vn 1) (ea_cons (ev_mul (vn 2) (vn 3) (zR.cm zm (by decide))) ea_nil)) lq))
end
end K0
end
section
set_option Elab.async false
set_option linter.all false
set_option maxRecDepth 100000
set_option maxHeartbeats 4000000
set_option exponentiation.threshold 100000
namespace K0
open PySem PySem.Spec PyProof.Rows L2 DX
set_option autoImplicit false
/-! fractions as rationals -/
def qP (q : Rat) : Int × Int := (q.num, (q.den : Int))
abbrev qD (q : Rat) : PyData := frD (qP q)
def QS (n : Nat) (q : Rat) : Prop := q.num.natAbs < 2 ^ n ∧ q.den < 2 ^ n
theorem QS.mono {n m : Nat} {q : Rat} (h : QS n q) (k : n ≤ m) : QS m q := ⟨Nat.lt_of_lt_of_le h.1 (Nat.pow_le_pow_right (by decide) k), Nat.lt_of_lt_of_le h.2 (Nat.pow_le_pow_right (by decide) k)⟩
theorem QS.fr {n : Nat} {q : Rat} (h : QS n q) : Fr n (qP q) := ⟨by have := q.den_nz; show (0 : Int) < (q.den : Int); omega, h.1, Sz.nat h.2⟩
theorem red_norm (t : Int) (l : Nat) (h : l ≠ 0) : red t (l : Int) = qP (Rat.normalize t l h) := by
  rw [Rat.normalize_eq h]
  unfold red qP
  rw [Int.natAbs_natCast]
  refine Prod.ext rfl ?_
  show (l : Int) / _ = ((l / _ : Nat) : Int)
  rw [Int.natCast_ediv]
theorem red_mk (t : Int) (l : Nat) (h : l ≠ 0) : red t (l : Int) = qP (mkRat t l) := by
  rw [red_norm t l h]
  unfold mkRat
  rw [dif_neg h]
theorem fadd_q (p q : Rat) : fadd (qP p) (qP q) = qP (p + q) := by
  rw [Rat.add_def, ← red_norm]
  show red (p.num * (q.den : Int) + q.num * (p.den : Int)) ((p.den : Int) * (q.den : Int)) = _
  rw [Int.natCast_mul]
theorem fmul_q (p q : Rat) : fmul (qP p) (qP q) = qP (p * q) := by
  rw [Rat.mul_def, ← red_norm]
  show red (p.num * q.num) ((p.den : Int) * (q.den : Int)) = _
  rw [Int.natCast_mul]
theorem qD_zero : qD 0 = .tuple [.int 0, .int 1] := rfl
theorem qP_int (i : Int) : qP (i : Rat) = (i, 1) := rfl
def r_qplus (ds : List PyData) (d : PyData) : Prop := ∃ p q : Rat, ds = [qD p, qD q] ∧ QS 3000 p ∧ QS 3000 q ∧ d = qD (p + q)
def r_qtimes (ds : List PyData) (d : PyData) : Prop := ∃ p q : Rat, ds = [qD p, qD q] ∧ QS 3000 p ∧ QS 3000 q ∧ d = qD (p * q)
section
variable {P : Program} {w : World} {K : PySem.W.Frag} {mg : Str → Option Value} {base : Heap}
theorem ok_fraction_times (T : Tx K mg) : FnOk P w K mg base CX0 2 T.d_fraction_times.fa T.d_fraction_times.fd P_fraction_times (FP K r_ftimes) := by
  refine fp_ok T.d_fraction_times.F sc_fraction_times (fun ds d h => ?_) fun cdv A outer s H E b hK hr ds d h => ?_
  · obtain ⟨p, q, rfl, _⟩ := h
    rfl
  · obtain ⟨p, q, rfl, ⟨p1, p2, p3⟩, ⟨q1, q2, q3⟩, rfl⟩ := h
    refine sx_one (sy_retF (ev_call (ok_reduced T) hK.symm hr rfl T.d_reduced.m T.d_reduced.F.kp T.d_reduced.b pass0 (ds := [_, _]) (ea_cons (ev_mul (ev_ixT hK.symm (vn 0) ev_int rfl) (ev_ixT hK.symm (vn 1) ev_int rfl) ?_) (ea_cons (ev_mul (ev_ixT hK.symm (vn 0) ev_int rfl) (ev_ixT hK.symm (vn 1) ev_int rfl) ?_) ea_nil)) ?_))
    · exact p2.cm q2 (by decide)
    · exact p3.cm q3 (by decide)
    · exact ⟨_, _, rfl, Int.mul_pos p1 q1, (p3.mul q3).mono (by decide), rfl⟩
/-- a promise that asks more, or tells of other names -/
theorem FnOk.weak {k : Nat} {CX : CXT} {fa : Addr} {fd : FuncData} {ps : List Str} {R R' : List PyData → PyData → Prop} (h : FnOk P w K mg base CX k fa fd ps (FP K R)) (i : ∀ ds d, R' ds d → R ds d) : FnOk P w K mg base CX k fa fd ps (FP K R') := by
  refine ⟨fun vs H Q E ⟨A, ds, d, h1, h2, h3, h4⟩ => h.len vs H Q E ⟨A, ds, d, h1, h2, i _ _ h3, h4⟩, fun A outer s H args us vs Q E hr e b v ⟨A', ds, d, h1, h2, h3, h4⟩ => h.run A outer s H args us vs Q E hr e b v ⟨A', ds, d, h1, h2, i _ _ h3, h4⟩⟩
theorem ok_qplus (T : Tx K mg) : FnOk P w K mg base CX0 2 T.d_fraction_plus.fa T.d_fraction_plus.fd P_fraction_plus (FP K r_qplus) :=
  FnOk.weak (ok_fraction_plus T) fun ds d ⟨p, q, e1, h1, h2, e2⟩ => ⟨qP p, qP q, e1, h1.fr, h2.fr, by rw [e2, fadd_q]⟩
theorem ok_qtimes (T : Tx K mg) : FnOk P w K mg base CX0 2 T.d_fraction_times.fa T.d_fraction_times.fd P_fraction_times (FP K r_qtimes) :=
  FnOk.weak (ok_fraction_times T) fun ds d ⟨p, q, e1, h1, h2, e2⟩ => ⟨qP p, qP q, e1, h1.fr, h2.fr, by rw [e2, fmul_q]⟩
/-- the root of a fraction: q = top / low, its root is (o / den) times the root of r -/
def r_root_sum (ds : List PyData) (d : PyData) : Prop := ∃ q : Rat, ds = [qD q] ∧ 0 ≤ q.num ∧ q.num.natAbs < 2 ^ 50 ∧ q.den < 2 ^ 50 ∧
  ((q.num = 0 ∧ d = .tuple []) ∨ (0 < q.num ∧ ∃ o r : Nat, TS.Sqf r ∧ o * o * r = q.num.natAbs * q.den ∧ d = .tuple [.tuple [.int (r : Int), qD (mkRat (o : Int) q.den)]]))
theorem ok_root_sum (T : Tx K mg) : FnOk P w K mg base CX0 2 T.d_root_sum.fa T.d_root_sum.fd P_root_sum (FP K r_root_sum) := by
  refine fp_ok T.d_root_sum.F sc_root_sum (fun ds d h => ?_) fun cdv A outer s H E b hK hr ds d h => ?_
  · obtain ⟨q, rfl, _⟩ := h
    rfl
  · obtain ⟨q, rfl, q0, z1, z2, hd⟩ := h
    refine sx_cons (sy_unpack (vn 0) (pg_tup rfl (pgs_cons (pg_name (i := 1) sc_root_sum.nd rfl (.inl rfl)) (pgs_cons (pg_name (i := 2) sc_root_sum.nd rfl (.inl rfl)) pgs_nil))) (tg_tup hK.symm rfl (.cons (tg_name li) rfl (.cons (tg_name li) rfl .nil))) rfl ?_)
    refine sx_cons (sy_if (et_eqI (vn 1) ev_int) (fun h => ?_) fun h => ?_)
    · have h0 : q.num = 0 := of_decide_eq_true h
      rcases hd with ⟨_, rfl⟩ | ⟨hp, _⟩
      · exact sx_one (sy_retF (ev_tup (ds := []) ea_nil lq))
      · omega
    · have h0 : ¬ q.num = 0 := of_decide_eq_false h
      refine sx_nil ?_
      rcases hd with ⟨h1, _⟩ | ⟨hp, o, r, hr', eo, rfl⟩
      · exact (h0 h1).elim
      · have dn := q.den_nz
        -- the two parts
        obtain ⟨o1, r1, h1, e1⟩ : ∃ o1 r1 : Nat, TS.Sqf r1 ∧ o1 * o1 * r1 = q.num.natAbs := TS.sqf_ex _ (by omega)
        obtain ⟨o2, r2, h2, e2⟩ : ∃ o2 r2 : Nat, TS.Sqf r2 ∧ o2 * o2 * r2 = q.den := TS.sqf_ex _ (by omega)
        have cop : Nat.Coprime r1 r2 := by
          have c := q.reduced
          rw [← e1, ← e2] at c
          exact Nat.Coprime.coprime_dvd_left (Nat.dvd_mul_left r1 _) (Nat.Coprime.coprime_dvd_right (Nat.dvd_mul_left r2 _) c)
        have o0 : 0 < o := by
          rcases Nat.eq_zero_or_pos o with z | z
          · subst z
            have : 0 < q.num.natAbs * q.den := Nat.mul_pos (by omega) (by omega)
            omega
          · exact z
        have eq := TS.sqf_unique hr' (h1.mul h2 cop) o0 (show o * o * r = o1 * o2 * (o1 * o2) * (r1 * r2) by rw [eo, ← e1, ← e2]; grind)
        obtain ⟨rfl, rfl⟩ := eq
        have b1 : o1 ≤ q.num.natAbs ∧ r1 ≤ q.num.natAbs := TS.sqf_le e1 (by omega)
        have b2 : o2 ≤ q.den ∧ r2 ≤ q.den := TS.sqf_le e2 (by omega)
        have en : q.num = (q.num.natAbs : Int) := by omega
        have zo1 : Sz 50 (o1 : Int) := Sz.nat (by omega)
        have zr1 : Sz 50 (r1 : Int) := Sz.nat (by omega)
        have zo2 : Sz 50 (o2 : Int) := Sz.nat (by omega)
        have zr2 : Sz 50 (r2 : Int) := Sz.nat (by omega)
        refine sx_cons (sy_unpack (ev_call (ok_square_split T) hK.symm (hr.mono (by decide)) rfl T.d_square_split.m T.d_square_split.F.kp T.d_square_split.b pass0 (ds := [.int q.num]) (d := .tuple [.int (o1 : Int), .int (r1 : Int)]) (ea_cons (vn 1) ea_nil) ⟨q.num.natAbs, o1, r1, by rw [← en], by omega, by omega, e1, h1, rfl⟩) (pg_tup rfl (pgs_cons (pg_name (i := 3) sc_root_sum.nd rfl (.inl rfl)) (pgs_cons (pg_name (i := 4) sc_root_sum.nd rfl (.inl rfl)) pgs_nil))) (tg_tup hK.symm rfl (.cons (tg_name li) rfl (.cons (tg_name li) rfl .nil))) rfl ?_)
        refine sx_cons (sy_unpack (ev_call (ok_square_split T) hK.symm (hr.mono (by decide)) rfl T.d_square_split.m T.d_square_split.F.kp T.d_square_split.b pass0 (ds := [.int (q.den : Int)]) (d := .tuple [.int (o2 : Int), .int (r2 : Int)]) (ea_cons (vn 2) ea_nil) ⟨q.den, o2, r2, rfl, by omega, by omega, e2, h2, rfl⟩) (pg_tup rfl (pgs_cons (pg_name (i := 5) sc_root_sum.nd rfl (.inl rfl)) (pgs_cons (pg_name (i := 6) sc_root_sum.nd rfl (.inl rfl)) pgs_nil))) (tg_tup hK.symm rfl (.cons (tg_name li) rfl (.cons (tg_name li) rfl .nil))) rfl ?_)
        have em : qD (mkRat ((o1 * o2 : Nat) : Int) q.den) = frD (red ((o1 : Int) * o2) (q.den : Int)) := by
          rw [← Int.natCast_mul, red_mk _ _ dn]
        rw [em, Int.natCast_mul]
        refine sx_one (sy_retF (ev_tup (ds := [_]) (ea_cons (ev_tup (ds := [_, _]) (ea_cons (ev_mul (vn 4) (vn 6) (zr1.cm zr2 (by decide))) (ea_cons (ev_call (ok_reduced T) hK.symm (hr.mono (by decide)) rfl T.d_reduced.m T.d_reduced.F.kp T.d_reduced.b pass0 (ds := [_, _]) (ea_cons (ev_mul (vn 3) (vn 5) (zo1.cm zo2 (by decide))) (ea_cons (vn 2) ea_nil)) ⟨_, _, rfl, by omega, (Sz.nat (a := 50) (by omega)).mono (by decide), rfl⟩) ea_nil)) lq) ea_nil) lq))
end
end K0
end
section
set_option Elab.async false
set_option linter.all false
set_option maxRecDepth 100000
set_option maxHeartbeats 4000000
set_option exponentiation.threshold 100000
namespace K0
open PySem PySem.Spec PyProof.Rows L2 DX
set_option autoImplicit false
/-! sums: radicands with fractions -/
abbrev Trm := Nat × Rat
def tD (t : Trm) : PyData := .tuple [.int (t.1 : Int), qD t.2]
def sD (l : List Trm) : PyData := .tuple (l.map tD)
def co : List Trm → Nat → Rat
  | [], _ => 0
  | t :: l, r => (if t.1 = r then t.2 else 0) + co l r
theorem co_app (l m : List Trm) (r : Nat) : co (l ++ m) r = co l r + co m r := by
  induction l with
  | nil => show co m r = 0 + co m r; grind
  | cons t l ih => show (if t.1 = r then t.2 else 0) + co (l ++ m) r = (if t.1 = r then t.2 else 0) + co l r + co m r; rw [ih]; grind
structure Canon (l : List Trm) : Prop where
  inc : l.Pairwise fun a b => a.1 < b.1
  nz : ∀ t ∈ l, t.2 ≠ 0
theorem co_none {l : List Trm} {r : Nat} (h : ∀ t ∈ l, t.1 ≠ r) : co l r = 0 := by
  induction l with
  | nil => rfl
  | cons t l ih =>
    show (if t.1 = r then t.2 else 0) + co l r = 0
    rw [if_neg (h t (List.mem_cons_self ..)), ih fun u hu => h u (List.mem_cons_of_mem _ hu)]
    grind
theorem Canon.tail {t : Trm} {l : List Trm} (h : Canon (t :: l)) : Canon l := ⟨(List.pairwise_cons.mp h.inc).2, fun u hu => h.nz u (List.mem_cons_of_mem _ hu)⟩
theorem Canon.co_mem {l : List Trm} (h : Canon l) {t : Trm} (ht : t ∈ l) : co l t.1 = t.2 := by
  induction l with
  | nil => cases ht
  | cons u l ih =>
    have hp := (List.pairwise_cons.mp h.inc).1
    show (if u.1 = t.1 then u.2 else 0) + co l t.1 = t.2
    rcases List.mem_cons.mp ht with e | e
    · subst e
      rw [if_pos rfl, co_none fun v hv => by have := hp v hv; omega]
      grind
    · have := hp t e
      rw [if_neg (by omega), ih h.tail e]
      grind
theorem Canon.mem_iff {l : List Trm} (h : Canon l) (t : Trm) : t ∈ l ↔ (co l t.1 = t.2 ∧ t.2 ≠ 0) := by
  constructor
  · intro ht
    exact ⟨h.co_mem ht, h.nz t ht⟩
  · rintro ⟨h1, h2⟩
    refine Classical.byContradiction fun hc => ?_
    have : ∃ u ∈ l, u.1 = t.1 := by
      refine Classical.byContradiction fun hx => h2 ?_
      rw [← h1]
      exact co_none fun u hu e => hx ⟨u, hu, e⟩
    obtain ⟨u, hu, e⟩ := this
    have h3 := h.co_mem hu
    rw [e, h1] at h3
    exact hc (by rw [show t = u from Prod.ext e.symm h3]; exact hu)
theorem canon_ext {l m : List Trm} (h : Canon l) (g : Canon m) (e : ∀ r, co l r = co m r) : l = m := by
  have nd : ∀ {l : List Trm}, Canon l → l.Nodup := fun {l} h => List.Pairwise.imp (fun {a b} hlt e => by rw [e] at hlt; exact Nat.lt_irrefl _ hlt) h.inc
  have p : l.Perm m := (List.perm_ext_iff_of_nodup (nd h) (nd g)).mpr fun t => by rw [h.mem_iff, g.mem_iff, e]
  exact p.eq_of_pairwise (fun a b _ _ h1 h2 => absurd h1 (by omega)) h.inc g.inc
/-- a canonical list from the radicands that may stand there -/
def mk (ns : List Nat) (f : Nat → Rat) : List Trm := (ns.filter fun r => decide (f r ≠ 0)).map fun r => (r, f r)
theorem mk_canon {ns : List Nat} {f : Nat → Rat} (h : ns.Pairwise (· < ·)) : Canon (mk ns f) := by
  refine ⟨?_, fun t ht => ?_⟩
  · unfold mk
    rw [List.pairwise_map]
    exact List.Pairwise.sublist List.filter_sublist h
  · obtain ⟨r, hr, e⟩ := List.mem_map.mp ht
    rw [← e]
    exact of_decide_eq_true (List.mem_filter.mp hr).2
theorem mk_co {ns : List Nat} {f : Nat → Rat} (h : ns.Pairwise (· < ·)) (hf : ∀ r, r ∉ ns → f r = 0) (r : Nat) : co (mk ns f) r = f r := by
  by_cases hr : f r = 0
  · rw [hr]
    refine co_none fun t ht e => ?_
    obtain ⟨r', hr', e'⟩ := List.mem_map.mp ht
    have h1 := of_decide_eq_true (List.mem_filter.mp hr').2
    rw [← e'] at e
    have e : r' = r := e
    rw [e] at h1
    exact h1 hr
  · have hin : r ∈ ns := Classical.byContradiction fun hc => hr (hf r hc)
    exact (mk_canon (f := f) h).co_mem (t := (r, f r)) (List.mem_map.mpr ⟨r, List.mem_filter.mpr ⟨hin, decide_eq_true hr⟩, rfl⟩)
/-! the dict -/
def enc (rs : List Nat) (f : Nat → Rat) : List (Key × PyData) := rs.map fun (r : Nat) => (Sum.inl (r : Int), qD (f r))
theorem key_eq (a b : Nat) : ((Sum.inl (a : Int) : Key) = Sum.inl (b : Int)) ↔ a = b := by
  constructor
  · intro h
    have := Sum.inl.inj h
    omega
  · intro h; rw [h]
theorem kget_enc (rs : List Nat) (f : Nat → Rat) (r : Nat) : kget (enc rs f) (Sum.inl (r : Int)) = if r ∈ rs then some (qD (f r)) else none := by
  induction rs with
  | nil => rfl
  | cons a rs ih =>
    unfold kget enc at ih ⊢
    rw [List.map_cons]
    by_cases e : a = r
    · subst e
      rw [List.find?_cons_of_pos (by simp)]
      simp
    · rw [List.find?_cons_of_neg (by simp; omega), ih]
      by_cases h : r ∈ rs
      · rw [if_pos h, if_pos (List.mem_cons_of_mem _ h)]
      · rw [if_neg h, if_neg fun q => by rcases List.mem_cons.mp q with z | z; exact e z.symm; exact h z]
def fput (f : Nat → Rat) (r : Nat) (v : Rat) : Nat → Rat := fun r' => if r' = r then v else f r'
theorem kput_enc (rs : List Nat) (f : Nat → Rat) (r : Nat) (v : Rat) : kput (enc rs f) (Sum.inl (r : Int)) (qD v) = enc (if r ∈ rs then rs else rs ++ [r]) (fput f r v) := by
  have hany : ((enc rs f).any fun kv => decide (kv.1 = Sum.inl (r : Int))) = decide (r ∈ rs) := by
    unfold enc
    rw [List.any_map]
    induction rs with
    | nil => simp
    | cons a rs ih =>
      rw [List.any_cons, ih]
      by_cases e : a = r
      · subst e; simp
      · have : (decide ((Sum.inl (a : Int) : Key) = Sum.inl (r : Int))) = false := decide_eq_false (by rw [key_eq]; exact e)
        show (decide ((Sum.inl (a : Int) : Key) = Sum.inl (r : Int)) || _) = _
        rw [this, Bool.false_or]
        by_cases h : r ∈ rs
        · simp [h]
        · simp [h, Ne.symm e]
  unfold kput
  rw [hany]
  by_cases h : r ∈ rs
  · rw [if_pos (decide_eq_true h), if_pos h]
    unfold enc
    rw [List.map_map]
    refine List.map_congr_left fun a _ => ?_
    show (if (Sum.inl (a : Int) : Key) = Sum.inl (r : Int) then (Sum.inl (a : Int), qD v) else (Sum.inl (a : Int), qD (f a))) = _
    by_cases e : a = r
    · subst e; simp [fput]
    · rw [if_neg (by rw [key_eq]; exact e)]; simp [fput, e]
  · rw [if_neg (by simpa using h), if_neg h]
    unfold enc
    rw [List.map_append]
    congr 1
    · refine List.map_congr_left fun a ha => ?_
      have : a ≠ r := fun e => h (e ▸ ha)
      simp [fput, this]
    · simp [fput]
theorem enc_congr {rs : List Nat} {f g : Nat → Rat} (h : ∀ r, f r = g r) : enc rs f = enc rs g := by
  have : f = g := funext h
  rw [this]
theorem enc_keys (rs : List Nat) (f : Nat → Rat) : intKeys (enc rs f) (rs.map fun (r : Nat) => (r : Int)) := by
  unfold intKeys enc
  rw [List.map_map, List.map_map]
  rfl
/-- the radicands in order -/
def srt (rs : List Nat) : List Nat := rs.mergeSort fun a b => decide (a ≤ b)
theorem srt_perm (rs : List Nat) : (srt rs).Perm rs := List.mergeSort_perm rs _
theorem srt_le (rs : List Nat) : (srt rs).Pairwise (· ≤ ·) := by
  have := List.pairwise_mergeSort (le := fun a b => decide (a ≤ b)) (fun a b c h1 h2 => by simp at *; omega) (fun a b => by simp; omega) rs
  exact List.Pairwise.imp (fun h => by simpa using h) this
theorem srt_lt {rs : List Nat} (h : rs.Nodup) : (srt rs).Pairwise (· < ·) := by
  have h1 := srt_le rs
  have h2 : (srt rs).Nodup := (srt_perm rs).nodup_iff.mpr h
  exact List.Pairwise.imp₂ (fun a b h3 h4 => Nat.lt_of_le_of_ne h3 h4) h1 h2
theorem srt_ints (rs : List Nat) : ((srt rs).map fun (r : Nat) => (r : Int)).Perm (rs.map fun (r : Nat) => (r : Int)) ∧ ((srt rs).map fun (r : Nat) => (r : Int)).Pairwise (· ≤ ·) := by
  refine ⟨(srt_perm rs).map _, ?_⟩
  rw [List.pairwise_map]
  exact List.Pairwise.imp (fun h => by omega) (srt_le rs)
end K0
end
section
set_option Elab.async false
set_option linter.all false
set_option maxRecDepth 100000
set_option maxHeartbeats 4000000
set_option exponentiation.threshold 100000
namespace K0
open PySem PySem.Spec PyProof.Rows L2 DX
set_option autoImplicit false
theorem qD_shaped (q : Rat) : SeqAt.shaped (qD q) = true := by
  show (PyData.canLay0 (.tuple [.int q.num, .int (q.den : Int)]) && decide (PyData.depth (.tuple [.int q.num, .int (q.den : Int)]) ≤ 64)) = true
  simp [PyData.canLay0, PyData.canLayAll0, PyData.depth, PyData.depthAll]
theorem take_succ_co {ps : List Trm} {i : Nat} {t : Trm} (h : ps[i]? = some t) (r : Nat) : co (ps.take (i + 1)) r = fput (co (ps.take i)) t.1 (co (ps.take i) t.1 + t.2) r := by
  rw [List.take_add_one, h, co_app]
  show co (ps.take i) r + ((if t.1 = r then t.2 else 0) + 0) = _
  unfold fput
  by_cases e : r = t.1
  · rw [if_pos e.symm, if_pos e, e]; grind
  · rw [if_neg (Ne.symm e), if_neg e]; grind
def SqD (x : PyData) (ds : List PyData) : Prop := x = .list ds ∨ x = .tuple ds
def r_collected (ds : List PyData) (d : PyData) : Prop := ∃ (x : PyData) (ps l : List Trm), ds = [x] ∧ SqD x (ps.map tD) ∧ ps.length ≤ 60 ∧ (∀ t ∈ ps, QS 2000 t.2) ∧ (∀ i r, QS 2000 (co (ps.take i) r)) ∧ Canon l ∧ (∀ r, co l r = co ps r) ∧ d = sD l
abbrev gC (x : PyData) (a : Addr) (rs : List Nat) (f : Nat → Rat) (x2 x3 : DV) : DS := ⟨[.d x, .m a, x2, x3], [(a, .dct (enc rs f))]⟩
theorem sy_forS {X : Cx} {b : Bs} {S S1 : DS} {D : DE} {pos : Pos} {x : PyData} {tg iter : Expr} {body : List Stmt} {g : TG} {ds : List PyData} (hsq : SqD x ds) (hK : X.K = b.K) (hp : PassesOwn (model X.prog X.w) X.A X.env X.xe) (hc : X.calm = true) (hi : EV X b iter S (.d x) S1) (hg : PG X tg g) (W : Nat → DS → Prop) (h0 : W 0 S1)
    (hs : ∀ (i : Nat) d S', ds[i]? = some d → W i S' → ∃ S2, TG' b (.d d) S' S2 g ∧ Hd b S2 = Hd b S' ∧ SX X b body S2 { D with nx := W (i + 1), ct := W (i + 1), bk := D.nx }) (hd : ∀ S', W ds.length S' → D.nx S')
    (hf : ∀ x : Value, foldedSetIterable iter X.env x = pure x := by intro _; rfl) : SY X b (.For tg iter body [] pos) S D := by
  rcases hsq with rfl | rfl
  · exact sy_forL hK hp hc hi hg W h0 hs hd hf
  · exact sy_forT hK hp hc hi hg W h0 hs hd hf
section
variable {P : Program} {w : World} {K : PySem.W.Frag} {mg : Str → Option Value} {base : Heap}
theorem ok_collected (T : Tx K mg) : FnOk P w K mg base CX0 3 T.d_collected.fa T.d_collected.fd P_collected (FP K r_collected) := by
  refine fp_ok T.d_collected.F sc_collected (fun ds d h => ?_) fun cdv A outer s H E b hK hr ds d h => ?_
  · obtain ⟨x, ps, l, rfl, _⟩ := h
    rfl
  · obtain ⟨x, ps, l, rfl, hsq, hz, hq, hqs, hl, hco, rfl⟩ := h
    have hu : (A.deeper (envOfC "collected" (defScope s_collected) s.heap.objs.size T.d_collected.fa cdv)).units + 1 < cLine := hu_of hr
    refine sx_cons (sy_newD (i := 1) sc_collected.nd rfl (.inr rfl) li fun a => ?_)
    refine sx_cons (sy_forS (ds := ps.map tD) hsq (g := gTup K 2 (gList [gName 2, gName 3])) hK.symm PassesOwn.never rfl (S1 := gC x a [] (fun _ => 0) .no .no) (vn 0) (pg_tup rfl (pgs_cons (pg_name (i := 2) sc_collected.nd rfl (.inl rfl)) (pgs_cons (pg_name (i := 3) sc_collected.nd rfl (.inl rfl)) pgs_nil)))
      (fun i S' => ∃ rs x2 x3, S' = gC x a rs (co (ps.take i)) x2 x3 ∧ rs.Nodup ∧ (∀ r, r ∉ rs → co (ps.take i) r = 0) ∧ rs.length ≤ i) ⟨[], .no, .no, rfl, List.nodup_nil, fun _ _ => rfl, Nat.le_refl _⟩ ?_ ?_)
    · rintro i d S' hd ⟨rs, x2, x3, rfl, nd, h0, hlen⟩
      obtain ⟨t, ht, rfl⟩ : ∃ t, ps[i]? = some t ∧ d = tD t := by
        rw [List.getElem?_map] at hd
        cases hx : ps[i]? with
        | none => rw [hx] at hd; cases hd
        | some t => rw [hx] at hd; exact ⟨t, rfl, (Option.some.inj hd).symm⟩
      have hi : i < ps.length := (List.getElem?_eq_some_iff.mp ht).1
      have htm : t ∈ ps := List.mem_of_getElem? ht
      refine ⟨gC x a rs (co (ps.take i)) (.d (.int (t.1 : Int))) (.d (qD t.2)), tg_tup (ds := [.int (t.1 : Int), qD t.2]) hK.symm rfl (.cons (S := gC x a rs (co (ps.take i)) x2 x3) (tg_name (i := 2) li) rfl (.cons (tg_name (i := 3) li) rfl .nil)), rfl, ?_⟩
      have hin : (a, MO.dct (enc rs (co (ps.take i)))) ∈ (gC x a rs (co (ps.take i)) (.d (.int (t.1 : Int))) (.d (qD t.2))).m := List.mem_singleton.mpr rfl
      have eget : ((kget (enc rs (co (ps.take i))) (.inl (t.1 : Int))).getD (.tuple [.int 0, .int 1])) = qD (co (ps.take i) t.1) := by
        rw [kget_enc]
        by_cases h : t.1 ∈ rs
        · rw [if_pos h]; rfl
        · rw [if_neg h, h0 _ h]; rfl
      refine sx_one (sy_dput (d := qD (co (ps.take i) t.1 + t.2)) (n := (t.1 : Int)) hu (ev_call (ok_qplus T) hK.symm hr rfl T.d_fraction_plus.m T.d_fraction_plus.F.kp T.d_fraction_plus.b pass0 (ds := [qD (co (ps.take i) t.1), qD t.2]) (ea_cons (by rw [← eget]; exact ev_dget2 hu (vn 1) (vn 2) (ev_tup (ds := [.int 0, .int 1]) (ea_cons ev_int (ea_cons ev_int ea_nil)) lq) hin ⟨rfl, rfl, rfl, rfl⟩) (ea_cons (vn 3) ea_nil)) ⟨_, _, rfl, (hqs i t.1).mono (by decide), (hq t htm).mono (by decide), rfl⟩) (vn 1) (vn 2) hin (by unfold enc; rw [List.length_map]; omega) ?_)
      refine ⟨if t.1 ∈ rs then rs else rs ++ [t.1], .d (.int (t.1 : Int)), .d (qD t.2), ?_, ?_, fun r hr' => ?_, ?_⟩
      · have : enc (if t.1 ∈ rs then rs else rs ++ [t.1]) (co (ps.take (i + 1))) = kput (enc rs (co (ps.take i))) (Sum.inl (t.1 : Int)) (qD (co (ps.take i) t.1 + t.2)) := by
          rw [kput_enc]
          exact enc_congr fun r => take_succ_co ht r
        unfold gC DS.setm setM
        rw [this]
        simp
      · by_cases h : t.1 ∈ rs
        · rw [if_pos h]; exact nd
        · rw [if_neg h]
          exact List.nodup_append.mpr ⟨nd, by simp, fun c hc d hd => by rw [List.mem_singleton] at hd; rw [hd]; intro e; exact h (e ▸ hc)⟩
      · rw [take_succ_co ht]
        have h1 : r ∉ rs ∧ r ≠ t.1 := by
          by_cases h : t.1 ∈ rs
          · rw [if_pos h] at hr'
            exact ⟨hr', fun e => hr' (e ▸ h)⟩
          · rw [if_neg h] at hr'
            exact ⟨fun q => hr' (List.mem_append.mpr (.inl q)), fun e => hr' (List.mem_append.mpr (.inr (by rw [e]; simp)))⟩
        unfold fput
        rw [if_neg h1.2]
        exact h0 r h1.1
      · split
        · omega
        · rw [List.length_append]; simp; omega
    · rintro S' ⟨rs, x2, x3, rfl, nd, h0, hlen⟩
      have hlp : (ps.map tD).length = ps.length := List.length_map _
      rw [hlp] at h0 hlen
      have etk : ps.take (ps.map tD).length = ps := by rw [hlp, List.take_length]
      rw [etk]
      rw [List.take_length] at h0
      have hin : ∀ x2 x3, (a, MO.dct (enc rs (co ps))) ∈ (gC x a rs (co ps) x2 x3).m := fun _ _ => List.mem_singleton.mpr rfl
      have el : l = mk (srt rs) (co ps) := canon_ext hl (mk_canon (srt_lt nd)) fun r => by rw [hco, mk_co (srt_lt nd) fun r hr' => h0 r fun q => hr' ((srt_perm rs).mem_iff.mpr q)]
      have slen : (srt rs).length = rs.length := (srt_perm rs).length_eq
      have key : ∀ {i : Nat} {d : PyData}, ((srt rs).map fun (r : Nat) => PyData.int (r : Int))[i]? = some d → i < (srt rs).length ∧ d = .int (((srt rs).getD i 0 : Nat) : Int) := fun {i d} hd => by
        rw [List.getElem?_map] at hd
        cases hx : (srt rs)[i]? with
        | none => rw [hx] at hd; cases hd
        | some r =>
          rw [hx] at hd
          refine ⟨(List.getElem?_eq_some_iff.mp hx).1, ?_⟩
          rw [List.getD_eq_getElem?_getD, hx]
          exact (Option.some.inj hd).symm
      have hget : ∀ i, i < (srt rs).length → kget (enc rs (co ps)) (Sum.inl (((srt rs).getD i 0 : Nat) : Int)) = some (qD (co ps ((srt rs).getD i 0))) := fun i hi => by
        rw [kget_enc, if_pos]
        rw [List.getD_eq_getElem?_getD, List.getElem?_eq_getElem hi]
        exact (srt_perm rs).mem_iff.mp (List.getElem_mem hi)
      refine sx_one (sy_retF (S1 := gC x a rs (co ps) x2 x3) (ev_tupleL hK.symm rfl T.n_tuple (ds := l.map tD) ?_))
      refine ev_lcL1i (S1 := gC x a rs (co ps) x2 x3) (own := [("radicand", 2)]) (g := gName 2) (ds := (srt rs).map fun (r : Nat) => .int (r : Int)) (gT := fun d => [.d x, .m a, .d d, x3]) (c := fun i => decide (co ps ((srt rs).getD i 0) ≠ 0)) (y := fun i => tD ((srt rs).getD i 0, co ps ((srt rs).getD i 0))) ?_ ?_ ?_ ?_ ?_ ?_ ?_ ?_ ?_ ?_ ?_
      · exact hK.symm
      · rfl
      · exact sc_collected.nd
      · rw [show (srt rs).map (fun (r : Nat) => PyData.int (r : Int)) = ((srt rs).map fun (r : Nat) => (r : Int)).map .int from by rw [List.map_map]; rfl]
        refine ev_callB (call_sortedDI rfl) ?_ T.n_sorted (by decide +kernel) (ea_cons (vn 1) ea_nil) (rc_sortedD (S := gC x a rs (co ps) x2 x3) (hin x2 x3) (enc_keys rs (co ps)) (by rw [List.length_map]; omega) (srt_ints rs).1 (srt_ints rs).2)
        exact rfl
      · rw [List.length_map, slen]; omega
      · exact blkOk_by (N := N_collected) (sc := defScope s_collected) (by decide +kernel)
      · exact fun _ _ _ _ _ => pg_name (i := 2) sc_collected.nd rfl (.inl rfl)
      · exact fun i d hd => tgb_name (vs := [2]) (j := 2) (g0 := [.d x, .m a, .no, x3]) (List.mem_singleton.mpr rfl) li
      · intro i d hd Dl acc
        obtain ⟨hi, rfl⟩ := key hd
        intro s H C cl fp
        have e : decide (co ps ((srt rs).getD i 0) ≠ 0) = !decide ((co ps ((srt rs).getD i 0)).num = 0) := by
          by_cases q : co ps ((srt rs).getD i 0) = 0
          · rw [q]; rfl
          · have : ¬ (co ps ((srt rs).getD i 0)).num = 0 := fun z => q (Rat.num_eq_zero.mp z)
            rw [decide_eq_true q, decide_eq_false this]
            rfl
        rw [e]
        exact et_neI (ev_ixT hK.symm (ev_dgetI hu (vn 1) (vn 2) (List.mem_cons_self ..) (hget i hi)) ev_int rfl) ev_int
      · intro i d hd hc Dl acc
        obtain ⟨hi, rfl⟩ := key hd
        intro s H C cl fp
        exact ev_tup (ds := [_, _]) (ea_cons (vn 2) (ea_cons (ev_dgetI hu (vn 1) (vn 2) (List.mem_cons_self ..) (hget i hi)) ea_nil)) lq
      · rw [el, List.length_map]
        have := outs_picked (ds := (srt rs).map fun (r : Nat) => PyData.int (r : Int)) (f := fun d => match d with
          | .int r => decide (co ps r.toNat ≠ 0)
          | _ => false) (g := fun d => match d with
          | .int r => tD (r.toNat, co ps r.toNat)
          | _ => .none) (c := fun i => decide (co ps ((srt rs).getD i 0) ≠ 0)) (y := fun i => tD ((srt rs).getD i 0, co ps ((srt rs).getD i 0))) fun i d hd => by
            obtain ⟨hi, rfl⟩ := key hd
            exact ⟨rfl, rfl⟩
        rw [List.length_map] at this
        rw [this]
        unfold mk
        rw [List.filter_map, List.map_map, List.map_map]
        rfl
end
end K0
end
section
set_option Elab.async false
set_option linter.all false
set_option maxRecDepth 100000
set_option maxHeartbeats 4000000
set_option exponentiation.threshold 100000
namespace K0
open PySem PySem.Spec PyProof.Rows L2 DX
set_option autoImplicit false
theorem norm_QS {n : Int} {d a : Nat} (hd : d ≠ 0) (h1 : n.natAbs < 2 ^ a) (h2 : d < 2 ^ a) : QS a (Rat.normalize n d hd) := by
  rw [Rat.normalize_eq]
  refine ⟨Nat.lt_of_le_of_lt ?_ h1, Nat.lt_of_le_of_lt (Nat.div_le_self _ _) h2⟩
  show (n / ((n.natAbs.gcd d : Nat) : Int)).natAbs ≤ _
  exact Int.natAbs_ediv_le_natAbs _ _
theorem QS.add {a b : Nat} {p q : Rat} (h : QS a p) (g : QS b q) : QS (a + b + 1) (p + q) := by
  rw [Rat.add_def]
  refine norm_QS _ ?_ ?_
  · have h1 : (p.num * (q.den : Int)).natAbs < 2 ^ (a + b) := by
      rw [Int.natAbs_mul, Int.natAbs_natCast, Nat.pow_add]
      exact Nat.mul_lt_mul'' h.1 g.2
    have h2 : (q.num * (p.den : Int)).natAbs < 2 ^ (a + b) := by
      rw [Int.natAbs_mul, Int.natAbs_natCast, Nat.add_comm, Nat.pow_add]
      exact Nat.mul_lt_mul'' g.1 h.2
    have := Int.natAbs_add_le (p.num * (q.den : Int)) (q.num * (p.den : Int))
    rw [Nat.pow_succ]
    omega
  · have h3 : p.den * q.den < 2 ^ (a + b) := by
      rw [Nat.pow_add]
      exact Nat.mul_lt_mul'' h.2 g.2
    rw [Nat.pow_succ]
    omega
theorem QS.mul {a b : Nat} {p q : Rat} (h : QS a p) (g : QS b q) : QS (a + b) (p * q) := by
  rw [Rat.mul_def]
  refine norm_QS _ ?_ ?_
  · rw [Int.natAbs_mul, Nat.pow_add]
    exact Nat.mul_lt_mul'' h.1 g.1
  · rw [Nat.pow_add]
    exact Nat.mul_lt_mul'' h.2 g.2
theorem QS.zero (a : Nat) (ha : 0 < a) : QS a 0 := ⟨Nat.two_pow_pos _, Nat.one_lt_two_pow (by omega)⟩
theorem co_QS {k : Nat} {ps : List Trm} (h : ∀ t ∈ ps, QS k t.2) (r : Nat) : QS (ps.length * (k + 1) + 1) (co ps r) := by
  induction ps with
  | nil => exact QS.zero _ (by omega)
  | cons t ps ih =>
    have ih := ih fun u hu => h u (List.mem_cons_of_mem _ hu)
    have ht := h t (List.mem_cons_self ..)
    show QS _ ((if t.1 = r then t.2 else 0) + co ps r)
    by_cases e : t.1 = r
    · rw [if_pos e]
      exact (ht.add ih).mono (by rw [List.length_cons, Nat.succ_mul]; omega)
    · rw [if_neg e, Rat.zero_add]
      exact ih.mono (by rw [List.length_cons, Nat.succ_mul]; omega)
theorem co_QS_take {k : Nat} {ps : List Trm} (h : ∀ t ∈ ps, QS k t.2) (i r : Nat) : QS (ps.length * (k + 1) + 1) (co (ps.take i) r) := by
  refine (co_QS (fun t ht => h t (List.mem_of_mem_take ht)) r).mono ?_
  have : (ps.take i).length ≤ ps.length := by rw [List.length_take]; omega
  have := Nat.mul_le_mul_right (k + 1) this
  omega
/-- plain sums: few terms, small fractions -/
structure Sm (n k : Nat) (l : List Trm) : Prop where
  len : l.length ≤ n
  qs : ∀ t ∈ l, QS k t.2
  ca : Canon l
def r_sum_plus (ds : List PyData) (d : PyData) : Prop := ∃ (p q l : List Trm), ds = [sD p, sD q] ∧ p.length ≤ 20 ∧ q.length ≤ 20 ∧ (∀ t ∈ p, QS 40 t.2) ∧ (∀ t ∈ q, QS 40 t.2) ∧ Canon l ∧ (∀ r, co l r = co p r + co q r) ∧ d = sD l
/-- the product of two terms -/
def ptm (s t : Trm) : Trm := (s.1 / Nat.gcd s.1 t.1 * (t.1 / Nat.gcd s.1 t.1), ((Nat.gcd s.1 t.1 : Nat) : Rat) * (s.2 * t.2))
def r_pair_times (ds : List PyData) (d : PyData) : Prop := ∃ (s t : Trm), ds = [tD s, tD t] ∧ 0 < s.1 ∧ s.1 < 2 ^ 100 ∧ t.1 < 2 ^ 100 ∧ QS 1000 s.2 ∧ QS 1000 t.2 ∧ d = tD (ptm s t)
section
variable {P : Program} {w : World} {K : PySem.W.Frag} {mg : Str → Option Value} {base : Heap}
theorem ok_sum_plus (T : Tx K mg) : FnOk P w K mg base CX0 4 T.d_sum_plus.fa T.d_sum_plus.fd P_sum_plus (FP K r_sum_plus) := by
  refine fp_ok T.d_sum_plus.F sc_sum_plus (fun ds d h => ?_) fun cdv A outer s H E b hK hr ds d h => ?_
  · obtain ⟨p, q, l, rfl, _⟩ := h
    rfl
  · obtain ⟨p, q, l, rfl, hp, hq, hp2, hq2, hl, hco, rfl⟩ := h
    refine sx_one (sy_retF (ev_call (ok_collected T) hK.symm hr rfl T.d_collected.m T.d_collected.F.kp T.d_collected.b pass0 (ds := [.tuple (p.map tD ++ q.map tD)]) (ea_cons (ev_catT hK.symm (vn 0) (vn 1) (by rw [List.length_map, List.length_map]; omega)) ea_nil) ?_))
    have hall : ∀ t ∈ p ++ q, QS 40 t.2 := fun t ht => by
      rcases List.mem_append.mp ht with h | h
      · exact hp2 t h
      · exact hq2 t h
    have hlen : (p ++ q).length ≤ 40 := by rw [List.length_append]; omega
    refine ⟨_, p ++ q, l, rfl, .inr (by rw [List.map_append]), by omega, fun t ht => (hall t ht).mono (by decide), fun i r => (co_QS_take hall i r).mono ?_, hl, fun r => by rw [hco, co_app], rfl⟩
    have := Nat.mul_le_mul_right 41 hlen
    omega
theorem natQ (n : Nat) : qD ((n : Nat) : Rat) = .tuple [.int (n : Int), .int 1] := rfl
theorem ok_pair_times (T : Tx K mg) : FnOk P w K mg base CX0 3 T.d_pair_times.fa T.d_pair_times.fd P_pair_times (FP K r_pair_times) := by
  refine fp_ok T.d_pair_times.F sc_pair_times (fun ds d h => ?_) fun cdv A outer s H E b hK hr ds d h => ?_
  · obtain ⟨s, t, rfl, _⟩ := h
    rfl
  · obtain ⟨s, t, rfl, s0, s1, t1, sq, tq, rfl⟩ := h
    have g0 : 0 < Nat.gcd s.1 t.1 := Nat.gcd_pos_of_pos_left _ s0
    have gs : Nat.gcd s.1 t.1 < 2 ^ 100 := Nat.lt_of_le_of_lt (Nat.le_of_dvd s0 (Nat.gcd_dvd_left _ _)) s1
    have hg : (0 : Int) < ((Nat.gcd s.1 t.1 : Nat) : Int) := by omega
    have gz : Sz 100 ((Nat.gcd s.1 t.1 : Nat) : Int) := Sz.nat gs
    have gq : QS 1000 ((Nat.gcd s.1 t.1 : Nat) : Rat) := ⟨gz.mono (by decide), Nat.one_lt_two_pow (by decide)⟩
    have bs : s.1 / Nat.gcd s.1 t.1 < 2 ^ 100 := Nat.lt_of_le_of_lt (Nat.div_le_self _ _) s1
    have bt : t.1 / Nat.gcd s.1 t.1 < 2 ^ 100 := Nat.lt_of_le_of_lt (Nat.div_le_self _ _) t1
    refine sx_cons (sy_asg (i := 2) (x := .d (.int ((Nat.gcd s.1 t.1 : Nat) : Int))) (ev_callF cr_gcd rfl T.i_gcd (ea_cons (ev_ixT hK.symm (vn 0) ev_int rfl) (ea_cons (ev_ixT hK.symm (vn 1) ev_int rfl) ea_nil)) rc_gcd) sc_pair_times.nd rfl (.inl rfl) li ?_)
    refine sx_cons (sy_asg (i := 3) (x := .d (.int ((s.1 : Int) / ((Nat.gcd s.1 t.1 : Nat) : Int) * ((t.1 : Int) / ((Nat.gcd s.1 t.1 : Nat) : Int))))) (ev_mul (ev_fdiv (ev_ixT hK.symm (vn 0) ev_int rfl) (vn 2) ?_) (ev_fdiv (ev_ixT hK.symm (vn 1) ev_int rfl) (vn 2) ?_) ?_) sc_pair_times.nd rfl (.inl rfl) li ?_)
    · exact Sz.dv hg gz (by decide) (by decide)
    · exact Sz.dv hg gz (by decide) (by decide)
    · exact (Sz.nat bs : Sz 100 ((s.1 / Nat.gcd s.1 t.1 : Nat) : Int)).cm (Sz.nat bt : Sz 100 ((t.1 / Nat.gcd s.1 t.1 : Nat) : Int)) (by decide)
    · have ed : tD (ptm s t) = .tuple [.int ((s.1 : Int) / ((Nat.gcd s.1 t.1 : Nat) : Int) * ((t.1 : Int) / ((Nat.gcd s.1 t.1 : Nat) : Int))), qD (((Nat.gcd s.1 t.1 : Nat) : Rat) * (s.2 * t.2))] := by
        unfold tD ptm
        rw [Int.natCast_mul, Int.natCast_ediv, Int.natCast_ediv]
      rw [ed]
      refine sx_one (sy_retF (ev_tup (ds := [_, _]) (ea_cons (vn 3) (ea_cons (ev_call (ok_qtimes T) hK.symm hr rfl T.d_fraction_times.m T.d_fraction_times.F.kp T.d_fraction_times.b pass0 (ds := [.tuple [.int ((Nat.gcd s.1 t.1 : Nat) : Int), .int 1], qD (s.2 * t.2)]) (ea_cons (ev_tup (ds := [_, _]) (ea_cons (vn 2) (ea_cons ev_int ea_nil)) lq) (ea_cons (ev_call (ok_qtimes T) hK.symm hr rfl T.d_fraction_times.m T.d_fraction_times.F.kp T.d_fraction_times.b pass0 (ds := [qD s.2, qD t.2]) (ea_cons (ev_ixT hK.symm (vn 0) ev_int rfl) (ea_cons (ev_ixT hK.symm (vn 1) ev_int rfl) ea_nil)) ?_) ea_nil)) ?_) ea_nil)) lq))
      · exact ⟨_, _, rfl, sq.mono (by decide), tq.mono (by decide), rfl⟩
      · exact ⟨_, _, rfl, gq.mono (by decide), (sq.mul tq).mono (by decide), rfl⟩
end
end K0
end
section
set_option Elab.async false
set_option linter.all false
set_option maxRecDepth 100000
set_option maxHeartbeats 4000000
set_option exponentiation.threshold 100000
namespace K0
open PySem PySem.Spec PyProof.Rows L2 DX
set_option autoImplicit false
/-- a term back from its data -/
def unD : PyData → Trm
  | .tuple [.int r, .tuple [.int a, .int b]] => (r.toNat, mkRat a b.toNat)
  | _ => (0, 0)
theorem unD_tD (t : Trm) : unD (tD t) = t := by
  show ((t.1 : Int).toNat, mkRat t.2.num (t.2.den : Int).toNat) = t
  rw [Int.toNat_natCast, Int.toNat_natCast, Rat.mkRat_self]
def prods (p q : List Trm) : List Trm := p.flatMap fun s => q.map (ptm s)
theorem mem_prods {p q : List Trm} {s t : Trm} (hs : s ∈ p) (ht : t ∈ q) : ptm s t ∈ prods p q := List.mem_flatMap.mpr ⟨s, hs, List.mem_map.mpr ⟨t, ht, rfl⟩⟩
theorem prods_data (p q : List Trm) : ((p.map tD).flatMap fun d => (q.map tD).map fun e => tD (ptm (unD d) (unD e))) = (prods p q).map tD := by
  unfold prods
  rw [List.flatMap_map, List.map_flatMap]
  refine congrArg (fun f => List.flatMap f p) (funext fun s => ?_)
  rw [List.map_map, List.map_map]
  refine List.map_congr_left fun t _ => ?_
  show tD (ptm (unD (tD s)) (unD (tD t))) = tD (ptm s t)
  rw [unD_tD, unD_tD]
def r_sum_times (ds : List PyData) (d : PyData) : Prop := ∃ (p q l : List Trm), ds = [sD p, sD q] ∧ (∀ s ∈ p, 0 < s.1 ∧ s.1 < 2 ^ 100 ∧ QS 1000 s.2) ∧ (∀ s ∈ q, 0 < s.1 ∧ s.1 < 2 ^ 100 ∧ QS 1000 s.2) ∧
  (prods p q).length ≤ 60 ∧ (∀ u ∈ prods p q, QS 2000 u.2) ∧ (∀ i r, QS 2000 (co ((prods p q).take i) r)) ∧ Canon l ∧ (∀ r, co l r = co (prods p q) r) ∧ d = sD l
theorem tD_get {ps : List Trm} {i : Nat} {d : PyData} (h : (ps.map tD)[i]? = some d) : ∃ t, t ∈ ps ∧ d = tD t := by
  rw [List.getElem?_map] at h
  cases hx : ps[i]? with
  | none => rw [hx] at h; cases h
  | some t => rw [hx] at h; exact ⟨t, List.mem_of_getElem? hx, (Option.some.inj h).symm⟩
section
variable {P : Program} {w : World} {K : PySem.W.Frag} {mg : Str → Option Value} {base : Heap}
theorem ok_sum_times (T : Tx K mg) : FnOk P w K mg base CX0 4 T.d_sum_times.fa T.d_sum_times.fd P_sum_times (FP K r_sum_times) := by
  refine fp_ok T.d_sum_times.F sc_sum_times (fun ds d h => ?_) fun cdv A outer s H E b hK hr ds d h => ?_
  · obtain ⟨p, q, l, rfl, _⟩ := h
    rfl
  · obtain ⟨p, q, l, rfl, hp, hq, hz, hu, hqs, hl, hco, rfl⟩ := h
    refine sx_one (sy_retF (S1 := ⟨gStart N_sum_times [.d (sD p), .d (sD q)], []⟩) (ev_call (ok_collected T) hK.symm hr rfl T.d_collected.m T.d_collected.F.kp T.d_collected.b pass0 (ds := [.list ((prods p q).map tD)]) (ea_cons ?_ ea_nil) ⟨_, prods p q, l, rfl, .inl rfl, hz, hu, hqs, hl, hco, rfl⟩))
    refine ev_lc2T (S1 := ⟨gStart N_sum_times [.d (sD p), .d (sD q)], []⟩) (g := gName 2) (g1 := gName 3) [("part", 2), ("by", 3)] [3] (ds := p.map tD) (es := q.map tD) (fun d => [.d (sD p), .d (sD q), .d d, .no]) (fun d e => [.d (sD p), .d (sD q), .d d, .d e]) (fun d e => tD (ptm (unD d) (unD e))) ?_ ?_ ?_ ?_ ?_ ?_ ?_ ?_ ?_ ?_ ?_ ?_ ?_ ?_
    · exact hK.symm
    · rfl
    · exact sc_sum_times.nd
    · exact vn 0
    · rw [prods_data, List.length_map]; omega
    · exact blkOk_by (N := N_sum_times) (sc := defScope s_sum_times) (by decide +kernel)
    · simp
    · exact fun _ _ _ _ _ => pg_name (i := 2) sc_sum_times.nd rfl (.inl rfl)
    · exact fun _ _ _ _ _ => pg_name (i := 3) sc_sum_times.nd rfl (.inl rfl)
    · exact fun i d hd => tgb_name (vs := [2, 3]) (j := 2) (g0 := [.d (sD p), .d (sD q), .no, .no]) (by simp) li
    · intro i d hd Dl acc s H C cl fp
      exact vn 1
    · exact fun i d hd j e he => tgb_name (vs := [3]) (j := 3) (g0 := [.d (sD p), .d (sD q), .d d, .no]) (by simp) li
    · intro i d hd j e he Dl acc s H C cl fp
      obtain ⟨t, ht, rfl⟩ := tD_get hd
      obtain ⟨u, hu', rfl⟩ := tD_get he
      rw [unD_tD, unD_tD]
      exact ev_call (ok_pair_times T) hK.symm hr rfl T.d_pair_times.m T.d_pair_times.F.kp T.d_pair_times.b pass0 (ds := [tD t, tD u]) (ea_cons (vn 2) (ea_cons (vn 3) ea_nil)) ⟨t, u, rfl, (hp t ht).1, (hp t ht).2.1, (hq u hu').2.1, (hp t ht).2.2, (hq u hu').2.2, rfl⟩
    · rw [prods_data]
end
end K0
end
section
set_option Elab.async false
set_option linter.all false
set_option maxRecDepth 100000
set_option maxHeartbeats 4000000
set_option exponentiation.threshold 100000
namespace K0
open PySem PySem.Spec PyProof.Rows L2 DX
set_option autoImplicit false
/-- the least common low of the fractions -/
def lcms (p : List Trm) : Nat := p.foldl (fun a t => Nat.lcm a t.2.den) 1
theorem lcms_succ {p : List Trm} {i : Nat} {t : Trm} (h : p[i]? = some t) : lcms (p.take (i + 1)) = Nat.lcm (lcms (p.take i)) t.2.den := by
  unfold lcms
  rw [List.take_add_one, h, List.foldl_append]
  rfl
theorem fold_dvd (p : List Trm) : ∀ a : Nat, a ∣ p.foldl (fun a t => Nat.lcm a t.2.den) a := by
  induction p with
  | nil => exact fun a => Nat.dvd_refl a
  | cons t p ih => exact fun a => Nat.dvd_trans (Nat.dvd_lcm_left a t.2.den) (ih _)
theorem lcms_take_dvd (p : List Trm) (i : Nat) : lcms (p.take i) ∣ lcms p := by
  have e : lcms p = (p.drop i).foldl (fun a t => Nat.lcm a t.2.den) (lcms (p.take i)) := by
    unfold lcms
    rw [← List.foldl_append, List.take_append_drop]
  rw [e]
  exact fold_dvd _ _
theorem fold_pos (p : List Trm) : ∀ a : Nat, 0 < a → 0 < p.foldl (fun a t => Nat.lcm a t.2.den) a := by
  induction p with
  | nil => exact fun a h => h
  | cons t p ih => exact fun a h => ih _ (Nat.lcm_pos h (Nat.pos_of_ne_zero t.2.den_nz))
theorem lcms_pos (p : List Trm) : 0 < lcms p := fold_pos p 1 (by decide)
theorem den_dvd_lcms {p : List Trm} {t : Trm} (h : t ∈ p) : t.2.den ∣ lcms p := by
  obtain ⟨i, hi⟩ := List.getElem?_of_mem h
  exact Nat.dvd_trans (by rw [lcms_succ hi]; exact Nat.dvd_lcm_right _ _) (lcms_take_dvd p (i + 1))
/-- the integers over one low -/
def nz (L : Nat) (t : Trm) : Int := t.2.num * ((L : Int) / (t.2.den : Int))
def nD (L : Nat) (t : Trm) : PyData := .tuple [.int (t.1 : Int), .int (nz L t)]
def r_over_one_low (ds : List PyData) (d : PyData) : Prop := ∃ p : List Trm, ds = [sD p] ∧ p.length ≤ 60 ∧ lcms p < 2 ^ 60 ∧ (∀ t ∈ p, QS 1000 t.2) ∧ d = .tuple [.int (lcms p : Int), .list (p.map (nD (lcms p)))]
section
variable {P : Program} {w : World} {K : PySem.W.Frag} {mg : Str → Option Value} {base : Heap}
theorem ok_over_one_low (T : Tx K mg) : FnOk P w K mg base CX0 1 T.d_over_one_low.fa T.d_over_one_low.fd P_over_one_low (FP K r_over_one_low) := by
  refine fp_ok T.d_over_one_low.F sc_over_one_low (fun ds d h => ?_) fun cdv A outer s H E b hK hr ds d h => ?_
  · obtain ⟨p, rfl, _⟩ := h
    rfl
  · obtain ⟨p, rfl, hz, hL, hq, rfl⟩ := h
    have lp := lcms_pos p
    have hlp : (p.map tD).length = p.length := List.length_map _
    refine sx_cons (sy_asg (i := 1) ev_int sc_over_one_low.nd rfl (.inr rfl) li ?_)
    refine sx_cons (sy_forT (g := gTup K 2 (gList [gName 2, gName 3])) hK.symm PassesOwn.never rfl (ds := p.map tD) (S1 := ⟨[.d (sD p), .d (.int ((lcms (p.take 0) : Nat) : Int)), .no, .no, .no, .no, .no], []⟩) (vn 0) (pg_tup rfl (pgs_cons (pg_name (i := 2) sc_over_one_low.nd rfl (.inl rfl)) (pgs_cons (pg_name (i := 3) sc_over_one_low.nd rfl (.inl rfl)) pgs_nil)))
      (fun i S' => ∃ x2 x3, S' = ⟨[.d (sD p), .d (.int ((lcms (p.take i) : Nat) : Int)), x2, x3, .no, .no, .no], []⟩) ⟨.no, .no, rfl⟩ ?_ ?_)
    · rintro i d S' hd ⟨x2, x3, rfl⟩
      obtain ⟨t, ht, rfl⟩ : ∃ t, p[i]? = some t ∧ d = tD t := by
        rw [List.getElem?_map] at hd
        cases hx : p[i]? with
        | none => rw [hx] at hd; cases hd
        | some t => rw [hx] at hd; exact ⟨t, rfl, (Option.some.inj hd).symm⟩
      have htm : t ∈ p := List.mem_of_getElem? ht
      have b1 : lcms (p.take i) < 2 ^ 64 := Nat.lt_of_le_of_lt (Nat.le_of_dvd lp (lcms_take_dvd p i)) (Nat.lt_of_lt_of_le hL (by decide))
      have b2 : t.2.den < 2 ^ 64 := Nat.lt_of_le_of_lt (Nat.le_of_dvd lp (den_dvd_lcms htm)) (Nat.lt_of_lt_of_le hL (by decide))
      refine ⟨⟨[.d (sD p), .d (.int ((lcms (p.take i) : Nat) : Int)), .d (.int (t.1 : Int)), .d (qD t.2), .no, .no, .no], []⟩, tg_tup (ds := [.int (t.1 : Int), qD t.2]) hK.symm rfl (.cons (S := ⟨[.d (sD p), .d (.int ((lcms (p.take i) : Nat) : Int)), x2, x3, .no, .no, .no], []⟩) (tg_name (i := 2) li) rfl (.cons (tg_name (i := 3) li) rfl .nil)), rfl, ?_⟩
      refine sx_one (sy_asg (i := 1) (S1 := ⟨[.d (sD p), .d (.int ((lcms (p.take i) : Nat) : Int)), .d (.int (t.1 : Int)), .d (qD t.2), .no, .no, .no], []⟩) (x := .d (.int ((lcms (p.take (i + 1)) : Nat) : Int))) ?_ sc_over_one_low.nd rfl (.inr rfl) li ⟨_, _, rfl⟩)
      rw [lcms_succ ht]
      exact ev_callF cr_lcm rfl T.i_lcm (ea_cons (vn 1) (ea_cons (ev_ixT hK.symm (vn 3) ev_int rfl) ea_nil)) (rc_lcm (i := ((lcms (p.take i) : Nat) : Int)) (j := (t.2.den : Int)) (by rw [Int.natAbs_natCast]; exact b1) (by rw [Int.natAbs_natCast]; exact b2))
    · rintro S' ⟨x2, x3, rfl⟩
      rw [hlp, List.take_length]
      refine sx_one (sy_retF (S1 := ⟨[.d (sD p), .d (.int ((lcms p : Nat) : Int)), x2, x3, .no, .no, .no], []⟩) (ev_tup (ds := [_, _]) (ea_cons (vn 1) (ea_cons ?_ ea_nil)) lq))
      refine ev_lcT0p (S1 := ⟨[.d (sD p), .d (.int ((lcms p : Nat) : Int)), x2, x3, .no, .no, .no], []⟩) (g := gTup K 2 (gList [gName 4, gTup K 2 (gList [gName 5, gName 6])])) [("radicand", 4), ("top", 5), ("part_low", 6)] (ds := p.map tD) (fun d => [.d (sD p), .d (.int ((lcms p : Nat) : Int)), x2, x3, .d (.int ((unD d).1 : Int)), .d (.int (unD d).2.num), .d (.int ((unD d).2.den : Int))]) (fun d => nD (lcms p) (unD d)) ?_ ?_ ?_ ?_ ?_ ?_ ?_ ?_ ?_ ?_
      · exact hK.symm
      · rfl
      · exact sc_over_one_low.nd
      · exact vn 0
      · rw [hlp]; omega
      · exact blkOk_by (N := N_over_one_low) (sc := defScope s_over_one_low) (by decide +kernel)
      · exact fun _ _ _ _ _ => pg_tup rfl (pgs_cons (pg_name (i := 4) sc_over_one_low.nd rfl (.inl rfl)) (pgs_cons (pg_tup rfl (pgs_cons (pg_name (i := 5) sc_over_one_low.nd rfl (.inl rfl)) (pgs_cons (pg_name (i := 6) sc_over_one_low.nd rfl (.inl rfl)) pgs_nil))) pgs_nil))
      · intro i d hd
        obtain ⟨t, ht, rfl⟩ := tD_get hd
        rw [unD_tD]
        exact tgb_tup (vs := [4, 5, 6]) (ds := [.int (t.1 : Int), qD t.2]) (g0 := [.d (sD p), .d (.int ((lcms p : Nat) : Int)), x2, x3, .no, .no, .no]) hK.symm rfl (.cons (tgb_name (j := 4) (by simp) li) (.cons (tgb_tup (ds := [.int t.2.num, .int (t.2.den : Int)]) hK.symm rfl (.cons (tgb_name (j := 5) (by simp) li) (.cons (tgb_name (j := 6) (by simp) li) .nil))) .nil))
      · intro i d hd Dl acc s H C cl fp
        obtain ⟨t, ht, rfl⟩ := tD_get hd
        rw [unD_tD]
        have d0 : (0 : Int) < (t.2.den : Int) := by have := t.2.den_nz; omega
        have q1 : Sz 1000 ((t.2.den : Nat) : Int) := Sz.nat (hq t ht).2
        have q2 : Sz 60 (((lcms p) / t.2.den : Nat) : Int) := Sz.nat (Nat.lt_of_le_of_lt (Nat.div_le_self _ _) hL)
        exact ev_tup (ds := [_, _]) (ea_cons (vn 4) (ea_cons (ev_mul (vn 5) (ev_fdiv (vn 1) (vn 6) (Sz.dv d0 q1 (by decide) (by decide))) (Sz.cm (hq t ht).1 q2 (by decide))) ea_nil)) lq
      · rw [List.map_map]
        refine congrArg PyData.list (List.map_congr_left fun t _ => ?_)
        show nD _ t = nD _ (unD (tD t))
        rw [unD_tD]
end
end K0
end
section
set_option Elab.async false
set_option linter.all false
set_option maxRecDepth 100000
set_option maxHeartbeats 4000000
set_option exponentiation.threshold 300000
namespace K0
open PySem PySem.Spec PyProof.Rows L2 DX
set_option autoImplicit false
abbrev ITrm := Nat × Int
def iD (t : ITrm) : PyData := .tuple [.int (t.1 : Int), .int t.2]
/-- the number below the root -/
def sq (B : Nat) (t : ITrm) : Nat := t.2.natAbs * t.2.natAbs * t.1 * 2 ^ (2 * B)
def un (B : Nat) (t : ITrm) : Nat := Float64.isqrt (sq B t)
def ov (B : Nat) (t : ITrm) : Nat := if un B t * un B t = sq B t then un B t else un B t + 1
def lo1 (B : Nat) (t : ITrm) : Int := if 0 < t.2 then (un B t : Int) else -(ov B t : Int)
def hi1 (B : Nat) (t : ITrm) : Int := if 0 < t.2 then (ov B t : Int) else -(un B t : Int)
def isum : List Int → Int
  | [] => 0
  | a :: l => a + isum l
theorem isum_app (l m : List Int) : isum (l ++ m) = isum l + isum m := by
  induction l with
  | nil => show isum m = 0 + isum m; omega
  | cons a l ih => show a + isum (l ++ m) = a + isum l + isum m; rw [ih]; omega
def los (B : Nat) (p : List ITrm) : Int := isum (p.map (lo1 B))
def his (B : Nat) (p : List ITrm) : Int := isum (p.map (hi1 B))
theorem los_succ {B : Nat} {p : List ITrm} {i : Nat} {t : ITrm} (h : p[i]? = some t) : los B (p.take (i + 1)) = los B (p.take i) + lo1 B t := by
  unfold los
  rw [List.take_add_one, h, List.map_append, isum_app]
  show _ + (lo1 B t + 0) = _
  omega
theorem his_succ {B : Nat} {p : List ITrm} {i : Nat} {t : ITrm} (h : p[i]? = some t) : his B (p.take (i + 1)) = his B (p.take i) + hi1 B t := by
  unfold his
  rw [List.take_add_one, h, List.map_append, isum_app]
  show _ + (hi1 B t + 0) = _
  omega
theorem log2_lt' {n k : Nat} (hk : 0 < k) (h : n < 2 ^ k) : n.log2 < k := by
  rcases Nat.eq_zero_or_pos n with e | e
  · rw [e]; exact hk
  · exact (Nat.log2_lt (by omega)).mpr h
theorem sq_lt {B : Nat} {t : ITrm} (h1 : t.1 < 2 ^ 100) (h2 : Sz 1100 t.2) (hB : B ≤ 66000) : sq B t < 2 ^ 134300 := by
  unfold sq
  have e1 : t.2.natAbs * t.2.natAbs < 2 ^ 1100 * 2 ^ 1100 := Nat.mul_lt_mul'' h2 h2
  have e2 : t.2.natAbs * t.2.natAbs * t.1 < 2 ^ 1100 * 2 ^ 1100 * 2 ^ 100 := Nat.mul_lt_mul'' e1 h1
  rw [← Nat.pow_add, ← Nat.pow_add] at e2
  have e3 : t.2.natAbs * t.2.natAbs * t.1 * 2 ^ (2 * B) < 2 ^ (1100 + 1100 + 100) * 2 ^ (2 * B) := Nat.mul_lt_mul_of_pos_right e2 (Nat.two_pow_pos _)
  rw [← Nat.pow_add] at e3
  exact Nat.lt_of_lt_of_le e3 (Nat.pow_le_pow_right (by decide) (by omega))
theorem un_lt {n : Nat} (h : n < 2 ^ 134300) : Float64.isqrt n < 2 ^ 67150 := by
  refine Classical.byContradiction fun hc => ?_
  have h1 := (Float64.isqrt_spec n).1
  have h2 : 2 ^ 67150 ≤ Float64.isqrt n := Nat.le_of_not_lt hc
  have h3 := Nat.mul_le_mul h2 h2
  rw [← Nat.pow_add] at h3
  omega
def r_between (ds : List PyData) (d : PyData) : Prop := ∃ (p : List ITrm) (B : Nat), ds = [.list (p.map iD), .int (B : Int)] ∧ p.length ≤ 60 ∧ B ≤ 66000 ∧ (∀ t ∈ p, t.1 < 2 ^ 100 ∧ Sz 1100 t.2) ∧ d = .tuple [.int (los B p), .int (his B p)]
section
variable {P : Program} {w : World} {K : PySem.W.Frag} {mg : Str → Option Value} {base : Heap}
abbrev gBtw (p : List ITrm) (B : Nat) (x y : Int) (a b c d e : DV) : DS := ⟨[.d (.list (p.map iD)), .d (.int (B : Int)), .d (.int x), .d (.int y), a, b, c, d, e], []⟩
theorem ok_between (T : Tx K mg) (hN : base.NoSeer) (ht : P.given.tree = none) : FnOk P w K mg base CX0 41 T.d_between.fa T.d_between.fd P_between (FP K r_between) := by
  refine fp_ok T.d_between.F sc_between (fun ds d h => ?_) fun cdv A outer s H E b hK hr ds d h => ?_
  · obtain ⟨p, B, rfl, _⟩ := h
    rfl
  · obtain ⟨p, B, rfl, hz, hB, hq, rfl⟩ := h
    refine sx_cons (sy_asg (i := 2) ev_int sc_between.nd rfl (.inl rfl) li ?_)
    refine sx_cons (sy_asg (i := 3) ev_int sc_between.nd rfl (.inl rfl) li ?_)
    refine sx_cons (sy_forL (g := gTup K 2 (gList [gName 4, gName 5])) hK.symm PassesOwn.never rfl (ds := p.map iD) (S1 := gBtw p B (los B (p.take 0)) (his B (p.take 0)) .no .no .no .no .no) (vn 0) (pg_tup rfl (pgs_cons (pg_name (i := 4) sc_between.nd rfl (.inl rfl)) (pgs_cons (pg_name (i := 5) sc_between.nd rfl (.inl rfl)) pgs_nil)))
      (fun i S' => ∃ a b c d e, S' = gBtw p B (los B (p.take i)) (his B (p.take i)) a b c d e) ⟨.no, .no, .no, .no, .no, rfl⟩ ?_ ?_)
    · rintro i d S' hd ⟨x4, x5, x6, x7, x8, rfl⟩
      obtain ⟨t, hti, rfl⟩ : ∃ t, p[i]? = some t ∧ d = iD t := by
        rw [List.getElem?_map] at hd
        cases hx : p[i]? with
        | none => rw [hx] at hd; cases hd
        | some t => rw [hx] at hd; exact ⟨t, rfl, (Option.some.inj hd).symm⟩
      obtain ⟨r1, z1⟩ := hq t (List.mem_of_getElem? hti)
      rw [los_succ hti, his_succ hti]
      generalize los B (p.take i) = x
      generalize his B (p.take i) = y
      have esq : t.2 * t.2 * (t.1 : Int) * 2 ^ ((2 : Int) * (B : Int)).toNat = ((sq B t : Nat) : Int) := by
        unfold sq
        rw [show ((2 : Int) * (B : Int)).toNat = 2 * B by omega]
        rw [Int.natCast_mul, Int.natCast_mul, ← Int.natAbs_mul_self, Int.natCast_pow]
        rfl
      have sqz := sq_lt r1 z1 hB
      have uz : un B t < 2 ^ 67150 := un_lt sqz
      have zr : Sz 100 ((t.1 : Nat) : Int) := Sz.nat r1
      have zu : Sz 67150 ((un B t : Nat) : Int) := Sz.nat uz
      refine ⟨gBtw p B x y (.d (.int (t.1 : Int))) (.d (.int t.2)) x6 x7 x8, tg_tup (ds := [.int (t.1 : Int), .int t.2]) hK.symm rfl (.cons (S := gBtw p B x y x4 x5 x6 x7 x8) (tg_name (i := 4) li) rfl (.cons (tg_name (i := 5) li) rfl .nil)), rfl, ?_⟩
      refine sx_cons (sy_asg (i := 6) (S1 := gBtw p B x y (.d (.int (t.1 : Int))) (.d (.int t.2)) x6 x7 x8) (x := .d (.int ((sq B t : Nat) : Int))) ?_ sc_between.nd rfl (.inl rfl) li ?_)
      · rw [← esq]
        refine ev_shl (ev_mul (ev_mul (vn 5) (vn 5) (z1.cm z1 (by decide))) (vn 4) ((z1.mul z1).cm zr (by decide))) (ev_mul ev_int (vn 1) ?_) ⟨by omega, ?_⟩
        · exact Sz.cm (a := 20) (b := 20) (show (2 : Int).natAbs < 2 ^ 20 by decide) (Sz.nat (by omega)) (by decide)
        · have hb : Builtin.Int.intBits (t.2 * t.2 * (t.1 : Int)) ≤ 2300 := PySem.intBits_le_iff.mpr (((z1.mul z1).mul zr).mono (by decide))
          omega
      refine sx_cons (sy_asg (i := 7) (x := .d (.int ((un B t : Nat) : Int))) (ev_callF (cr_isqrt hN ht rfl rfl rfl hr) rfl T.i_isqrt (ea_cons (vn 6) ea_nil) (rc_isqrt (by have := log2_lt' (by decide) sqz; omega) (Float64.isqrt_spec _).1 (Float64.isqrt_spec _).2)) sc_between.nd rfl (.inl rfl) li ?_)
      refine sx_cons (sy_asg (i := 8) (S1 := gBtw p B x y (.d (.int (t.1 : Int))) (.d (.int t.2)) (.d (.int ((sq B t : Nat) : Int))) (.d (.int ((un B t : Nat) : Int))) x8) (x := .d (.int ((ov B t : Nat) : Int))) (ev_if (et_eqI (ev_mul (vn 7) (vn 7) (zu.cm zu (by decide))) (vn 6)) (fun h => ?_) fun h => ?_) sc_between.nd rfl (.inl rfl) li ?_)
      · have h : ((un B t : Nat) : Int) * ((un B t : Nat) : Int) = ((sq B t : Nat) : Int) := of_decide_eq_true h
        rw [show ov B t = un B t from if_pos (by exact_mod_cast h)]
        exact vn 7
      · have h : ¬ ((un B t : Nat) : Int) * ((un B t : Nat) : Int) = ((sq B t : Nat) : Int) := of_decide_eq_false h
        rw [show ov B t = un B t + 1 from if_neg (by intro q; exact h (by exact_mod_cast q))]
        rw [show ((un B t + 1 : Nat) : Int) = (un B t : Int) + 1 from rfl]
        exact ev_add (vn 7) ev_int
      refine sx_one (sy_if (et_gt (vn 5) ev_int) (fun h => ?_) fun h => ?_)
      · have h : (0 : Int) < t.2 := of_decide_eq_true h
        rw [show lo1 B t = (un B t : Int) from if_pos h, show hi1 B t = (ov B t : Int) from if_pos h]
        refine sx_cons (sy_aug (i := 2) (ipR0 iop_add) rfl (vn 7) trivial sc_between.nd rfl (.inl rfl) li ?_)
        exact sx_one (sy_aug (i := 3) (ipR0 iop_add) rfl (vn 8) trivial sc_between.nd rfl (.inl rfl) li ⟨_, _, _, _, _, rfl⟩)
      · have h : ¬ (0 : Int) < t.2 := of_decide_eq_false h
        rw [show lo1 B t = -(ov B t : Int) from if_neg h, show hi1 B t = -(un B t : Int) from if_neg h, ← Int.sub_eq_add_neg, ← Int.sub_eq_add_neg]
        refine sx_cons (sy_aug (i := 2) (ipR0 iop_sub) rfl (vn 8) trivial sc_between.nd rfl (.inl rfl) li ?_)
        exact sx_one (sy_aug (i := 3) (ipR0 iop_sub) rfl (vn 7) trivial sc_between.nd rfl (.inl rfl) li ⟨_, _, _, _, _, rfl⟩)
    · rintro S' ⟨x4, x5, x6, x7, x8, rfl⟩
      rw [List.length_map, List.take_length]
      exact sx_one (sy_retF (ev_tup (ds := [_, _]) (ea_cons (vn 2) (ea_cons (vn 3) ea_nil)) lq))
end
end K0
end
section
set_option Elab.async false
set_option linter.all false
set_option maxRecDepth 100000
set_option maxHeartbeats 4000000
set_option exponentiation.threshold 300000
namespace K0
open PySem PySem.Spec PyProof.Rows L2 DX
set_option autoImplicit false
open TS in
theorem rt_sq_B (B : Nat) (t : ITrm) : rt (sq B t) = ((t.2.natAbs : Nat) : Rl) * rt t.1 * ((2 ^ B : Nat) : Rl) := by
  have e : sq B t = (t.2.natAbs * t.2.natAbs) * t.1 * ((2 ^ B) * (2 ^ B)) := by
    unfold sq
    rw [show 2 * B = B + B by omega, Nat.pow_add]
  rw [e, rt_mul, rt_mul, rt_square, rt_square]
open TS in
theorem un_ov (B : Nat) (t : ITrm) : ((un B t : Nat) : Rl) ≤ rt (sq B t) ∧ rt (sq B t) ≤ ((ov B t : Nat) : Rl) ∧ ov B t ≤ un B t + 1 := by
  have h := rt_floor (Float64.isqrt_spec (sq B t)).1 (Float64.isqrt_spec (sq B t)).2
  refine ⟨h.1, ?_, ?_⟩
  · unfold ov
    by_cases e : un B t * un B t = sq B t
    · rw [if_pos e]
      have : rt (sq B t) = ((un B t : Nat) : Rl) := by rw [← e, rt_square]
      rw [this]
      exact Std.IsPreorder.le_refl _
    · rw [if_neg e]
      have h2 := h.2
      rw [nat_add, nat_one]
      show rt (sq B t) ≤ ((un B t : Nat) : Rl) + 1
      have : rt (sq B t) < ((un B t : Nat) : Rl) + 1 := h2
      grind
  · unfold ov
    split <;> omega
open TS in
theorem one_bounds (B : Nat) (t : ITrm) : ((lo1 B t : Int) : Rl) ≤ tv t * ((2 ^ B : Nat) : Rl) ∧ tv t * ((2 ^ B : Nat) : Rl) ≤ ((hi1 B t : Int) : Rl) ∧ hi1 B t ≤ lo1 B t + 1 := by
  obtain ⟨h1, h2, h3⟩ := un_ov B t
  have e := rt_sq_B B t
  unfold lo1 hi1 tv
  by_cases z : 0 < t.2
  · rw [if_pos z, if_pos z]
    have ez : ((t.2.natAbs : Nat) : Rl) = ((t.2 : Int) : Rl) := by rw [← int_nat, show ((t.2.natAbs : Nat) : Int) = t.2 by omega]
    rw [ez] at e
    rw [← e, int_nat, int_nat]
    exact ⟨h1, h2, by omega⟩
  · rw [if_neg z, if_neg z]
    have ez : ((t.2.natAbs : Nat) : Rl) = -((t.2 : Int) : Rl) := by rw [← int_nat, show ((t.2.natAbs : Nat) : Int) = -t.2 by omega, int_neg]
    rw [ez] at e
    have e2 : (t.2 : Rl) * rt t.1 * ((2 ^ B : Nat) : Rl) = - rt (sq B t) := by rw [e]; grind
    rw [e2, int_neg, int_neg, int_nat, int_nat]
    refine ⟨?_, ?_, by omega⟩
    · grind
    · grind
open TS in
theorem sum_bounds (B : Nat) (p : List ITrm) : ((los B p : Int) : Rl) ≤ sv p * ((2 ^ B : Nat) : Rl) ∧ sv p * ((2 ^ B : Nat) : Rl) ≤ ((his B p : Int) : Rl) ∧ his B p ≤ los B p + p.length := by
  induction p with
  | nil =>
    refine ⟨?_, ?_, by show (0 : Int) ≤ 0 + ((0 : Nat) : Int); omega⟩
    · show ((0 : Int) : Rl) ≤ 0 * _
      rw [int_zero]; grind
    · show 0 * _ ≤ ((0 : Int) : Rl)
      rw [int_zero]; grind
  | cons t p ih =>
    obtain ⟨a1, a2, a3⟩ := ih
    obtain ⟨b1, b2, b3⟩ := one_bounds B t
    have e1 : los B (t :: p) = lo1 B t + los B p := rfl
    have e2 : his B (t :: p) = hi1 B t + his B p := rfl
    have e3 : sv (t :: p) * ((2 ^ B : Nat) : Rl) = tv t * ((2 ^ B : Nat) : Rl) + sv p * ((2 ^ B : Nat) : Rl) := by
      show (tv t + sv p) * _ = _
      grind
    rw [e1, e2, e3, int_add, int_add, List.length_cons]
    refine ⟨by grind, by grind, by omega⟩
/-- what a sum over roots must be so that its sign can be told -/
structure Tell (p : List ITrm) : Prop where
  sqf : ∀ t ∈ p, TS.Sqf t.1
  inc : p.Pairwise fun a b => a.1 < b.1
  nz : ∀ t ∈ p, t.2 ≠ 0
  len : p.length ≤ 8
  sm : TS.sz p ≤ ((2 ^ 222 : Nat) : TS.Rl)
theorem Tell.nd {p : List ITrm} (h : Tell p) : (p.map (·.1)).Nodup := by
  have : (p.map (·.1)).Pairwise (· < ·) := List.pairwise_map.mpr h.inc
  exact List.Pairwise.imp (fun {a b} hlt e => by rw [e] at hlt; exact Nat.lt_irrefl _ hlt) this
theorem Tell.ne {p : List ITrm} (h : Tell p) (hp : p ≠ []) : TS.sv p ≠ 0 := fun e => by
  obtain ⟨t, ht⟩ := List.exists_mem_of_ne_nil p hp
  exact h.nz t ht (TS.indep p h.sqf h.nd e t ht)
theorem Tell.fine {p : List ITrm} (h : Tell p) (hp : p ≠ []) : TS.Fine 0 p := ⟨h.sqf, h.nd, h.nz, fun e => (e rfl).elim, .inr hp⟩
open TS in
/-- as long as the sign is not told, the bits are few -/
theorem Tell.few {p : List ITrm} (h : Tell p) (hp : p ≠ []) {B w : Nat} (hw : Ab (((2 ^ B : Nat) : Rl) * sv p) (w : Rl)) (w16 : w ≤ 2 ^ 300) : B < 57000 := by
  have hq := norm_bound (h.fine hp) (2 ^ 222) (2 ^ B) w (by
    rw [Int.natAbs_zero, nat_zero]
    have := h.sm
    grind) (by
    rw [int_zero]
    have : ((2 ^ B : Nat) : Rl) * (0 + sv p) = ((2 ^ B : Nat) : Rl) * sv p := by grind
    rw [this]
    exact hw)
  have hl : 2 ^ p.length ≤ 2 ^ 8 := Nat.pow_le_pow_right (by decide) h.len
  have h2 : (2 ^ 222) ^ (2 ^ p.length - 1) ≤ (2 ^ 222) ^ 255 := Nat.pow_le_pow_right (by decide) (by omega)
  have h3 : 2 ^ B ≤ 2 ^ 300 * (2 ^ 222) ^ 255 := Nat.le_trans hq (Nat.mul_le_mul w16 h2)
  rw [← Nat.pow_mul, ← Nat.pow_add] at h3
  have := (Nat.pow_le_pow_iff_right (show 1 < 2 by decide)).mp h3
  omega
end K0
end
section
set_option Elab.async false
set_option linter.all false
set_option maxRecDepth 100000
set_option maxHeartbeats 4000000
set_option exponentiation.threshold 300000
namespace DX
open PySem PySem.Spec PyProof.Rows L2
theorem ev_neg {X : Cx} {b : Bs} {S S1 : DS} {pos : Pos} {e : Expr} {i : Int} (h : EV X b e S (.d (.int i)) S1) : EV X b (.UnaryOp .USub e pos) S (.d (.int (-i))) S1 := by
  intro σ H r Q q
  refine wE_of (pe_un un_neg (peW _)) (h σ H r _ fun v H1 k1 r1 x1 a1 => ?_)
  cases k1
  exact ⟨_, rfl, q _ H1 (.int _) r1 x1 a1⟩
end DX
namespace K0
open PySem PySem.Spec PyProof.Rows L2 DX
set_option autoImplicit false
/-- the integers over the common low -/
def pz (l : List Trm) : List ITrm := l.map fun t => (t.1, nz (lcms l) t)
theorem pz_data (l : List Trm) : l.map (nD (lcms l)) = (pz l).map iD := by
  unfold pz
  rw [List.map_map]
  rfl
/-- a sum whose sign can be told -/
structure Good (l : List Trm) : Prop where
  low : lcms l < 2 ^ 60
  qs : ∀ t ∈ l, t.1 < 2 ^ 100 ∧ QS 1000 t.2
  tell : Tell (pz l)
theorem Good.len {l : List Trm} (h : Good l) : l.length ≤ 8 := by
  have := h.tell.len
  unfold pz at this
  rw [List.length_map] at this
  exact this
theorem Good.small {l : List Trm} (h : Good l) : ∀ t ∈ pz l, t.1 < 2 ^ 100 ∧ Sz 1100 t.2 := by
  intro t ht
  obtain ⟨u, hu, rfl⟩ := List.mem_map.mp ht
  refine ⟨(h.qs u hu).1, ?_⟩
  have h1 : Sz 1000 u.2.num := (h.qs u hu).2.1
  have h2 : Sz 60 ((lcms l / u.2.den : Nat) : Int) := Sz.nat (Nat.lt_of_le_of_lt (Nat.div_le_self _ _) h.low)
  exact (h1.mul h2).mono (by decide)
def SignIs (p : List ITrm) (s : Int) : Prop := (p = [] ∧ s = 0) ∨ (0 < TS.sv p ∧ s = 1) ∨ (TS.sv p < 0 ∧ s = -1)
def r_sum_sign (ds : List PyData) (d : PyData) : Prop := ∃ (l : List Trm) (s : Int), ds = [sD l] ∧ Good l ∧ SignIs (pz l) s ∧ d = .int s
open TS in
/-- not told yet: the sum is small -/
theorem small_of {B : Nat} {p : List ITrm} (h1 : los B p ≤ 0) (h2 : 0 ≤ his B p) : Ab (((2 ^ B : Nat) : Rl) * sv p) ((p.length : Nat) : Rl) := by
  obtain ⟨a1, a2, a3⟩ := sum_bounds B p
  have e : ((2 ^ B : Nat) : Rl) * sv p = sv p * ((2 ^ B : Nat) : Rl) := by grind
  rw [e]
  have b1 : ((-(p.length : Int) : Int) : Rl) ≤ ((los B p : Int) : Rl) := int_le.mpr (by omega)
  have b2 : ((his B p : Int) : Rl) ≤ (((p.length : Int) : Int) : Rl) := int_le.mpr (by omega)
  rw [int_neg, int_nat] at b1
  rw [int_nat] at b2
  refine ⟨?_, ?_⟩
  · grind
  · grind
open TS in
theorem sign_pos {B : Nat} {p : List ITrm} {s : Int} (hs : SignIs p s) (h : 0 < los B p) : s = 1 := by
  obtain ⟨a1, a2, a3⟩ := sum_bounds B p
  have b1 : ((0 : Int) : Rl) < ((los B p : Int) : Rl) := int_lt.mpr h
  rw [int_zero] at b1
  have b2 : (0 : Rl) ≤ ((2 ^ B : Nat) : Rl) := nat_nn _
  rcases hs with ⟨rfl, _⟩ | ⟨_, e⟩ | ⟨h2, _⟩
  · exact absurd h (show ¬ (0 : Int) < 0 by decide)
  · exact e
  · have b3 : 0 ≤ (- sv p) * ((2 ^ B : Nat) : Rl) := mul_nonneg (by grind) b2
    exact absurd (show (0 : Rl) < 0 by grind) (by grind)
open TS in
theorem sign_neg {B : Nat} {p : List ITrm} {s : Int} (hs : SignIs p s) (h : his B p < 0) : s = -1 := by
  obtain ⟨a1, a2, a3⟩ := sum_bounds B p
  have b1 : ((his B p : Int) : Rl) < ((0 : Int) : Rl) := int_lt.mpr h
  rw [int_zero] at b1
  have b2 : (0 : Rl) ≤ ((2 ^ B : Nat) : Rl) := nat_nn _
  rcases hs with ⟨rfl, _⟩ | ⟨h2, _⟩ | ⟨_, e⟩
  · exact absurd h (show ¬ (0 : Int) < 0 by decide)
  · have b3 : 0 ≤ sv p * ((2 ^ B : Nat) : Rl) := mul_nonneg (by grind) b2
    exact absurd (show (0 : Rl) < 0 by grind) (by grind)
  · exact e
section
variable {P : Program} {w : World} {K : PySem.W.Frag} {mg : Str → Option Value} {base : Heap}
abbrev gSg (l : List Trm) (B : Nat) : DS := ⟨[.d (sD l), .d (.list ((pz l).map iD)), .d (.int (B : Int)), .d (.int (los B (pz l))), .d (.int (his B (pz l)))], []⟩
theorem ok_sum_sign (T : Tx K mg) (hN : base.NoSeer) (ht : P.given.tree = none) : FnOk P w K mg base CX0 42 T.d_sum_sign.fa T.d_sum_sign.fd P_sum_sign (FP K r_sum_sign) := by
  refine fp_ok T.d_sum_sign.F sc_sum_sign (fun ds d h => ?_) fun cdv A outer s H E b hK hr ds d h => ?_
  · obtain ⟨l, s, rfl, _⟩ := h
    rfl
  · obtain ⟨l, s, rfl, hg, hs, rfl⟩ := h
    refine sx_cons (sy_if (et_not (et_truth (vn 0) (tru_tup hK.symm))) (fun h => ?_) fun h => ?_)
    · have e : l = [] := by
        cases l with
        | nil => rfl
        | cons t l => cases h
      subst e
      have e0 : s = 0 := by
        rcases hs with ⟨_, e⟩ | ⟨h2, _⟩ | ⟨h2, _⟩
        · exact e
        · exact absurd h2 (show ¬ (0 : TS.Rl) < 0 by grind)
        · exact absurd h2 (show ¬ (0 : TS.Rl) < 0 by grind)
      subst e0
      exact sx_one (sy_retF ev_int)
    · have hne : pz l ≠ [] := fun e => by
        cases l with
        | nil => cases h
        | cons t l => cases e
      refine sx_nil ?_
      refine sx_cons (sy_asg (i := 1) (x := .d (.list ((pz l).map iD))) (ev_ixT hK.symm (ev_call (ok_over_one_low T) hK.symm (hr.mono (by decide)) rfl T.d_over_one_low.m T.d_over_one_low.F.kp T.d_over_one_low.b pass0 (ds := [sD l]) (ea_cons (vn 0) ea_nil) ⟨l, rfl, by have := hg.len; omega, hg.low, fun t ht => (hg.qs t ht).2, rfl⟩) ev_int (by rw [← pz_data]; rfl)) sc_sum_sign.nd rfl (.inl rfl) li ?_)
      refine sx_cons (sy_asg (i := 2) ev_int sc_sum_sign.nd rfl (.inl rfl) li ?_)
      refine sx_cons (sy_unpack (S2 := gSg l 64) (ev_call (ok_between T hN ht) hK.symm hr rfl T.d_between.m T.d_between.F.kp T.d_between.b pass0 (ds := [.list ((pz l).map iD), .int ((64 : Nat) : Int)]) (d := .tuple [.int (los 64 (pz l)), .int (his 64 (pz l))]) (ea_cons (vn 1) (ea_cons (vn 2) ea_nil)) ⟨pz l, 64, rfl, by have := hg.tell.len; omega, by decide, hg.small, rfl⟩) (pg_tup rfl (pgs_cons (pg_name (i := 3) sc_sum_sign.nd rfl (.inl rfl)) (pgs_cons (pg_name (i := 4) sc_sum_sign.nd rfl (.inl rfl)) pgs_nil))) (tg_tup (ds := [.int (los 64 (pz l)), .int (his 64 (pz l))]) hK.symm rfl (.cons (S := ⟨[.d (sD l), .d (.list ((pz l).map iD)), .d (.int 64), .no, .no], []⟩) (tg_name (i := 3) li) rfl (.cons (tg_name (i := 4) li) rfl .nil))) rfl ?_)
      refine sx_cons (sy_while (fun μ S' => ∃ j B : Nat, B = 64 * 2 ^ j ∧ j ≤ 10 ∧ μ = 10 - j ∧ S' = gSg l B) _ ⟨0, 64, rfl, by decide, rfl, rfl⟩ PassesOwn.never ?_)
      rintro μ S' ⟨j, B, eB, hj, rfl, rfl⟩
      refine ⟨decide (los B (pz l) ≤ 0) && decide (0 ≤ his B (pz l)), _, et_chain (X := (cxOf CX0 P w K mg base N_sum_sign "sum_sign" (defScope s_sum_sign) T.d_sum_sign.fa cdv A outer _ H E).nox) op_le op_le rfl (vn 3) ev_int (vn 4) (rv_I0 fun _ => .bl _) (rv_I0 fun _ => .bl _), fun h => ?_, fun h => ?_⟩
      · rw [Bool.and_eq_true, decide_eq_true_eq, decide_eq_true_eq] at h
        have few := hg.tell.few hne (small_of h.1 h.2) (by have := hg.tell.len; exact Nat.le_trans this (by decide))
        have j10 : j < 10 := by
          rcases Nat.lt_or_ge j 10 with q | q
          · exact q
          · have : j = 10 := by omega
            subst this
            rw [eB] at few
            exact absurd few (by decide)
        have e2 : B * 2 = 64 * 2 ^ (j + 1) := by rw [eB, Nat.pow_succ]; omega
        have hB2 : B * 2 ≤ 66000 := by
          have : 2 ^ (j + 1) ≤ 2 ^ 10 := Nat.pow_le_pow_right (by decide) (by omega)
          omega
        refine sx_cons (sy_aug (i := 2) (ipR iop_mulX') rfl ev_int (Sz.cm (a := 20) (b := 20) (Sz.nat (by omega)) (show (2 : Int).natAbs < 2 ^ 20 by decide) (by decide)) sc_sum_sign.nd rfl (.inl rfl) li ?_)
        exact sx_one (sy_unpack (S2 := gSg l (B * 2)) (ev_call (ok_between T hN ht) hK.symm hr rfl T.d_between.m T.d_between.F.kp T.d_between.b pass0 (ds := [.list ((pz l).map iD), .int ((B * 2 : Nat) : Int)]) (d := .tuple [.int (los (B * 2) (pz l)), .int (his (B * 2) (pz l))]) (ea_cons (vn 1) (ea_cons (vn 2) ea_nil)) ⟨pz l, B * 2, rfl, by have := hg.tell.len; omega, hB2, hg.small, rfl⟩) (pg_tup rfl (pgs_cons (pg_name (i := 3) sc_sum_sign.nd rfl (.inl rfl)) (pgs_cons (pg_name (i := 4) sc_sum_sign.nd rfl (.inl rfl)) pgs_nil))) (tg_tup (ds := [.int (los (B * 2) (pz l)), .int (his (B * 2) (pz l))]) hK.symm rfl (.cons (S := ⟨[.d (sD l), .d (.list ((pz l).map iD)), .d (.int ((B * 2 : Nat) : Int)), .d (.int (los B (pz l))), .d (.int (his B (pz l)))], []⟩) (tg_name (i := 3) li) rfl (.cons (tg_name (i := 4) li) rfl .nil))) rfl ⟨10 - (j + 1), by omega, j + 1, B * 2, e2, by omega, rfl, rfl⟩)
      · refine sx_one (sy_retF (S1 := gSg l B) (ev_if (x := .d (.int s)) (et_gt (vn 3) ev_int) (fun h1 => ?_) fun h1 => ?_))
        · have h1 : 0 < los B (pz l) := of_decide_eq_true h1
          rw [sign_pos hs h1]
          exact ev_int
        · have h1 : ¬ 0 < los B (pz l) := of_decide_eq_false h1
          have h2 : his B (pz l) < 0 := by
            rw [Bool.and_eq_false_iff, decide_eq_false_iff_not, decide_eq_false_iff_not] at h
            omega
          rw [sign_neg hs h2]
          exact ev_neg ev_int
end
end K0
end
section
set_option Elab.async false
set_option linter.all false
set_option maxRecDepth 100000
set_option maxHeartbeats 4000000
set_option exponentiation.threshold 300000
namespace DX
open PySem PySem.Spec PyProof.Rows L2
theorem op_fdivP {X : Cx} : OpR X (binaryOp .FloorDiv) (rI CDivP fun i j => .int (i / j)) := opI fun i j _ _ _ _ _ hc q => by
  have h1 : (0 : Int) < j := hc.1
  exact floordiv_int (by omega) (by rw [Int.fdiv_eq_ediv_of_nonneg i (by omega)]; exact q) (.inl hc.2)
theorem ev_fdivP {X : Cx} {b : Bs} {S S1 S2 : DS} {pos : Pos} {e1 e2 : Expr} {i j : Int} (h1 : EV X b e1 S (.d (.int i)) S1) (h2 : EV X b e2 S1 (.d (.int j)) S2) (hc : CDivP i j) : EV X b (.BinOp e1 .FloorDiv e2 pos) S (.d (.int (i / j))) S2 := ev_op op_fdivP h1 h2 (rv_I hc fun _ => .int _)
end DX
namespace K0
open PySem PySem.Spec PyProof.Rows L2 DX
set_option autoImplicit false
open TS
theorem sz_ab (p : List ITrm) : Ab (sv p) (sz p) := by
  induction p with
  | nil => exact ⟨by show -(0 : Rl) ≤ 0; grind, by show (0 : Rl) ≤ 0; grind⟩
  | cons t p ih => exact (tv_ab t).add ih
/-- the part over 1, and the rest -/
theorem split_one {p : List ITrm} (h : Tell p) : ∃ (k : Int) (q : List ITrm), sv p = (k : Rl) + sv q ∧ sz p = ((k.natAbs : Nat) : Rl) + sz q ∧ (∀ t ∈ q, t ∈ p ∧ t.1 ≠ 1) ∧ (q.map (·.1)).Nodup ∧ q.length ≤ 8 ∧ (q = [] → p = [] ∨ ∃ z, p = [(1, z)]) := by
  have nd := h.nd
  have hl := h.len
  cases p with
  | nil => exact ⟨0, [], by show (0 : Rl) = ((0 : Int) : Rl) + 0; rw [int_zero]; grind, by show (0 : Rl) = ((0 : Nat) : Rl) + 0; rw [nat_zero]; grind, (fun _ h => by cases h), nd, Nat.zero_le _, fun _ => Or.inl rfl⟩
  | cons t p =>
    have hp := (List.pairwise_cons.mp h.inc).1
    by_cases e : t.1 = 1
    · refine ⟨t.2, p, ?_, ?_, fun u hu => ⟨List.mem_cons_of_mem _ hu, fun e1 => by have := hp u hu; omega⟩, (List.nodup_cons.mp nd).2, by rw [List.length_cons] at hl; omega, fun e1 => .inr ⟨t.2, by rw [e1, ← e]⟩⟩
      · show (t.2 : Rl) * rt t.1 + sv p = _
        rw [e, rt_one]; grind
      · show ((t.2.natAbs : Nat) : Rl) * rt t.1 + sz p = _
        rw [e, rt_one]; grind
    · refine ⟨0, t :: p, by rw [int_zero]; grind, by show _ = ((0 : Nat) : Rl) + _; rw [nat_zero]; grind, fun u hu => ⟨hu, fun e1 => ?_⟩, nd, hl, fun h => by cases h⟩
      rcases List.mem_cons.mp hu with q | q
      · rw [q] at e1; exact e e1
      · have h1 := hp u q
        have h2 := (h.sqf t (List.mem_cons_self ..)).1
        omega
def scl (m : Nat) (q : List ITrm) : List ITrm := q.map fun t => (t.1, t.2 * (m : Int))
theorem scl_sv (m : Nat) (q : List ITrm) : sv (scl m q) = (m : Rl) * sv q := by
  induction q with
  | nil => show (0 : Rl) = (m : Rl) * 0; grind
  | cons t q ih =>
    show ((t.2 * (m : Int) : Int) : Rl) * rt t.1 + sv (scl m q) = (m : Rl) * ((t.2 : Rl) * rt t.1 + sv q)
    rw [ih, int_mul, int_nat]
    grind
theorem scl_sz (m : Nat) (q : List ITrm) : sz (scl m q) = (m : Rl) * sz q := by
  induction q with
  | nil => show (0 : Rl) = (m : Rl) * 0; grind
  | cons t q ih =>
    show (((t.2 * (m : Int)).natAbs : Nat) : Rl) * rt t.1 + sz (scl m q) = (m : Rl) * (((t.2.natAbs : Nat) : Rl) * rt t.1 + sz q)
    rw [ih, Int.natAbs_mul, Int.natAbs_natCast, nat_mul]
    grind
/-- a whole number has two alike bounds -/
theorem exact_one {B : Nat} {p : List ITrm} (h : p = [] ∨ ∃ z, p = [(1, z)]) : los B p = his B p := by
  rcases h with rfl | ⟨z, rfl⟩
  · rfl
  · have e : un B (1, z) * un B (1, z) = sq B (1, z) := by
      have e1 : sq B (1, z) = (z.natAbs * 2 ^ B) * (z.natAbs * 2 ^ B) := by
        unfold sq
        rw [show 2 * B = B + B by omega, Nat.pow_add]
        show z.natAbs * z.natAbs * 1 * _ = _
        grind
      have s := Float64.isqrt_spec (sq B (1, z))
      have e2 : un B (1, z) = z.natAbs * 2 ^ B := root_unique s.1 s.2 (by rw [e1]; exact Nat.le_refl _) (by rw [e1]; exact Nat.mul_lt_mul'' (Nat.lt_succ_self _) (Nat.lt_succ_self _))
      rw [e2, e1]
    have eo : ov B (1, z) = un B (1, z) := if_pos e
    show lo1 B (1, z) + 0 = hi1 B (1, z) + 0
    unfold lo1 hi1
    rw [eo]
/-- as long as the figure is not told, the bits are few -/
theorem fig_few {p : List ITrm} (h : Tell p) (hs : sz p ≤ ((2 ^ 21 : Nat) : Rl)) {bits ex : Nat} (hb : bits ≤ 200) {c : Int} (h1 : los (bits + ex) p < c * (2 ^ ex : Nat)) (h2 : c * (2 ^ ex : Nat) ≤ his (bits + ex) p) : ex < 57000 := by
  obtain ⟨k, q, e1, e2, hq, nd, hl, hone⟩ := split_one h
  obtain ⟨a1, a2, a3⟩ := sum_bounds (bits + ex) p
  have hpl := h.len
  have m1 : ((2 ^ (bits + ex) : Nat) : Rl) = ((2 ^ bits : Nat) : Rl) * ((2 ^ ex : Nat) : Rl) := by rw [Nat.pow_add, nat_mul]
  rw [m1] at a1 a2
  have b1 : ((c * (2 ^ ex : Nat) : Int) : Rl) ≤ ((his (bits + ex) p : Int) : Rl) := int_le.mpr h2
  have b2 : ((los (bits + ex) p : Int) : Rl) ≤ ((c * (2 ^ ex : Nat) : Int) : Rl) := int_le.mpr (by omega)
  have b3 : ((his (bits + ex) p : Int) : Rl) ≤ ((los (bits + ex) p + (8 : Nat) : Int) : Rl) := int_le.mpr (by omega)
  rw [int_add, int_nat] at b3
  rw [int_mul, int_nat] at b1 b2
  generalize ((his (bits + ex) p : Int) : Rl) = hi at a2 b1 b3
  generalize ((los (bits + ex) p : Int) : Rl) = lo at a1 b2 b3
  -- the difference from the whole number
  have hw : Ab (((2 ^ ex : Nat) : Rl) * (((k * (2 ^ bits : Nat) - c : Int) : Rl) + sv (scl (2 ^ bits) q))) ((8 : Nat) : Rl) := by
    rw [scl_sv, int_sub, int_mul, int_nat]
    have e : ((2 ^ ex : Nat) : Rl) * ((k : Rl) * ((2 ^ bits : Nat) : Rl) - (c : Rl) + ((2 ^ bits : Nat) : Rl) * sv q) = sv p * (((2 ^ bits : Nat) : Rl) * ((2 ^ ex : Nat) : Rl)) - (c : Rl) * ((2 ^ ex : Nat) : Rl) := by rw [e1]; grind
    rw [e]
    exact ⟨by grind, by grind⟩
  have fine : Fine (k * (2 ^ bits : Nat) - c) (scl (2 ^ bits) q) := by
    refine ⟨fun t ht => ?_, ?_, fun t ht => ?_, fun _ t ht => ?_, ?_⟩
    · obtain ⟨u, hu, rfl⟩ := List.mem_map.mp ht
      exact h.sqf u (hq u hu).1
    · unfold scl
      rw [List.map_map]
      exact nd
    · obtain ⟨u, hu, rfl⟩ := List.mem_map.mp ht
      have h1 := h.nz u (hq u hu).1
      have h2 : (0 : Int) < ((2 ^ bits : Nat) : Int) := by have := Nat.two_pow_pos bits; omega
      exact Int.mul_ne_zero h1 (by omega)
    · obtain ⟨u, hu, rfl⟩ := List.mem_map.mp ht
      exact (hq u hu).2
    · refine Classical.byContradiction fun hc => ?_
      have hq0 : q = [] := Classical.byContradiction fun hne => hc (.inr fun e => hne (List.map_eq_nil_iff.mp e))
      have := exact_one (B := bits + ex) (hone hq0)
      omega
  -- the sizes
  obtain ⟨R, eR⟩ : ∃ R : Nat, R = 2 ^ 221 := ⟨_, rfl⟩
  have z0 : 0 ≤ sz p := (sz_ab p).nn
  obtain ⟨s1, s2⟩ := sz_ab p
  have X0 : (0 : Rl) ≤ ((2 ^ ex : Nat) : Rl) := nat_nn _
  have m0 : (0 : Rl) ≤ ((2 ^ bits : Nat) : Rl) := nat_nn _
  have r1 : ((2 ^ bits : Nat) : Rl) * sz p ≤ (R : Rl) := by
    have t1 : ((2 ^ bits : Nat) : Rl) ≤ ((2 ^ 200 : Nat) : Rl) := nat_le.mpr (Nat.pow_le_pow_right (by decide) hb)
    have t2 : (R : Rl) = ((2 ^ 200 : Nat) : Rl) * ((2 ^ 21 : Nat) : Rl) := by rw [← nat_mul, ← Nat.pow_add, eR]
    have t0 : (0 : Rl) ≤ ((2 ^ 200 : Nat) : Rl) := nat_nn _
    rw [t2]
    generalize ((2 ^ 200 : Nat) : Rl) = u at t0 t1
    generalize ((2 ^ 21 : Nat) : Rl) = v at hs
    have t3 := mul_nonneg (show 0 ≤ u - ((2 ^ bits : Nat) : Rl) by grind) z0
    have t4 := mul_nonneg t0 (show 0 ≤ v - sz p by grind)
    grind
  have X1 : (1 : Int) ≤ ((2 ^ ex : Nat) : Int) := by have := Nat.two_pow_pos ex; omega
  have r2 : c * ((2 ^ ex : Nat) : Int) ≤ (R : Int) * ((2 ^ ex : Nat) : Int) + 8 ∧ -((R : Int) * ((2 ^ ex : Nat) : Int) + 8) ≤ c * ((2 ^ ex : Nat) : Int) := by
    have t1 := mul_nonneg (show 0 ≤ (R : Rl) - ((2 ^ bits : Nat) : Rl) * sz p by grind) X0
    have t2 := mul_nonneg (show 0 ≤ sz p - sv p by grind) (mul_nonneg m0 X0)
    have t3 := mul_nonneg (show 0 ≤ sz p + sv p by grind) (mul_nonneg m0 X0)
    have n8 : ((8 : Nat) : Rl) = ((8 : Int) : Rl) := (int_nat 8).symm
    rw [n8] at b3
    constructor
    · refine int_le.mp ?_
      rw [int_add, int_mul, int_mul, int_nat, int_nat]
      grind
    · refine int_le.mp ?_
      rw [int_neg, int_add, int_mul, int_mul, int_nat, int_nat]
      grind
  have r3 : c.natAbs ≤ R + 8 := by
    obtain ⟨t1, t2⟩ := r2
    generalize ((2 ^ ex : Nat) : Int) = X at t1 t2 X1
    refine Classical.byContradiction fun hc => ?_
    rcases Int.lt_or_le c 0 with q | q
    · have g1 : c ≤ -((R : Int) + 9) := by omega
      have g2 := Int.mul_le_mul_of_nonneg_right g1 (show (0 : Int) ≤ X by omega)
      have g3 : -((R : Int) + 9) * X = -((R : Int) * X) - 9 * X := by grind
      omega
    · have g1 : (R : Int) + 9 ≤ c := by omega
      have g2 := Int.mul_le_mul_of_nonneg_right g1 (show (0 : Int) ≤ X by omega)
      have g3 : ((R : Int) + 9) * X = (R : Int) * X + 9 * X := by grind
      omega
  have r4 : (k * ((2 ^ bits : Nat) : Int) - c).natAbs ≤ k.natAbs * 2 ^ bits + (R + 8) := by
    have t1 := Int.natAbs_sub_le (k * ((2 ^ bits : Nat) : Int)) c
    rw [Int.natAbs_mul, Int.natAbs_natCast] at t1
    omega
  have hM : (((k * ((2 ^ bits : Nat) : Int) - c).natAbs : Nat) : Rl) + sz (scl (2 ^ bits) q) ≤ ((2 * R + 8 : Nat) : Rl) := by
    have t1 : (((k * ((2 ^ bits : Nat) : Int) - c).natAbs : Nat) : Rl) ≤ ((k.natAbs * 2 ^ bits + (R + 8) : Nat) : Rl) := nat_le.mpr r4
    rw [nat_add, nat_add, nat_mul] at t1
    rw [scl_sz, nat_add, nat_mul]
    rw [e2] at r1
    have t2 : ((2 : Nat) : Rl) = 1 + 1 := by rw [show (2 : Nat) = 1 + 1 from rfl, nat_add, nat_one]
    rw [t2]
    grind
  have fin := norm_bound fine (2 * R + 8) (2 ^ ex) 8 hM hw
  have l1 : (scl (2 ^ bits) q).length ≤ 8 := by unfold scl; rw [List.length_map]; exact hl
  have l2 : 2 ^ (scl (2 ^ bits) q).length ≤ 2 ^ 8 := Nat.pow_le_pow_right (by decide) l1
  have l3 : 2 * R + 8 ≤ 2 ^ 223 := by rw [eR]; decide
  have l4 : (2 * R + 8) ^ (2 ^ (scl (2 ^ bits) q).length - 1) ≤ (2 ^ 223) ^ 255 := Nat.le_trans (Nat.pow_le_pow_left l3 _) (Nat.pow_le_pow_right (by decide) (by omega))
  have l5 : 2 ^ ex ≤ 2 ^ 3 * (2 ^ 223) ^ 255 := Nat.le_trans fin (Nat.mul_le_mul (by decide) l4)
  rw [← Nat.pow_mul, ← Nat.pow_add] at l5
  have := (Nat.pow_le_pow_iff_right (show 1 < 2 by decide)).mp l5
  omega
end K0
end
section
set_option Elab.async false
set_option linter.all false
set_option maxRecDepth 100000
set_option maxHeartbeats 4000000
set_option exponentiation.threshold 300000
namespace K0
open PySem PySem.Spec PyProof.Rows L2 DX
set_option autoImplicit false
open TS
def FigIs (p : List ITrm) (L bits : Nat) (f : Int) : Prop := ((f * (L : Int) : Int) : Rl) ≤ sv p * ((2 ^ bits : Nat) : Rl) ∧ sv p * ((2 ^ bits : Nat) : Rl) < (((f + 1) * (L : Int) : Int) : Rl)
def r_sum_figures (ds : List PyData) (d : PyData) : Prop := ∃ (l : List Trm) (bits : Nat) (f : Int), ds = [sD l, .int (bits : Int)] ∧ Good l ∧ sz (pz l) ≤ ((2 ^ 21 : Nat) : Rl) ∧ bits ≤ 200 ∧ FigIs (pz l) (lcms l) bits f ∧ d = .int f
theorem lo_le_hi (B : Nat) (p : List ITrm) : los B p ≤ his B p := by
  obtain ⟨a1, a2, _⟩ := sum_bounds B p
  refine int_le.mp ?_
  grind
theorem los_size {p : List ITrm} (h : Tell p) (hs : sz p ≤ ((2 ^ 21 : Nat) : Rl)) {bits ex : Nat} (hb : bits ≤ 200) : (los (bits + ex) p).natAbs < 2 ^ (ex + 300) ∧ (his (bits + ex) p).natAbs < 2 ^ (ex + 300) := by
  obtain ⟨a1, a2, a3⟩ := sum_bounds (bits + ex) p
  have a4 := lo_le_hi (bits + ex) p
  have hl := h.len
  obtain ⟨s1, s2⟩ := sz_ab p
  have y0 : (0 : Rl) ≤ ((2 ^ (bits + ex) : Nat) : Rl) := nat_nn _
  have t1 := mul_nonneg (show 0 ≤ ((2 ^ 21 : Nat) : Rl) - sv p by grind) y0
  have t2 := mul_nonneg (show 0 ≤ ((2 ^ 21 : Nat) : Rl) + sv p by grind) y0
  have u1 : los (bits + ex) p ≤ ((2 ^ 21 * 2 ^ (bits + ex) : Nat) : Int) := by
    refine int_le.mp ?_
    rw [int_nat, nat_mul]
    grind
  have u2 : -((2 ^ 21 * 2 ^ (bits + ex) : Nat) : Int) ≤ his (bits + ex) p := by
    refine int_le.mp ?_
    rw [int_neg, int_nat, nat_mul]
    grind
  have u3 : 2 ^ 21 * 2 ^ (bits + ex) + 8 < 2 ^ (ex + 300) := by
    rw [← Nat.pow_add]
    have v1 : 2 ^ (21 + (bits + ex)) ≤ 2 ^ (ex + 221) := Nat.pow_le_pow_right (by decide) (by omega)
    have v2 : 2 ^ (ex + 300) = 2 ^ (ex + 221) * 2 ^ 79 := by rw [← Nat.pow_add]
    have v3 : 1 ≤ 2 ^ (ex + 221) := Nat.two_pow_pos _
    rw [v2]
    have v4 : 2 ^ (ex + 221) * 16 ≤ 2 ^ (ex + 221) * 2 ^ 79 := Nat.mul_le_mul_left _ (by decide)
    omega
  generalize 2 ^ 21 * 2 ^ (bits + ex) = Y at u1 u2 u3
  generalize 2 ^ (ex + 300) = Z at u3 ⊢
  omega
theorem fig_is {p : List ITrm} {L bits ex : Nat} {f c : Int} (hL : 0 < L) (hf : FigIs p L bits f) (h1 : c * ((L : Int) * ((2 ^ ex : Nat) : Int)) ≤ los (bits + ex) p) (h2 : his (bits + ex) p < (c + 1) * ((L : Int) * ((2 ^ ex : Nat) : Int))) : c = f := by
  obtain ⟨a1, a2, a3⟩ := sum_bounds (bits + ex) p
  obtain ⟨f1, f2⟩ := hf
  have m1 : ((2 ^ (bits + ex) : Nat) : Rl) = ((2 ^ bits : Nat) : Rl) * ((2 ^ ex : Nat) : Rl) := by rw [Nat.pow_add, nat_mul]
  rw [m1] at a1 a2
  have b1 := int_le.mpr h1
  have b2 := int_lt.mpr h2
  rw [int_mul, int_mul, int_nat, int_nat] at b1 b2
  rw [int_mul, int_nat] at f1 f2
  rw [int_add, int_one] at f2 b2
  have X0 : (0 : Rl) ≤ ((2 ^ ex : Nat) : Rl) := nat_nn _
  have L0 : (0 : Rl) ≤ ((L : Nat) : Rl) := nat_nn _
  rcases Int.lt_trichotomy c f with q | q | q
  · have q1 : ((c + 1 : Int) : Rl) ≤ ((f : Int) : Rl) := int_le.mpr (by omega)
    rw [int_add, int_one] at q1
    have t1 := mul_nonneg (mul_nonneg (show 0 ≤ (f : Rl) - ((c : Rl) + 1) by grind) L0) X0
    have t2 := mul_nonneg (show 0 ≤ sv p * ((2 ^ bits : Nat) : Rl) - (f : Rl) * (L : Rl) by grind) X0
    exact absurd (show (0 : Rl) < 0 by grind) (by grind)
  · exact q
  · have q1 : ((f + 1 : Int) : Rl) ≤ ((c : Int) : Rl) := int_le.mpr (by omega)
    rw [int_add, int_one] at q1
    have X1 : (0 : Rl) < ((2 ^ ex : Nat) : Rl) := by
      have := nat_lt.mpr (Nat.two_pow_pos ex)
      rw [nat_zero] at this
      exact this
    have t1 := mul_nonneg (mul_nonneg (show 0 ≤ (c : Rl) - ((f : Rl) + 1) by grind) L0) X0
    have t2 := mul_pos (show 0 < ((f : Rl) + 1) * (L : Rl) - sv p * ((2 ^ bits : Nat) : Rl) by grind) X1
    exact absurd (show (0 : Rl) < 0 by grind) (by grind)
section
variable {P : Program} {w : World} {K : PySem.W.Frag} {mg : Str → Option Value} {base : Heap}
abbrev gFg (l : List Trm) (bits ex : Nat) (x5 x6 x7 : DV) : DS := ⟨[.d (sD l), .d (.int (bits : Int)), .d (.int (lcms l : Int)), .d (.list ((pz l).map iD)), .d (.int (ex : Int)), x5, x6, x7], []⟩
theorem ok_sum_figures (T : Tx K mg) (hN : base.NoSeer) (ht : P.given.tree = none) : FnOk P w K mg base CX0 42 T.d_sum_figures.fa T.d_sum_figures.fd P_sum_figures (FP K r_sum_figures) := by
  refine fp_ok T.d_sum_figures.F sc_sum_figures (fun ds d h => ?_) fun cdv A outer s H E b hK hr ds d h => ?_
  · obtain ⟨l, bits, f, rfl, _⟩ := h
    rfl
  · obtain ⟨l, bits, f, rfl, hg, hs, hb, hf, rfl⟩ := h
    have L0 := lcms_pos l
    refine sx_cons (sy_unpack (S2 := ⟨[.d (sD l), .d (.int (bits : Int)), .d (.int (lcms l : Int)), .d (.list ((pz l).map iD)), .no, .no, .no, .no], []⟩) (ev_call (ok_over_one_low T) hK.symm (hr.mono (by decide)) rfl T.d_over_one_low.m T.d_over_one_low.F.kp T.d_over_one_low.b pass0 (ds := [sD l]) (d := .tuple [.int (lcms l : Int), .list ((pz l).map iD)]) (ea_cons (vn 0) ea_nil) ⟨l, rfl, by have := hg.len; omega, hg.low, fun t ht => (hg.qs t ht).2, by rw [pz_data]⟩) (pg_tup rfl (pgs_cons (pg_name (i := 2) sc_sum_figures.nd rfl (.inl rfl)) (pgs_cons (pg_name (i := 3) sc_sum_figures.nd rfl (.inl rfl)) pgs_nil))) (tg_tup (ds := [.int (lcms l : Int), .list ((pz l).map iD)]) hK.symm rfl (.cons (S := ⟨[.d (sD l), .d (.int (bits : Int)), .no, .no, .no, .no, .no, .no], []⟩) (tg_name (i := 2) li) rfl (.cons (tg_name (i := 3) li) rfl .nil))) rfl ?_)
    refine sx_cons (sy_asg (i := 4) ev_int sc_sum_figures.nd rfl (.inl rfl) li ?_)
    refine sx_one (sy_while (fun μ S' => ∃ (j ex : Nat) (x5 x6 x7 : DV), ex = 64 * 2 ^ j ∧ j ≤ 10 ∧ μ = 10 - j ∧ S' = gFg l bits ex x5 x6 x7) _ ⟨0, 64, .no, .no, .no, rfl, by decide, rfl, rfl⟩ PassesOwn.never ?_)
    rintro μ S' ⟨j, ex, x5, x6, x7, eB, hj, rfl, rfl⟩
    refine ⟨true, _, et_val ev_bl, fun _ => ?_, fun h => nomatch h⟩
    have ex1 : ex ≤ 65536 := by
      have : 2 ^ j ≤ 2 ^ 10 := Nat.pow_le_pow_right (by decide) hj
      omega
    have eD : ((lcms l : Nat) : Int) * 2 ^ ((ex : Nat) : Int).toNat = ((lcms l : Nat) : Int) * ((2 ^ ex : Nat) : Int) := by
      rw [Int.toNat_natCast, Int.natCast_pow]
      rfl
    have D0 : (0 : Int) < ((lcms l : Nat) : Int) * ((2 ^ ex : Nat) : Int) := Int.mul_pos (by omega) (by have := Nat.two_pow_pos ex; omega)
    have hsh : CShl ((lcms l : Nat) : Int) ((ex : Nat) : Int) := ⟨by omega, by
      have : Builtin.Int.intBits ((lcms l : Nat) : Int) ≤ 60 := PySem.intBits_le_iff.mpr (Sz.nat hg.low)
      omega⟩
    have bD : ex ≤ Builtin.Int.intBits (((lcms l : Nat) : Int) * ((2 ^ ex : Nat) : Int)) := by
      refine Classical.byContradiction fun hc => ?_
      have h1 := PySem.intBits_le_iff.mp (show Builtin.Int.intBits (((lcms l : Nat) : Int) * ((2 ^ ex : Nat) : Int)) ≤ ex by omega)
      rw [Int.natAbs_mul, Int.natAbs_natCast, Int.natAbs_natCast] at h1
      have := Nat.mul_le_mul_right (2 ^ ex) L0
      omega
    obtain ⟨z1, z2⟩ := los_size hg.tell hs (ex := ex) hb
    have dv1 : CDivP (los (bits + ex) (pz l)) (((lcms l : Nat) : Int) * 2 ^ ((ex : Nat) : Int).toNat) := by
      rw [eD]
      exact divp_ok D0 (by have := PySem.intBits_le_iff.mpr z1; omega)
    have dv2 : CDivP (his (bits + ex) (pz l)) (((lcms l : Nat) : Int) * 2 ^ ((ex : Nat) : Int).toNat) := by
      rw [eD]
      exact divp_ok D0 (by have := PySem.intBits_le_iff.mpr z2; omega)
    refine sx_cons (sy_unpack (S2 := gFg l bits ex (.d (.int (los (bits + ex) (pz l)))) (.d (.int (his (bits + ex) (pz l)))) x7) (ev_call (ok_between T hN ht) hK.symm hr rfl T.d_between.m T.d_between.F.kp T.d_between.b pass0 (ds := [.list ((pz l).map iD), .int ((bits : Int) + (ex : Int))]) (d := .tuple [.int (los (bits + ex) (pz l)), .int (his (bits + ex) (pz l))]) (ea_cons (vn 3) (ea_cons (ev_add (vn 1) (vn 4)) ea_nil)) ⟨pz l, bits + ex, by rw [Int.natCast_add], by have := hg.tell.len; omega, by omega, hg.small, rfl⟩) (pg_tup rfl (pgs_cons (pg_name (i := 5) sc_sum_figures.nd rfl (.inl rfl)) (pgs_cons (pg_name (i := 6) sc_sum_figures.nd rfl (.inl rfl)) pgs_nil))) (tg_tup (ds := [.int (los (bits + ex) (pz l)), .int (his (bits + ex) (pz l))]) hK.symm rfl (.cons (S := gFg l bits ex x5 x6 x7) (tg_name (i := 5) li) rfl (.cons (tg_name (i := 6) li) rfl .nil))) rfl ?_)
    refine sx_cons (sy_asg (i := 7) (ev_fdivP (vn 5) (ev_shl (vn 2) (vn 4) hsh) dv1) sc_sum_figures.nd rfl (.inl rfl) li ?_)
    refine sx_cons (sy_if (et_eqI (vn 7) (ev_fdivP (vn 6) (ev_shl (vn 2) (vn 4) hsh) dv2)) (fun h => ?_) fun h => ?_)
    · have h := of_decide_eq_true h
      rw [eD] at h
      have e : f = los (bits + ex) (pz l) / (((lcms l : Nat) : Int) * 2 ^ ((ex : Nat) : Int).toNat) := by
        rw [eD]
        refine (fig_is L0 hf (Int.ediv_mul_le _ (by omega)) ?_).symm
        rw [h]
        exact Int.lt_ediv_add_one_mul_self _ D0
      rw [e]
      exact sx_one (sy_retF (vn 7))
    · have h := of_decide_eq_false h
      rw [eD] at h
      have hle := Int.ediv_le_ediv D0 (lo_le_hi (bits + ex) (pz l))
      have few := fig_few hg.tell hs (ex := ex) hb (c := his (bits + ex) (pz l) / (((lcms l : Nat) : Int) * ((2 ^ ex : Nat) : Int)) * ((lcms l : Nat) : Int)) (by
        rw [Int.mul_assoc]
        exact (Int.ediv_lt_iff_lt_mul D0).mp (by omega)) (by
        rw [Int.mul_assoc]
        exact Int.ediv_mul_le _ (by omega))
      have j10 : j < 10 := by
        rcases Nat.lt_or_ge j 10 with q | q
        · exact q
        · have : j = 10 := by omega
          subst this
          rw [eB] at few
          exact absurd few (by decide)
      have e2 : ex * 2 = 64 * 2 ^ (j + 1) := by rw [eB, Nat.pow_succ]; omega
      refine sx_nil ?_
      exact sx_one (sy_aug (i := 4) (ipR iop_mulX') rfl ev_int (Sz.cm (a := 20) (b := 20) (Sz.nat (by omega)) (show (2 : Int).natAbs < 2 ^ 20 by decide) (by decide)) sc_sum_figures.nd rfl (.inl rfl) li ⟨10 - (j + 1), by omega, j + 1, ex * 2, _, _, _, e2, by omega, rfl, rfl⟩)
end
end K0
end
section
set_option Elab.async false
set_option linter.all false
set_option maxRecDepth 100000
set_option maxHeartbeats 4000000
set_option exponentiation.threshold 300000
namespace K0
open PySem PySem.Spec PyProof.Rows L2 DX
set_option autoImplicit false
/-! what is a sum -/
def rad0 : PyData → Int
  | .tuple (.int r :: _) => r
  | _ => 0
def top0 : PyData → Int
  | .tuple (.int t :: _) => t
  | _ => 0
def isSumPair : PyData → Bool
  | .tuple [.int r, p] => (decide (1 ≤ r) && decide (r ≤ 10 ^ 15)) && (isFrac p && !decide (top0 p = 0))
  | _ => false
theorem isPair_inv {x : PyData} (h : isPair x = true) : ∃ t l, x = .tuple [t, l] := by
  cases x with
  | tuple xs =>
    match xs with
    | [] => cases h
    | [_] => cases h
    | [t, l] => exact ⟨t, l, rfl⟩
    | _ :: _ :: _ :: _ => cases h
  | _ => cases h
theorem isWhole_inv {x : PyData} (h : isWhole x = true) : ∃ i, x = .int i := by
  cases x <;> first | (cases h; done) | exact ⟨_, rfl⟩
theorem isSumPair_inv {x : PyData} (h : isSumPair x = true) : ∃ r p, x = .tuple [.int r, p] ∧ 1 ≤ r ∧ r ≤ 10 ^ 15 ∧ isFrac p = true ∧ top0 p ≠ 0 := by
  unfold isSumPair at h
  split at h
  · rename_i r p
    simp only [Bool.and_eq_true, decide_eq_true_eq, Bool.not_eq_true', decide_eq_false_iff_not] at h
    exact ⟨r, p, rfl, h.1.1, h.1.2, h.2.1, h.2.2⟩
  · cases h
open Classical in
noncomputable def sqfB (d : PyData) : Bool := decide (TS.Sqf (rad0 d).toNat)
noncomputable def isSum : PyData → Bool
  | .tuple xs => decide (xs.length ≤ 20) && ((xs.map isSumPair).all id && (risesB (xs.map rad0) && (xs.map sqfB).all id))
  | _ => false
section
variable {P : Program} {w : World} {K : PySem.W.Frag} {mg : Str → Option Value} {base : Heap}
theorem ok_is_sum_pair (T : Tx K mg) : FnOk P w K mg base CX0 3 T.d_is_sum_pair.fa T.d_is_sum_pair.fd P_is_sum_pair (FP K (r_of isSumPair)) := by
  refine fp_ok T.d_is_sum_pair.F sc_is_sum_pair (fun ds d h => ?_) fun cdv A outer s H E b hK hr ds d h => ?_
  · obtain ⟨x, rfl, _⟩ := h
    rfl
  · obtain ⟨x, rfl, rfl⟩ := h
    refine sx_cons (sy_if (t := !isPair x) (et_not (et_val (ev_call (ok_is_pair T) hK.symm (hr.mono (by decide)) rfl T.d_is_pair.m T.d_is_pair.F.kp T.d_is_pair.b pass0 (ds := [x]) (ea_cons (vn 0) ea_nil) ⟨x, rfl, rfl⟩))) (fun h => ?_) fun h => ?_)
    · have e : isSumPair x = false := by
        cases hx : isSumPair x with
        | false => rfl
        | true =>
          obtain ⟨t, l, rfl, _⟩ := isSumPair_inv hx
          cases h
      rw [e]
      exact sx_one (sy_retF ev_bl)
    · refine sx_nil ?_
      obtain ⟨t, l, rfl⟩ := isPair_inv (x := x) (by simpa using h)
      refine sx_cons (sy_unpack (vn 0) (pg_tup rfl (pgs_cons (pg_name (i := 1) sc_is_sum_pair.nd rfl (.inl rfl)) (pgs_cons (pg_name (i := 2) sc_is_sum_pair.nd rfl (.inl rfl)) pgs_nil))) (tg_tup hK.symm rfl (.cons (tg_name li) rfl (.cons (tg_name li) rfl .nil))) rfl ?_)
      have whole : EV (cxOf CX0 P w K mg base N_is_sum_pair "is_sum_pair" (defScope s_is_sum_pair) T.d_is_sum_pair.fa cdv A outer s H E).nox b (.Call (.Name "is_whole" ⟨0, 0, 0, 0⟩) [.Name "radicand" ⟨0, 0, 0, 0⟩] [] ⟨0, 0, 0, 0⟩) ⟨[.d (.tuple [t, l]), .d t, .d l], []⟩ (.d (.bool (isWhole t))) ⟨[.d (.tuple [t, l]), .d t, .d l], []⟩ :=
        ev_call (ok_is_whole T) hK.symm (hr.mono (by decide)) rfl T.d_is_whole.m T.d_is_whole.F.kp T.d_is_whole.b pass0 (ds := [t]) (ea_cons (vn 1) ea_nil) ⟨_, rfl, rfl⟩
      by_cases ht : isWhole t = true
      · obtain ⟨i, rfl⟩ := isWhole_inv ht
        refine sx_cons (sy_if (t := !isWhole (.int i) || !(decide (1 ≤ i) && decide (i ≤ 10 ^ 15))) (et_w (ew_or (et_not (et_val (ev_call (ok_is_whole T) hK.symm (hr.mono (by decide)) rfl T.d_is_whole.m T.d_is_whole.F.kp T.d_is_whole.b pass0 (ds := [.int i]) (ea_cons (vn 1) ea_nil) ⟨_, rfl, rfl⟩))) fun _ => et_or1 (et_not (et_chain (X := (cxOf CX0 P w K mg base N_is_sum_pair "is_sum_pair" (defScope s_is_sum_pair) T.d_is_sum_pair.fa cdv A outer s H E).nox) op_le op_le rfl ev_int (vn 1) (ev_gint rfl (T.g_SUM_MOST_RADICAND).choose_spec (by decide)) (rv_I0 fun _ => .bl _) (rv_I0 fun _ => .bl _))))) (fun h => ?_) fun h => ?_)
        · have e : isSumPair (.tuple [.int i, l]) = false := by
            have h2 : (decide (1 ≤ i) && decide (i ≤ 10 ^ 15)) = false := by
              cases hh : (decide (1 ≤ i) && decide (i ≤ 10 ^ 15)) with
              | false => rfl
              | true => rw [hh] at h; cases h
            show ((decide (1 ≤ i) && decide (i ≤ 10 ^ 15)) && _) = false
            rw [h2]; rfl
          rw [e]
          exact sx_one (sy_retF ev_bl)
        · have h2 : (decide (1 ≤ i) && decide (i ≤ 10 ^ 15)) = true := by
            cases hh : (decide (1 ≤ i) && decide (i ≤ 10 ^ 15)) with
            | true => rfl
            | false => rw [hh] at h; cases h
          refine sx_nil ?_
          have e : isSumPair (.tuple [.int i, l]) = (isFrac l && !decide (top0 l = 0)) := by
            show ((decide (1 ≤ i) && decide (i ≤ 10 ^ 15)) && _) = _
            rw [h2]; rfl
          rw [e]
          refine sx_one (sy_retF (ev_and (ev_call (ok_is_fraction T) hK.symm (hr.mono (by decide)) rfl T.d_is_fraction.m T.d_is_fraction.F.kp T.d_is_fraction.b pass0 (ds := [l]) (ea_cons (vn 2) ea_nil) ⟨_, rfl, rfl⟩) fun hf => ev_one ?_))
          obtain ⟨t', l', rfl, _⟩ := isFrac_inv hf
          exact ev_neI (ev_ixT hK.symm (vn 2) ev_int rfl) ev_int
      · have ht : isWhole t = false := by simpa using ht
        have e : isSumPair (.tuple [t, l]) = false := by cases t <;> first | rfl | cases ht
        rw [e]
        refine sx_cons (sy_if (t := !isWhole t || true) (et_w (ew_or (et_not (et_val (ev_call (ok_is_whole T) hK.symm (hr.mono (by decide)) rfl T.d_is_whole.m T.d_is_whole.F.kp T.d_is_whole.b pass0 (ds := [t]) (ea_cons (vn 1) ea_nil) ⟨_, rfl, rfl⟩))) fun h => by rw [ht] at h; cases h)) (fun h => sx_one (sy_retF ev_bl)) fun h => by simp at h)
theorem all_map_id {α : Type} (f : α → Bool) (xs : List α) : (xs.map f).all id = true ↔ ∀ x ∈ xs, f x = true := by
  rw [List.all_eq_true]
  constructor
  · intro h x hx
    exact h (f x) (List.mem_map.mpr ⟨x, hx, rfl⟩)
  · intro h y hy
    obtain ⟨x, hx, rfl⟩ := List.mem_map.mp hy
    exact h x hx
theorem ok_is_sum (T : Tx K mg) : FnOk P w K mg base CX0 4 T.d_is_sum.fa T.d_is_sum.fd P_is_sum (FP K (r_of isSum)) := by
  refine fp_ok T.d_is_sum.F sc_is_sum (fun ds d h => ?_) fun cdv A outer s H E b hK hr ds d h => ?_
  · obtain ⟨x, rfl, _⟩ := h
    rfl
  · obtain ⟨x, rfl, rfl⟩ := h
    by_cases hx : isInst x "tuple" = true
    · obtain ⟨xs, rfl⟩ : ∃ xs, x = .tuple xs := by cases x <;> first | (cases hx; done) | exact ⟨_, rfl⟩
      refine sx_cons (sy_if (t := !isInst (.tuple xs) "tuple" || decide (20 < (xs.length : Int))) (et_w (ew_or (et_not (et_val (ev_isi hK.symm rfl T.n_isinstance rfl T.n_tuple Str.isTuple (.inr (.inr (.inr (.inl rfl)))) (vn 0)))) fun _ => et_or1 (et_gt (ev_callB call_len_seq rfl T.n_len PySem.boot_len (ea_cons (vn 0) ea_nil) (rc_lenT hK.symm)) (ev_gint rfl (T.g_SUM_MOST_PAIRS).choose_spec (by decide))))) (fun h => ?_) fun h => ?_)
      · have h2 : decide (20 < (xs.length : Int)) = true := by simpa [isInst] using h
        have h2 := of_decide_eq_true h2
        have e : isSum (.tuple xs) = false := by
          show (decide (xs.length ≤ 20) && _) = false
          rw [decide_eq_false (by omega)]; rfl
        rw [e]
        exact sx_one (sy_retF ev_bl)
      · have h2 : decide (20 < (xs.length : Int)) = false := by simpa [isInst] using h
        have h2 := of_decide_eq_false h2
        have hz : xs.length ≤ 20 := by omega
        have e : isSum (.tuple xs) = ((xs.map isSumPair).all id && (risesB (xs.map rad0) && (xs.map sqfB).all id)) := by
          show (decide (xs.length ≤ 20) && _) = _
          rw [decide_eq_true hz, Bool.true_and]
        rw [e]
        refine sx_nil ?_
        refine sx_cons (sy_if (S1 := ⟨gStart N_is_sum [.d (.tuple xs)], []⟩) (t := !(xs.map isSumPair).all id) (et_not (et_val (ev_callB (cr_all rfl) rfl T.n_all (by decide +kernel) (ea_cons (S1 := ⟨gStart N_is_sum [.d (.tuple xs)], []⟩) (x := .d (.list ((xs.map isSumPair).map .bool))) ?_ ea_nil) (rc_all hK.symm)))) (fun h => ?_) fun h => ?_)
        · refine ev_lcT0p (S1 := ⟨gStart N_is_sum [.d (.tuple xs)], []⟩) (g := gName 2) [("pair", 2)] (ds := xs) (fun d => [.d (.tuple xs), .no, .d d, .no]) (fun d => .bool (isSumPair d)) ?_ ?_ ?_ ?_ ?_ ?_ ?_ ?_ ?_ ?_
          · exact hK.symm
          · rfl
          · exact sc_is_sum.nd
          · exact vn 0
          · omega
          · exact blkOk_by (N := N_is_sum) (sc := defScope s_is_sum) (by decide +kernel)
          · exact fun _ _ _ _ _ => pg_name (i := 2) sc_is_sum.nd rfl (.inl rfl)
          · exact fun i d hd => tgb_name (vs := [2]) (j := 2) (g0 := [.d (.tuple xs), .no, .no, .no]) (List.mem_singleton.mpr rfl) li
          · intro i d hd Dl acc s H C cl fp
            exact ev_call (ok_is_sum_pair T) hK.symm hr rfl T.d_is_sum_pair.m T.d_is_sum_pair.F.kp T.d_is_sum_pair.b pass0 (ds := [d]) (ea_cons (vn 2) ea_nil) ⟨_, rfl, rfl⟩
          · rw [List.map_map]; rfl
        · have h3 : (xs.map isSumPair).all id = false := by rw [Bool.not_eq_true'] at h; exact h
          rw [h3]
          exact sx_one (sy_retF ev_bl)
        · have h3 : (xs.map isSumPair).all id = true := by simpa using h
          have hp := (all_map_id isSumPair xs).mp h3
          rw [h3, Bool.true_and]
          refine sx_nil ?_
          refine sx_cons (sy_setLcT (S1 := ⟨gStart N_is_sum [.d (.tuple xs)], []⟩) (i := 1) (g := gName 2) [("pair", 2)] (ds := xs) (fun d => [.d (.tuple xs), .no, .d d, .no]) (fun d => .int (rad0 d)) (z := .list ((xs.map rad0).map .int)) ?_ ?_ ?_ ?_ ?_ ?_ ?_ ?_ ?_ ?_ ?_ ?_ ?_ ?_ ?_)
          · exact hK.symm
          · rfl
          · exact sc_is_sum.nd
          · rfl
          · rfl
          · exact vn 0
          · omega
          · exact blkOk_by (N := N_is_sum) (sc := defScope s_is_sum) (by decide +kernel)
          · exact fun _ _ _ _ _ => pg_name (i := 2) sc_is_sum.nd rfl (.inl rfl)
          · exact fun i d hd => tgb_name (vs := [2]) (j := 2) (g0 := [.d (.tuple xs), .no, .no, .no]) (List.mem_singleton.mpr rfl) li
          · intro i d hd Dl acc s H C cl fp
            obtain ⟨r, p, rfl, _⟩ := isSumPair_inv (hp d (List.mem_of_getElem? hd))
            exact ev_ixT hK.symm (vn 2) ev_int rfl
          · rw [List.map_map]; rfl
          · exact li
          · show SX _ _ _ ⟨[.d (.tuple xs), .d (.list ((xs.map rad0).map .int)), .no, .no], []⟩ _
            refine sx_one (sy_retF (ev_and (ev_call (ok_rises T) hK.symm (hr.mono (by decide)) rfl T.d_rises.m T.d_rises.F.kp T.d_rises.b pass0 (ds := [.list ((xs.map rad0).map .int)]) (ea_cons (vn 1) ea_nil) ⟨_, rfl, by rw [List.length_map]; omega, rfl⟩) fun _ => ev_one (ev_callB (cr_all rfl) rfl T.n_all (by decide +kernel) (ea_cons (S1 := ⟨[.d (.tuple xs), .d (.list ((xs.map rad0).map .int)), .no, .no], []⟩) (x := .d (.list ((xs.map sqfB).map .bool))) ?_ ea_nil) (rc_all hK.symm))))
            refine ev_lcL0p (S1 := ⟨[.d (.tuple xs), .d (.list ((xs.map rad0).map .int)), .no, .no], []⟩) (g := gName 3) [("radicand", 3)] (ds := (xs.map rad0).map .int) (fun d => [.d (.tuple xs), .d (.list ((xs.map rad0).map .int)), .no, .d d]) (fun d => .bool (sqfB (.tuple [d]))) ?_ ?_ ?_ ?_ ?_ ?_ ?_ ?_ ?_ ?_
            · exact hK.symm
            · rfl
            · exact sc_is_sum.nd
            · exact vn 1
            · rw [List.length_map, List.length_map]; omega
            · exact blkOk_by (N := N_is_sum) (sc := defScope s_is_sum) (by decide +kernel)
            · exact fun _ _ _ _ _ => pg_name (i := 3) sc_is_sum.nd rfl (.inl rfl)
            · exact fun i d hd => tgb_name (vs := [3]) (j := 3) (g0 := [.d (.tuple xs), .d (.list ((xs.map rad0).map .int)), .no, .no]) (List.mem_singleton.mpr rfl) li
            · intro i d hd Dl acc s H C cl fp
              have hm := List.mem_of_getElem? hd
              obtain ⟨r, hr1, rfl⟩ := List.mem_map.mp hm
              obtain ⟨y, hy, rfl⟩ := List.mem_map.mp hr1
              obtain ⟨r, p, rfl, r1, r2, _⟩ := isSumPair_inv (hp y hy)
              obtain ⟨n, rfl⟩ : ∃ n : Nat, r = (n : Int) := ⟨r.toNat, by omega⟩
              have n1 : 0 < n := by omega
              have n2 : n < 2 ^ 60 := by
                have : (n : Int) ≤ 10 ^ 15 := r2
                omega
              obtain ⟨o, rr, hsq, ho⟩ := TS.sqf_ex n n1
              have e2 : sqfB (.tuple [.int (n : Int)]) = decide ((o : Int) = 1) := by
                unfold sqfB
                show @decide (TS.Sqf (n : Int).toNat) (Classical.propDecidable _) = _
                rw [Int.toNat_natCast]
                by_cases h1 : o = 1
                · subst h1
                  rw [@decide_eq_true _ (Classical.propDecidable _) (show TS.Sqf n by rw [← ho]; simpa using hsq)]
                  rfl
                · have ho2 : ¬ ((o : Int) = 1) := by omega
                  rw [decide_eq_false ho2]
                  exact @decide_eq_false _ (Classical.propDecidable _) fun hs => h1 (hs.2 o ⟨rr, ho.symm⟩)
              show EV _ _ _ _ (.d (.bool (sqfB (.tuple [.int (n : Int)])))) _
              rw [e2]
              exact ev_eqI (ev_ixT hK.symm (ev_call (ok_square_split T) hK.symm (hr.mono (by decide)) rfl T.d_square_split.m T.d_square_split.F.kp T.d_square_split.b pass0 (ds := [.int (n : Int)]) (d := .tuple [.int (o : Int), .int (rr : Int)]) (ea_cons (vn 3) ea_nil) ⟨n, o, rr, rfl, n1, n2, ho, hsq, rfl⟩) ev_int rfl) ev_int
            · rw [List.map_map, List.map_map, List.map_map]
              rfl
          · exact sw_true rfl rfl rfl rfl
    · have hx : isInst x "tuple" = false := by simpa using hx
      have e : isSum x = false := by cases x <;> first | rfl | cases hx
      rw [e]
      exact sx_cons (sy_if (t := !isInst x "tuple" || true) (et_w (ew_or (et_not (et_val (ev_isi hK.symm rfl T.n_isinstance rfl T.n_tuple Str.isTuple (.inr (.inr (.inr (.inl rfl)))) (vn 0)))) fun h => by rw [hx] at h; cases h)) (fun h => sx_one (sy_retF ev_bl)) fun h => by simp at h)
end
end K0
end
section
set_option Elab.async false
set_option linter.all false
set_option maxRecDepth 100000
set_option maxHeartbeats 4000000
set_option exponentiation.threshold 300000
namespace K0
open PySem PySem.Spec PyProof.Rows L2 DX
set_option autoImplicit false
/-! the outer functions -/
structure TxE {K : PySem.W.Frag} {mg : Str → Option Value} (T : Tx K mg) : Prop where
  sum : ExcK K T.c_BadSum
  fra : ExcK K T.c_BadFraction
  num : ExcK K T.c_BadNumber
def r_check (C : Addr) (ds : List PyData) (r : Res) : Prop := ∃ x, ds = [x] ∧ ((isSum x = true ∧ r = .val .none) ∨ (isSum x = false ∧ r = .err C))
def isRootArg : PyData → Bool
  | .tuple [.int t, .int l] => isFrac (.tuple [.int t, .int l]) && (decide (l ≤ 1000) && (decide (0 ≤ t) && decide (t ≤ 10 ^ 9 * l)))
  | _ => false
def r_root (C : Addr) (ds : List PyData) (r : Res) : Prop := ∃ x, ds = [x] ∧ ((isRootArg x = false ∧ r = .err C) ∨ (isRootArg x = true ∧ ∃ d, r_root_sum [x] d ∧ r = .val d))
def r_two (C : Addr) (f : List PyData → PyData → Prop) (ds : List PyData) (r : Res) : Prop := ∃ x y, ds = [x, y] ∧ ((isSum x = false ∧ r = .err C) ∨ (isSum x = true ∧ isSum y = false ∧ r = .err C) ∨ (isSum x = true ∧ isSum y = true ∧ ∃ d, f [x, y] d ∧ r = .val d))
def r_signX (C : Addr) (ds : List PyData) (r : Res) : Prop := ∃ x, ds = [x] ∧ ((isSum x = false ∧ r = .err C) ∨ (isSum x = true ∧ ∃ d, r_sum_sign [x] d ∧ r = .val d))
def isBits : PyData → Bool
  | .int i => decide (0 ≤ i) && decide (i ≤ 200)
  | _ => false
def r_figX (C D : Addr) (ds : List PyData) (r : Res) : Prop := ∃ x y, ds = [x, y] ∧ ((isSum x = false ∧ r = .err C) ∨ (isSum x = true ∧ isBits y = false ∧ r = .err D) ∨ (isSum x = true ∧ isBits y = true ∧ ∃ d, r_sum_figures [x, y] d ∧ r = .val d))
theorem fin_val {d0 d : PyData} (h : Res.val d0 = .val d) : d = d0 := by cases h; rfl
section
variable {P : Program} {w : World} {K : PySem.W.Frag} {mg : Str → Option Value} {base : Heap}
theorem ok_check_sum (T : Tx K mg) (TE : TxE T) : FnOk P w K mg base (L2.CX P w) 5 T.d_check_sum.fa T.d_check_sum.fd P_check_sum (FX K (r_check T.c_BadSum)) := by
  refine fx_ok T.d_check_sum.F sc_check_sum (fun ds r h => ?_) fun cdv A outer s H E b hK hfx hr ds r h hE => ?_
  · obtain ⟨x, rfl, _⟩ := h
    rfl
  · obtain ⟨x, rfl, h⟩ := h
    refine sx_one (sy_if (t := !isSum x) (et_not (et_val (ev_call (ok_is_sum T) hK.symm hr rfl T.d_is_sum.m T.d_is_sum.F.kp T.d_is_sum.b pass0 (ds := [x]) (ea_cons (vn 0) ea_nil) ⟨_, rfl, rfl⟩))) (fun hx => ?_) fun hx => ?_)
    · rcases h with ⟨h1, _⟩ | ⟨_, rfl⟩
      · rw [h1] at hx; cases hx
      · exact sx_one (sy_raise0 TE.sum T.m_BadSum rfl rfl (takes_of rfl rfl rfl rfl) fun H' rm => hE _ rfl _ H' rm)
    · rcases h with ⟨_, rfl⟩ | ⟨h1, _⟩
      · exact sx_nil rfl
      · rw [h1] at hx; cases hx
theorem ok_root (T : Tx K mg) (TE : TxE T) : FnOk P w K mg base (L2.CX P w) 3 T.d_root.fa T.d_root.fd P_root (FX K (r_root T.c_BadFraction)) := by
  refine fx_ok T.d_root.F sc_root (fun ds r h => ?_) fun cdv A outer s H E b hK hfx hr ds r h hE => ?_
  · obtain ⟨x, rfl, _⟩ := h
    rfl
  · obtain ⟨x, rfl, h⟩ := h
    refine sx_cons (sy_if (t := !isFrac x) (et_not (et_val (ev_call (ok_is_fraction T) hK.symm hr rfl T.d_is_fraction.m T.d_is_fraction.F.kp T.d_is_fraction.b pass0 (ds := [x]) (ea_cons (vn 0) ea_nil) ⟨_, rfl, rfl⟩))) (fun hx => ?_) fun hx => ?_)
    · have e : isRootArg x = false := by
        cases hy : isRootArg x with
        | false => rfl
        | true =>
          unfold isRootArg at hy
          split at hy
          · rw [Bool.and_eq_true] at hy
            rw [hy.1] at hx; cases hx
          · cases hy
      rcases h with ⟨_, rfl⟩ | ⟨h1, _⟩
      · exact sx_one (sy_raise0 TE.fra T.m_BadFraction rfl rfl (takes_of rfl rfl rfl rfl) fun H' rm => hE _ rfl _ H' rm)
      · rw [e] at h1; cases h1
    · have hf : isFrac x = true := by
        cases hy : isFrac x with
        | true => rfl
        | false => rw [hy] at hx; cases hx
      obtain ⟨t, l, rfl, l0, _⟩ := isFrac_inv hf
      refine sx_nil ?_
      refine sx_cons (sy_unpack (vn 0) (pg_tup rfl (pgs_cons (pg_name (i := 1) sc_root.nd rfl (.inl rfl)) (pgs_cons (pg_name (i := 2) sc_root.nd rfl (.inl rfl)) pgs_nil))) (tg_tup hK.symm rfl (.cons (tg_name li) rfl (.cons (tg_name li) rfl .nil))) rfl ?_)
      have er : isRootArg (.tuple [.int t, .int l]) = (decide (l ≤ 1000) && (decide (0 ≤ t) && decide (t ≤ 10 ^ 9 * l))) := by
        show (isFrac (.tuple [.int t, .int l]) && _) = _
        rw [hf, Bool.true_and]
      by_cases hl : 1000 < l
      · have e : isRootArg (.tuple [.int t, .int l]) = false := by
          rw [er, decide_eq_false (by omega)]; rfl
        refine sx_cons (sy_if (t := decide (1000 < l) || true) (et_w (ew_or (et_gt (vn 2) (ev_gint rfl (T.g_ROOT_MOST_LOW).choose_spec (by decide))) fun h => absurd hl (of_decide_eq_false h))) (fun _ => ?_) fun h => by simp at h)
        rcases h with ⟨_, rfl⟩ | ⟨h1, _⟩
        · exact sx_one (sy_raise0 TE.fra T.m_BadFraction rfl rfl (takes_of rfl rfl rfl rfl) fun H' rm => hE _ rfl _ H' rm)
        · rw [e] at h1; cases h1
      · have zl : Sz 10 l := by unfold Sz; omega
        refine sx_cons (sy_if (t := decide (1000 < l) || !(decide (0 ≤ t) && decide (t ≤ 10 ^ 9 * l))) (et_w (ew_or (et_gt (vn 2) (ev_gint rfl (T.g_ROOT_MOST_LOW).choose_spec (by decide))) fun _ => et_or1 (et_not (et_chain (X := (cxOf (L2.CX P w) P w K mg base N_root "root" (defScope s_root) T.d_root.fa cdv A outer s H E)) op_le op_le rfl ev_int (vn 1) (ev_mul (ev_gint rfl (T.g_ROOT_MOST).choose_spec (by decide)) (vn 2) (Sz.cm (a := 30) (b := 10) (show (10 ^ 9 : Int).natAbs < 2 ^ 30 by decide) zl (by decide))) (rv_I0 fun _ => .bl _) (rv_I0 fun _ => .bl _))))) (fun hh => ?_) fun hh => ?_)
        · have e : isRootArg (.tuple [.int t, .int l]) = false := by
            rw [er]
            cases hc : (decide (0 ≤ t) && decide (t ≤ 10 ^ 9 * l)) with
            | false => rw [Bool.and_false]
            | true => rw [hc, decide_eq_false hl] at hh; cases hh
          rcases h with ⟨_, rfl⟩ | ⟨h1, _⟩
          · exact sx_one (sy_raise0 TE.fra T.m_BadFraction rfl rfl (takes_of rfl rfl rfl rfl) fun H' rm => hE _ rfl _ H' rm)
          · rw [e] at h1; cases h1
        · have e : isRootArg (.tuple [.int t, .int l]) = true := by
            rw [er, decide_eq_true (by omega)]
            cases hc : (decide (0 ≤ t) && decide (t ≤ 10 ^ 9 * l)) with
            | true => rfl
            | false => rw [hc, decide_eq_false hl] at hh; cases hh
          refine sx_nil ?_
          rcases h with ⟨h1, _⟩ | ⟨_, d, hd, rfl⟩
          · rw [e] at h1; cases h1
          · exact sx_one (sy_retX (ev_call (ok_root_sum T) hK.symm hr rfl T.d_root_sum.m T.d_root_sum.F.kp T.d_root_sum.b pass0 (ds := [_]) (ea_cons (vn 0) ea_nil) hd))
theorem ok_plus (T : Tx K mg) (TE : TxE T) : FnOk P w K mg base (L2.CX P w) 6 T.d_plus.fa T.d_plus.fd P_plus (FX K (r_two T.c_BadSum r_sum_plus)) := by
  refine fx_ok T.d_plus.F sc_plus (fun ds r h => ?_) fun cdv A outer s H E b hK hfx hr ds r h hE => ?_
  · obtain ⟨x, y, rfl, _⟩ := h
    rfl
  · obtain ⟨x, y, rfl, h⟩ := h
    rcases h with ⟨h1, rfl⟩ | ⟨h1, h2, rfl⟩ | ⟨h1, h2, d, hd, rfl⟩
    · exact sx_cons (sy_callX (r := .err T.c_BadSum) (ok_check_sum T TE) hK.symm hr rfl T.d_check_sum.m T.d_check_sum.F.kp T.d_check_sum.b (takes_of rfl rfl rfl rfl) (ds := [x]) (ea_cons (vn 0) ea_nil) ⟨x, rfl, .inr ⟨h1, rfl⟩⟩ (fun d e => by cases e) fun C e H' rm => hE C e _ H' rm)
    · refine sx_cons (sy_callX (r := .val .none) (ok_check_sum T TE) hK.symm hr rfl T.d_check_sum.m T.d_check_sum.F.kp T.d_check_sum.b (takes_of rfl rfl rfl rfl) (ds := [x]) (ea_cons (vn 0) ea_nil) ⟨x, rfl, .inl ⟨h1, rfl⟩⟩ (fun d e => ?_) fun C e => by cases e)
      exact sx_cons (sy_callX (r := .err T.c_BadSum) (ok_check_sum T TE) hK.symm hr rfl T.d_check_sum.m T.d_check_sum.F.kp T.d_check_sum.b (takes_of rfl rfl rfl rfl) (ds := [y]) (ea_cons (vn 1) ea_nil) ⟨y, rfl, .inr ⟨h2, rfl⟩⟩ (fun d e => by cases e) fun C e H' rm => hE C e _ H' rm)
    · refine sx_cons (sy_callX (r := .val .none) (ok_check_sum T TE) hK.symm hr rfl T.d_check_sum.m T.d_check_sum.F.kp T.d_check_sum.b (takes_of rfl rfl rfl rfl) (ds := [x]) (ea_cons (vn 0) ea_nil) ⟨x, rfl, .inl ⟨h1, rfl⟩⟩ (fun d e => ?_) fun C e => by cases e)
      refine sx_cons (sy_callX (r := .val .none) (ok_check_sum T TE) hK.symm hr rfl T.d_check_sum.m T.d_check_sum.F.kp T.d_check_sum.b (takes_of rfl rfl rfl rfl) (ds := [y]) (ea_cons (vn 1) ea_nil) ⟨y, rfl, .inl ⟨h2, rfl⟩⟩ (fun d e => ?_) fun C e => by cases e)
      exact sx_one (sy_retX (ev_call (ok_sum_plus T) hK.symm (hr.mono (by decide)) rfl T.d_sum_plus.m T.d_sum_plus.F.kp T.d_sum_plus.b pass0 (ds := [x, y]) (ea_cons (vn 0) (ea_cons (vn 1) ea_nil)) hd))
theorem ok_times (T : Tx K mg) (TE : TxE T) : FnOk P w K mg base (L2.CX P w) 6 T.d_times.fa T.d_times.fd P_times (FX K (r_two T.c_BadSum r_sum_times)) := by
  refine fx_ok T.d_times.F sc_times (fun ds r h => ?_) fun cdv A outer s H E b hK hfx hr ds r h hE => ?_
  · obtain ⟨x, y, rfl, _⟩ := h
    rfl
  · obtain ⟨x, y, rfl, h⟩ := h
    rcases h with ⟨h1, rfl⟩ | ⟨h1, h2, rfl⟩ | ⟨h1, h2, d, hd, rfl⟩
    · exact sx_cons (sy_callX (r := .err T.c_BadSum) (ok_check_sum T TE) hK.symm hr rfl T.d_check_sum.m T.d_check_sum.F.kp T.d_check_sum.b (takes_of rfl rfl rfl rfl) (ds := [x]) (ea_cons (vn 0) ea_nil) ⟨x, rfl, .inr ⟨h1, rfl⟩⟩ (fun d e => by cases e) fun C e H' rm => hE C e _ H' rm)
    · refine sx_cons (sy_callX (r := .val .none) (ok_check_sum T TE) hK.symm hr rfl T.d_check_sum.m T.d_check_sum.F.kp T.d_check_sum.b (takes_of rfl rfl rfl rfl) (ds := [x]) (ea_cons (vn 0) ea_nil) ⟨x, rfl, .inl ⟨h1, rfl⟩⟩ (fun d e => ?_) fun C e => by cases e)
      exact sx_cons (sy_callX (r := .err T.c_BadSum) (ok_check_sum T TE) hK.symm hr rfl T.d_check_sum.m T.d_check_sum.F.kp T.d_check_sum.b (takes_of rfl rfl rfl rfl) (ds := [y]) (ea_cons (vn 1) ea_nil) ⟨y, rfl, .inr ⟨h2, rfl⟩⟩ (fun d e => by cases e) fun C e H' rm => hE C e _ H' rm)
    · refine sx_cons (sy_callX (r := .val .none) (ok_check_sum T TE) hK.symm hr rfl T.d_check_sum.m T.d_check_sum.F.kp T.d_check_sum.b (takes_of rfl rfl rfl rfl) (ds := [x]) (ea_cons (vn 0) ea_nil) ⟨x, rfl, .inl ⟨h1, rfl⟩⟩ (fun d e => ?_) fun C e => by cases e)
      refine sx_cons (sy_callX (r := .val .none) (ok_check_sum T TE) hK.symm hr rfl T.d_check_sum.m T.d_check_sum.F.kp T.d_check_sum.b (takes_of rfl rfl rfl rfl) (ds := [y]) (ea_cons (vn 1) ea_nil) ⟨y, rfl, .inl ⟨h2, rfl⟩⟩ (fun d e => ?_) fun C e => by cases e)
      exact sx_one (sy_retX (ev_call (ok_sum_times T) hK.symm (hr.mono (by decide)) rfl T.d_sum_times.m T.d_sum_times.F.kp T.d_sum_times.b pass0 (ds := [x, y]) (ea_cons (vn 0) (ea_cons (vn 1) ea_nil)) hd))
theorem ok_sign (T : Tx K mg) (TE : TxE T) (hN : base.NoSeer) (ht : P.given.tree = none) : FnOk P w K mg base (L2.CX P w) 43 T.d_sign.fa T.d_sign.fd P_sign (FX K (r_signX T.c_BadSum)) := by
  refine fx_ok T.d_sign.F sc_sign (fun ds r h => ?_) fun cdv A outer s H E b hK hfx hr ds r h hE => ?_
  · obtain ⟨x, rfl, _⟩ := h
    rfl
  · obtain ⟨x, rfl, h⟩ := h
    rcases h with ⟨h1, rfl⟩ | ⟨h1, d, hd, rfl⟩
    · exact sx_cons (sy_callX (r := .err T.c_BadSum) (ok_check_sum T TE) hK.symm (hr.mono (by decide)) rfl T.d_check_sum.m T.d_check_sum.F.kp T.d_check_sum.b (takes_of rfl rfl rfl rfl) (ds := [x]) (ea_cons (vn 0) ea_nil) ⟨x, rfl, .inr ⟨h1, rfl⟩⟩ (fun d e => by cases e) fun C e H' rm => hE C e _ H' rm)
    · refine sx_cons (sy_callX (r := .val .none) (ok_check_sum T TE) hK.symm (hr.mono (by decide)) rfl T.d_check_sum.m T.d_check_sum.F.kp T.d_check_sum.b (takes_of rfl rfl rfl rfl) (ds := [x]) (ea_cons (vn 0) ea_nil) ⟨x, rfl, .inl ⟨h1, rfl⟩⟩ (fun d e => ?_) fun C e => by cases e)
      exact sx_one (sy_retX (ev_call (ok_sum_sign T hN ht) hK.symm hr rfl T.d_sum_sign.m T.d_sum_sign.F.kp T.d_sum_sign.b pass0 (ds := [x]) (ea_cons (vn 0) ea_nil) hd))
theorem ok_figures (T : Tx K mg) (TE : TxE T) (hN : base.NoSeer) (ht : P.given.tree = none) : FnOk P w K mg base (L2.CX P w) 43 T.d_figures.fa T.d_figures.fd P_figures (FX K (r_figX T.c_BadSum T.c_BadNumber)) := by
  refine fx_ok T.d_figures.F sc_figures (fun ds r h => ?_) fun cdv A outer s H E b hK hfx hr ds r h hE => ?_
  · obtain ⟨x, y, rfl, _⟩ := h
    rfl
  · obtain ⟨x, y, rfl, h⟩ := h
    rcases h with ⟨h1, rfl⟩ | h
    · exact sx_cons (sy_callX (r := .err T.c_BadSum) (ok_check_sum T TE) hK.symm (hr.mono (by decide)) rfl T.d_check_sum.m T.d_check_sum.F.kp T.d_check_sum.b (takes_of rfl rfl rfl rfl) (ds := [x]) (ea_cons (vn 0) ea_nil) ⟨x, rfl, .inr ⟨h1, rfl⟩⟩ (fun d e => by cases e) fun C e H' rm => hE C e _ H' rm)
    · have h1 : isSum x = true := by rcases h with ⟨h, _⟩ | ⟨h, _⟩ <;> exact h
      refine sx_cons (sy_callX (r := .val .none) (ok_check_sum T TE) hK.symm (hr.mono (by decide)) rfl T.d_check_sum.m T.d_check_sum.F.kp T.d_check_sum.b (takes_of rfl rfl rfl rfl) (ds := [x]) (ea_cons (vn 0) ea_nil) ⟨x, rfl, .inl ⟨h1, rfl⟩⟩ (fun d e => ?_) fun C e => by cases e)
      by_cases hy : isWhole y = true
      · obtain ⟨i, rfl⟩ := isWhole_inv hy
        refine sx_cons (sy_if (t := !isWhole (.int i) || !(decide (0 ≤ i) && decide (i ≤ 200))) (et_w (ew_or (et_not (et_val (ev_call (ok_is_whole T) hK.symm (hr.mono (by decide)) rfl T.d_is_whole.m T.d_is_whole.F.kp T.d_is_whole.b pass0 (ds := [.int i]) (ea_cons (vn 1) ea_nil) ⟨_, rfl, rfl⟩))) fun _ => et_or1 (et_not (et_chain (X := (cxOf (L2.CX P w) P w K mg base N_figures "figures" (defScope s_figures) T.d_figures.fa cdv A outer s H E)) op_le op_le rfl ev_int (vn 1) (ev_gint rfl (T.g_FIGURES_MOST_BITS).choose_spec (by decide)) (rv_I0 fun _ => .bl _) (rv_I0 fun _ => .bl _))))) (fun hh => ?_) fun hh => ?_)
        · have e : isBits (.int i) = false := by
            show (decide (0 ≤ i) && decide (i ≤ 200)) = false
            cases hc : (decide (0 ≤ i) && decide (i ≤ 200)) with
            | false => rfl
            | true => rw [hc] at hh; cases hh
          rcases h with ⟨_, _, rfl⟩ | ⟨_, h2, _⟩
          · exact sx_one (sy_raise0 TE.num T.m_BadNumber rfl rfl (takes_of rfl rfl rfl rfl) fun H' rm => hE _ rfl _ H' rm)
          · rw [e] at h2; cases h2
        · have e : isBits (.int i) = true := by
            show (decide (0 ≤ i) && decide (i ≤ 200)) = true
            cases hc : (decide (0 ≤ i) && decide (i ≤ 200)) with
            | true => rfl
            | false => rw [hc] at hh; cases hh
          refine sx_nil ?_
          rcases h with ⟨_, h2, _⟩ | ⟨_, _, d, hd, rfl⟩
          · rw [e] at h2; cases h2
          · exact sx_one (sy_retX (ev_call (ok_sum_figures T hN ht) hK.symm hr rfl T.d_sum_figures.m T.d_sum_figures.F.kp T.d_sum_figures.b pass0 (ds := [_, _]) (ea_cons (vn 0) (ea_cons (vn 1) ea_nil)) hd))
      · have hy : isWhole y = false := by simpa using hy
        have e : isBits y = false := by cases y <;> first | rfl | cases hy
        refine sx_cons (sy_if (t := !isWhole y || true) (et_w (ew_or (et_not (et_val (ev_call (ok_is_whole T) hK.symm (hr.mono (by decide)) rfl T.d_is_whole.m T.d_is_whole.F.kp T.d_is_whole.b pass0 (ds := [y]) (ea_cons (vn 1) ea_nil) ⟨_, rfl, rfl⟩))) fun h => by rw [hy] at h; cases h)) (fun _ => ?_) fun h => by simp at h)
        rcases h with ⟨_, _, rfl⟩ | ⟨_, h2, _⟩
        · exact sx_one (sy_raise0 TE.num T.m_BadNumber rfl rfl (takes_of rfl rfl rfl rfl) fun H' rm => hE _ rfl _ H' rm)
        · rw [e] at h2; cases h2
end
end K0
end
section
set_option Elab.async false
set_option linter.all false
set_option maxRecDepth 100000
set_option maxHeartbeats 4000000
set_option exponentiation.threshold 300000
namespace K0
open PySem PySem.Spec PyProof.Rows L2 DX
set_option autoImplicit false
/-! the drawing of numbers -/
structure Row where
  sc : List Int
  pos : Nat
  seed : Int
  stock : Int
abbrev msOf (sc : List Int) (p s t : Int) : List PyData := [.list (sc.map .int), .int p, .int s, .int t]
def Row.ms (R : Row) : List PyData := msOf R.sc (R.pos : Int) R.seed R.stock
structure Row.Ok (R : Row) : Prop where
  s0 : 0 ≤ R.seed
  s1 : R.seed < 2147483647
  t0 : 0 ≤ R.stock
def Row.step (R : Row) (m : Int) : Int × Row :=
  if 0 < R.stock then (R.stock % m, { R with stock := R.stock / m })
  else if R.sc.length < R.pos + 1 then (((R.seed * 48271 + 11) % 2147483647 / 7) % m, { R with pos := R.pos + 1, seed := (R.seed * 48271 + 11) % 2147483647 })
  else (R.sc.getD R.pos 0 % m, { R with pos := R.pos + 1, seed := (R.seed * 48271 + R.sc.getD R.pos 0 + 11) % 2147483647, stock := if 10 ^ 18 ≤ R.sc.getD R.pos 0 then R.sc.getD R.pos 0 / m else R.stock })
theorem Row.step_ok {R : Row} (h : R.Ok) {m : Int} (hm : 0 < m) : (R.step m).2.Ok ∧ 0 ≤ (R.step m).1 ∧ (R.step m).1 < m := by
  unfold Row.step
  have em := fun i : Int => And.intro (Int.emod_nonneg i (show m ≠ 0 by omega)) (Int.emod_lt_of_pos i hm)
  have e2 := fun i : Int => And.intro (Int.emod_nonneg i (show (2147483647 : Int) ≠ 0 by decide)) (Int.emod_lt_of_pos i (show (0 : Int) < 2147483647 by decide))
  have s0 := h.s0
  have s1 := h.s1
  have t0 := h.t0
  split
  · exact ⟨⟨s0, s1, Int.ediv_nonneg t0 (by omega)⟩, em _⟩
  · split
    · exact ⟨⟨(e2 _).1, (e2 _).2, t0⟩, em _⟩
    · refine ⟨⟨(e2 _).1, (e2 _).2, ?_⟩, em _⟩
      dsimp only
      split
      · exact Int.ediv_nonneg (by omega) (by omega)
      · exact t0
def r_taken (ms ds : List PyData) (d : PyData) (ms' : List PyData) : Prop := ∃ (R : Row) (m : Int), R.Ok ∧ ms = R.ms ∧ ds = [.int m] ∧ 0 < m ∧ Sz 60 m ∧ d = .int (R.step m).1 ∧ ms' = (R.step m).2.ms
theorem setm1 {g : List DV} {a : Addr} {o o' : MO} : DS.setm ⟨g, [(a, o)]⟩ a o' = ⟨g, [(a, o')]⟩ := by
  unfold DS.setm setM
  simp
section
variable {P : Program} {w : World} {K : PySem.W.Frag} {mg : Str → Option Value} {base : Heap}
abbrev gTk (a : Addr) (m : Int) (x2 x3 : DV) (sc : List Int) (p s t : Int) : DS := ⟨[.m a, .d (.int m), x2, x3], [(a, .lst (msOf sc p s t))]⟩
theorem ok_law_taken (T : Tx K mg) : FnOk P w K mg base CX0 1 T.d_law_taken.fa T.d_law_taken.fd P_law_taken (MP K r_taken) := by
  refine mp_ok T.d_law_taken.F sc_law_taken (fun ms ds d ms' h => ?_) fun cdv A outer s H E b a hK hfx hr ms ds d ms' h => ?_
  · obtain ⟨R, m, _, _, rfl, _⟩ := h
    rfl
  · obtain ⟨R, m, hR, rfl, rfl, m0, mz, rfl, rfl⟩ := h
    obtain ⟨sc, p, sd, st⟩ := R
    obtain ⟨s0, s1, t0⟩ := hR
    have s0 : 0 ≤ sd := s0
    have s1 : sd < 2147483647 := s1
    have t0 : 0 ≤ st := t0
    show SX _ _ _ (gTk a m .no .no sc (p : Int) sd st) _
    have hin : ∀ {g p s t}, (a, MO.lst (msOf sc p s t)) ∈ (⟨g, [(a, .lst (msOf sc p s t))]⟩ : DS).m := List.mem_singleton.mpr rfl
    refine sx_cons (sy_if (et_gt (ev_ixM hK.symm (vn 0) ev_int hin rfl) ev_int) (fun h => ?_) fun h => ?_)
    · have h : 0 < st := of_decide_eq_true h
      have e : (⟨sc, p, sd, st⟩ : Row).step m = (st % m, ⟨sc, p, sd, st / m⟩) := by unfold Row.step; rw [if_pos h]
      rw [e]
      refine sx_cons (sy_asg (i := 3) (ev_mod (ev_callTy call_int1 rfl T.n_int (by decide +kernel) (ea_cons (ev_ixM hK.symm (vn 0) ev_int hin rfl) ea_nil) rc_int) (vn 1) m0) sc_law_taken.nd rfl (.inl rfl) li ?_)
      refine sx_cons (sy_setItem (j := 3) (ev_fdiv (ev_ixM hK.symm (vn 0) ev_int hin rfl) (vn 1) (mz.dv m0 (by decide) (by decide))) (vn 0) ev_int hin li ?_)
      show SX _ _ _ (DS.setm ⟨[.m a, .d (.int m), .no, .d (.int (st % m))], [(a, .lst (msOf sc (p : Int) sd st))]⟩ a _) _
      rw [setm1]
      exact sx_one (sy_retM (S1 := gTk a m .no (.d (.int (st % m))) sc (p : Int) sd (st / m)) (vn 3) (List.mem_singleton.mpr rfl))
    · have h : ¬ 0 < st := of_decide_eq_false h
      have e : (⟨sc, p, sd, st⟩ : Row).step m = (if sc.length < p + 1 then (((sd * 48271 + 11) % 2147483647 / 7) % m, ⟨sc, p + 1, (sd * 48271 + 11) % 2147483647, st⟩)
          else (sc.getD p 0 % m, ⟨sc, p + 1, (sd * 48271 + sc.getD p 0 + 11) % 2147483647, if 10 ^ 18 ≤ sc.getD p 0 then sc.getD p 0 / m else st⟩)) := by unfold Row.step; rw [if_neg h]
      rw [e]
      have zs : Sz 31 sd := by unfold Sz; omega
      have cm : CMulX sd 48271 := zs.cm (b := 16) (show (48271 : Int).natAbs < 2 ^ 16 by decide) (by decide)
      refine sx_nil (sx_cons (sy_setItem (j := 1) (ev_add (ev_ixM hK.symm (vn 0) ev_int hin rfl) ev_int) (vn 0) ev_int hin li ?_))
      show SX _ _ _ (DS.setm ⟨[.m a, .d (.int m), .no, .no], [(a, .lst (msOf sc (p : Int) sd st))]⟩ a _) _
      rw [setm1]
      show SX _ _ _ (gTk a m .no .no sc ((p : Int) + 1) sd st) _
      refine sx_cons (sy_if (et_gt (ev_ixM hK.symm (vn 0) ev_int hin rfl) (ev_callB call_len_seq rfl T.n_len PySem.boot_len (ea_cons (ev_ixM hK.symm (vn 0) ev_int hin rfl) ea_nil) (rc_lenL hK.symm))) (fun h2 => ?_) fun h2 => ?_)
      · have h2 : ((sc.map PyData.int).length : Int) < (p : Int) + 1 := of_decide_eq_true h2
        rw [List.length_map] at h2
        have h2 : sc.length < p + 1 := by omega
        rw [if_pos h2]
        refine sx_cons (sy_setItem (j := 2) (ev_mod (ev_callTy call_int1 rfl T.n_int (by decide +kernel) (ea_cons (ev_add (ev_mul (ev_ixM hK.symm (vn 0) ev_int hin rfl) ev_int cm) ev_int) ea_nil) rc_int) ev_int (by decide)) (vn 0) ev_int hin li ?_)
        show SX _ _ _ (DS.setm ⟨[.m a, .d (.int m), .no, .no], [(a, .lst (msOf sc ((p : Int) + 1) sd st))]⟩ a _) _
        rw [setm1]
        exact sx_one (sy_retM (S1 := gTk a m .no .no sc ((p : Int) + 1) ((sd * 48271 + 11) % 2147483647) st) (ev_mod (ev_callTy call_int1 rfl T.n_int (by decide +kernel) (ea_cons (ev_fdiv (ev_ixM hK.symm (vn 0) ev_int hin rfl) ev_int (Sz.dv (a := 3) (by decide) (show (7 : Int).natAbs < 2 ^ 3 by decide) (by decide) (by decide))) ea_nil) rc_int) (vn 1) m0) (List.mem_singleton.mpr rfl))
      · have h2 : ¬ ((sc.map PyData.int).length : Int) < (p : Int) + 1 := of_decide_eq_false h2
        rw [List.length_map] at h2
        have h2 : ¬ sc.length < p + 1 := by omega
        have hp : p < sc.length := by omega
        rw [if_neg h2]
        refine sx_nil ?_
        have at0 : atI (sc.map PyData.int) ((p : Int) + 1 - 1) = some (.int (sc.getD p 0)) := by
          have : (p : Int) + 1 - 1 = (p : Int) := by omega
          rw [this]
          refine atI_nat ?_
          rw [List.getElem?_map, List.getElem?_eq_getElem hp, List.getD_eq_getElem?_getD, List.getElem?_eq_getElem hp]
          rfl
        refine sx_cons (sy_asg (i := 2) (ev_ixL hK.symm (ev_ixM hK.symm (vn 0) ev_int hin rfl) (ev_sub (ev_ixM hK.symm (vn 0) ev_int hin rfl) ev_int) at0) sc_law_taken.nd rfl (.inl rfl) li ?_)
        refine sx_cons (sy_setItem (j := 2) (ev_mod (ev_callTy call_int1 rfl T.n_int (by decide +kernel) (ea_cons (ev_add (ev_add (ev_mul (ev_ixM hK.symm (vn 0) ev_int hin rfl) ev_int cm) (vn 2)) ev_int) ea_nil) rc_int) ev_int (by decide)) (vn 0) ev_int hin li ?_)
        show SX _ _ _ (DS.setm ⟨[.m a, .d (.int m), .d (.int (sc.getD p 0)), .no], [(a, .lst (msOf sc ((p : Int) + 1) sd st))]⟩ a _) _
        rw [setm1]
        show SX _ _ _ (gTk a m (.d (.int (sc.getD p 0))) .no sc ((p : Int) + 1) ((sd * 48271 + sc.getD p 0 + 11) % 2147483647) st) _
        refine sx_cons (sy_if (et_ge (vn 2) (ev_pow ev_int ev_int ?_)) (fun h3 => ?_) fun h3 => ?_)
        · exact ⟨by decide, by decide, by decide⟩
        · have h3 : 10 ^ 18 ≤ sc.getD p 0 := of_decide_eq_true h3
          rw [if_pos h3]
          refine sx_one (sy_setItem (j := 3) (ev_fdiv (vn 2) (vn 1) (mz.dv m0 (by decide) (by decide))) (vn 0) ev_int hin li ?_)
          show SX _ _ _ (DS.setm ⟨[.m a, .d (.int m), .d (.int (sc.getD p 0)), .no], [(a, .lst (msOf sc ((p : Int) + 1) ((sd * 48271 + sc.getD p 0 + 11) % 2147483647) st))]⟩ a _) _
          rw [setm1]
          exact sx_one (sy_retM (S1 := gTk a m (.d (.int (sc.getD p 0))) .no sc ((p : Int) + 1) ((sd * 48271 + sc.getD p 0 + 11) % 2147483647) (sc.getD p 0 / m)) (ev_mod (ev_callTy call_int1 rfl T.n_int (by decide +kernel) (ea_cons (vn 2) ea_nil) rc_int) (vn 1) m0) (List.mem_singleton.mpr rfl))
        · have h3 : ¬ 10 ^ 18 ≤ sc.getD p 0 := of_decide_eq_false h3
          rw [if_neg h3]
          exact sx_nil (sx_one (sy_retM (S1 := gTk a m (.d (.int (sc.getD p 0))) .no sc ((p : Int) + 1) ((sd * 48271 + sc.getD p 0 + 11) % 2147483647) st) (ev_mod (ev_callTy call_int1 rfl T.n_int (by decide +kernel) (ea_cons (vn 2) ea_nil) rc_int) (vn 1) m0) (List.mem_singleton.mpr rfl)))
end
end K0
end
section
set_option Elab.async false
set_option linter.all false
set_option maxRecDepth 100000
set_option maxHeartbeats 4000000
set_option exponentiation.threshold 300000
namespace K0
open PySem PySem.Spec PyProof.Rows L2 DX
set_option autoImplicit false
/-! the other side's own reckoning -/
def r_pick (ms ds : List PyData) (d : PyData) (ms' : List PyData) : Prop := ∃ (R : Row) (xs : List PyData), R.Ok ∧ ms = R.ms ∧ ds = [.list xs] ∧ xs ≠ [] ∧ xs.length ≤ 1000 ∧ d = xs.getD (R.step (xs.length : Int)).1.toNat .none ∧ ms' = (R.step (xs.length : Int)).2.ms
def r_lfr (ds : List PyData) (d : PyData) : Prop := ∃ t l : Int, ds = [.int t, .int l] ∧ 0 < l ∧ Sz 8000 l ∧ d = frD (red t l)
def r_floor (ds : List PyData) (d : PyData) : Prop := ∃ n t : Nat, ds = [.int (n : Int)] ∧ n < 2 ^ 200000 ∧ t * t ≤ n ∧ n < (t + 1) * (t + 1) ∧ d = .int (t : Int)
theorem abs_max (t : Int) : (if 0 - t > t then 0 - t else t) = ((t.natAbs : Nat) : Int) := by split <;> omega
section
variable {P : Program} {w : World} {K : PySem.W.Frag} {mg : Str → Option Value} {base : Heap}
theorem ok_law_pick (T : Tx K mg) : FnOk P w K mg base CX0 2 T.d_law_pick.fa T.d_law_pick.fd P_law_pick (MP K r_pick) := by
  refine mp_ok T.d_law_pick.F sc_law_pick (fun ms ds d ms' h => ?_) fun cdv A outer s H E b a hK hfx hr ms ds d ms' h => ?_
  · obtain ⟨R, xs, _, _, rfl, _⟩ := h
    rfl
  · obtain ⟨R, xs, hR, rfl, rfl, hne, hz, rfl, rfl⟩ := h
    have l0 : (0 : Int) < (xs.length : Int) := by
      have := List.length_pos_iff.mpr hne
      omega
    have zl : Sz 60 (xs.length : Int) := Sz.nat (by omega)
    obtain ⟨_, q1, q2⟩ := Row.step_ok hR l0
    have hat : atI xs (R.step (xs.length : Int)).1 = some (xs.getD (R.step (xs.length : Int)).1.toNat .none) := by
      obtain ⟨n, hn⟩ : ∃ n : Nat, (R.step (xs.length : Int)).1 = (n : Int) := ⟨_, (Int.toNat_of_nonneg q1).symm⟩
      rw [hn, Int.toNat_natCast]
      have hlt : n < xs.length := by omega
      refine atI_nat ?_
      rw [List.getD_eq_getElem?_getD, List.getElem?_eq_getElem hlt]
      rfl
    refine sx_one (sy_retM (S1 := DS.setm ⟨[.m a, .d (.list xs)], [(a, .lst R.ms)]⟩ a (.lst (R.step (xs.length : Int)).2.ms)) (ev_ixL hK.symm (vn 1) (ev_callM (ok_law_taken T) hK.symm hr rfl T.d_law_taken.m T.d_law_taken.F.kp T.d_law_taken.b pass0 (ds := [.int (xs.length : Int)]) (ms := R.ms) (ea_cons (vn 0) (ea_cons (ev_callB call_len_seq rfl T.n_len PySem.boot_len (ea_cons (vn 1) ea_nil) (rc_lenL hK.symm)) ea_nil)) (List.mem_singleton.mpr rfl) ⟨R, _, hR, rfl, rfl, l0, zl, rfl, rfl⟩) hat) ?_)
    rw [setm1]
    exact List.mem_singleton.mpr rfl
abbrev gFr (t l : Int) (a b : Nat) : DS := ⟨[.d (.int t), .d (.int l), .d (.int (a : Int)), .d (.int (b : Int))], []⟩
theorem ok_law_fr (T : Tx K mg) : FnOk P w K mg base CX0 1 T.d_law_fr.fa T.d_law_fr.fd P_law_fr (FP K r_lfr) := by
  refine fp_ok T.d_law_fr.F sc_law_fr (fun ds d h => ?_) fun cdv A outer s H E b hK hr ds d h => ?_
  · obtain ⟨t, l, rfl, _⟩ := h
    rfl
  · obtain ⟨t, l, rfl, h0, hl, rfl⟩ := h
    refine sx_cons (sy_par (S1 := ⟨gStart N_law_fr [.d (.int t), .d (.int l)], []⟩) (i := 2) (j := 3) (u := .d (.int ((t.natAbs : Nat) : Int))) (w := .d (.int ((l.natAbs : Nat) : Int))) rfl sc_law_fr.nd rfl rfl (by decide) rfl rfl (ea_cons (S1 := ⟨gStart N_law_fr [.d (.int t), .d (.int l)], []⟩) ?_ (ea_cons ?_ ea_nil)) li li ?_)
    · rw [← abs_max]
      exact ev_callB (call_max2 rfl) rfl T.n_max (by decide +kernel) (ea_cons (vn 0) (ea_cons (ev_sub ev_int (vn 0)) ea_nil)) rc_max2
    · rw [← abs_max]
      exact ev_callB (call_max2 rfl) rfl T.n_max (by decide +kernel) (ea_cons (vn 1) (ea_cons (ev_sub ev_int (vn 1)) ea_nil)) rc_max2
    · show SX _ _ _ (gFr t l t.natAbs l.natAbs) _
      refine sx_cons (sy_while (fun μ S' => ∃ a b : Nat, S' = gFr t l a b ∧ Nat.gcd a b = Nat.gcd t.natAbs l.natAbs ∧ (0 < a ∨ 0 < b) ∧ b = μ) _ ⟨_, _, rfl, rfl, .inr (by omega), rfl⟩ PassesOwn.never ?_)
      rintro μ S' ⟨x, y, rfl, hg, hxy, rfl⟩
      refine ⟨!decide ((y : Int) = 0), _, et_neI (vn 3) ev_int, fun h => ?_, fun h => ?_⟩
      · have y0 : 0 < y := by
          have := h
          simp at this
          omega
        refine sx_one (sy_par (i := 2) (j := 3) (u := .d (.int (y : Int))) (w := .d (.int ((x : Int) % (y : Int)))) rfl sc_law_fr.nd rfl rfl (by decide) rfl rfl (ea_cons (vn 3) (ea_cons (ev_mod (vn 2) (vn 3) (by omega)) ea_nil)) li li ?_)
        refine ⟨x % y, Nat.mod_lt _ y0, y, x % y, ?_, ?_, .inl y0, rfl⟩
        · show (⟨[.d (.int t), .d (.int l), .d (.int (y : Int)), .d (.int ((x : Int) % (y : Int)))], []⟩ : DS) = _
          rw [← Int.natCast_emod]
        · rw [← hg, Nat.gcd_comm x y, Nat.gcd_rec y x, Nat.gcd_comm]
      · have y0 : y = 0 := by
          have := h
          simp at this
          omega
        subst y0
        have ex : x = Nat.gcd t.natAbs l.natAbs := by rw [← hg, Nat.gcd_zero_right]
        have x0 : 0 < x := by omega
        have zx : Sz 8000 (x : Int) := by
          refine Sz.nat (Nat.lt_of_le_of_lt ?_ hl)
          rw [ex]
          exact Nat.le_of_dvd (by omega) (Nat.gcd_dvd_right _ _)
        refine sx_cons (sy_asg (i := 2) (x := .d (.int (x : Int))) (S1 := gFr t l x 0) (ev_if (et_gt (vn 1) ev_int) (fun h => vn 2) fun h => absurd h0 (of_decide_eq_false h)) sc_law_fr.nd rfl (.inl rfl) li ?_)
        have er : red t l = (t / (x : Int), l / (x : Int)) := by unfold red; rw [ex]
        rw [er]
        exact sx_one (sy_retF (S1 := gFr t l x 0) (ev_tup (ds := [_, _]) (ea_cons (ev_fdiv (vn 0) (vn 2) (zx.dv (by omega) (by decide) (by decide))) (ea_cons (ev_fdiv (vn 1) (vn 2) (zx.dv (by omega) (by decide) (by decide))) ea_nil)) lq))
theorem ok_law_plus (T : Tx K mg) : FnOk P w K mg base CX0 2 T.d_law_plus.fa T.d_law_plus.fd P_law_plus (FP K r_fplus) := by
  refine fp_ok T.d_law_plus.F sc_law_plus (fun ds d h => ?_) fun cdv A outer s H E b hK hr ds d h => ?_
  · obtain ⟨p, q, rfl, _⟩ := h
    rfl
  · obtain ⟨p, q, rfl, ⟨p1, p2, p3⟩, ⟨q1, q2, q3⟩, rfl⟩ := h
    refine sx_one (sy_retF (ev_call (ok_law_fr T) hK.symm hr rfl T.d_law_fr.m T.d_law_fr.F.kp T.d_law_fr.b pass0 (ds := [_, _]) (ea_cons (ev_add (ev_mul (ev_ixT hK.symm (vn 0) ev_int rfl) (ev_ixT hK.symm (vn 1) ev_int rfl) ?_) (ev_mul (ev_ixT hK.symm (vn 1) ev_int rfl) (ev_ixT hK.symm (vn 0) ev_int rfl) ?_)) (ea_cons (ev_mul (ev_ixT hK.symm (vn 0) ev_int rfl) (ev_ixT hK.symm (vn 1) ev_int rfl) ?_) ea_nil)) ?_))
    · exact p2.cm q3 (by decide)
    · exact q2.cm p3 (by decide)
    · exact p3.cm q3 (by decide)
    · exact ⟨_, _, rfl, Int.mul_pos p1 q1, (p3.mul q3).mono (by decide), rfl⟩
theorem ok_law_times (T : Tx K mg) : FnOk P w K mg base CX0 2 T.d_law_times.fa T.d_law_times.fd P_law_times (FP K r_ftimes) := by
  refine fp_ok T.d_law_times.F sc_law_times (fun ds d h => ?_) fun cdv A outer s H E b hK hr ds d h => ?_
  · obtain ⟨p, q, rfl, _⟩ := h
    rfl
  · obtain ⟨p, q, rfl, ⟨p1, p2, p3⟩, ⟨q1, q2, q3⟩, rfl⟩ := h
    refine sx_one (sy_retF (ev_call (ok_law_fr T) hK.symm hr rfl T.d_law_fr.m T.d_law_fr.F.kp T.d_law_fr.b pass0 (ds := [_, _]) (ea_cons (ev_mul (ev_ixT hK.symm (vn 0) ev_int rfl) (ev_ixT hK.symm (vn 1) ev_int rfl) ?_) (ea_cons (ev_mul (ev_ixT hK.symm (vn 0) ev_int rfl) (ev_ixT hK.symm (vn 1) ev_int rfl) ?_) ea_nil)) ?_))
    · exact p2.cm q2 (by decide)
    · exact p3.cm q3 (by decide)
    · exact ⟨_, _, rfl, Int.mul_pos p1 q1, (p3.mul q3).mono (by decide), rfl⟩
abbrev gFl (n l h : Nat) (x3 : DV) : DS := ⟨[.d (.int (n : Int)), .d (.int (l : Int)), .d (.int (h : Int)), x3], []⟩
theorem ok_law_floor (T : Tx K mg) : FnOk P w K mg base CX0 1 T.d_law_floor_root.fa T.d_law_floor_root.fd P_law_floor_root (FP K r_floor) := by
  refine fp_ok T.d_law_floor_root.F sc_law_floor_root (fun ds d h => ?_) fun cdv A outer s H E b hK hr ds d h => ?_
  · obtain ⟨n, t, rfl, _⟩ := h
    rfl
  · obtain ⟨n, t, rfl, nz, t1, t2, rfl⟩ := h
    have big : ∀ {h : Nat}, h ≤ 2 * n + 1 → Sz 200002 (h : Int) := fun {h} hh => by
      refine Sz.nat ?_
      rw [show 200002 = 200000 + 2 from rfl, Nat.pow_add]
      have := Nat.two_pow_pos 200000
      omega
    refine sx_cons (sy_unpack (S2 := gFl n 0 1 .no) (ev_tup (ds := [.int 0, .int 1]) (ea_cons ev_int (ea_cons ev_int ea_nil)) lq) (pg_tup rfl (pgs_cons (pg_name (i := 1) sc_law_floor_root.nd rfl (.inl rfl)) (pgs_cons (pg_name (i := 2) sc_law_floor_root.nd rfl (.inl rfl)) pgs_nil))) (tg_tup (ds := [.int 0, .int 1]) hK.symm rfl (.cons (S := ⟨gStart N_law_floor_root [.d (.int (n : Int))], []⟩) (tg_name (i := 1) li) rfl (.cons (tg_name (i := 2) li) rfl .nil))) rfl ?_)
    refine sx_cons (sy_while (fun μ S' => ∃ h : Nat, S' = gFl n 0 h .no ∧ 0 < h ∧ h ≤ 2 * n + 1 ∧ μ = 2 * n + 2 - h) _ ⟨1, rfl, by decide, by omega, rfl⟩ PassesOwn.never ?_)
    rintro μ S' ⟨h, rfl, h0, h1, rfl⟩
    refine ⟨decide ((h : Int) * (h : Int) ≤ (n : Int)), _, et_le (ev_mul (vn 2) (vn 2) ((big h1).cm (big h1) (by decide))) (vn 0), fun c => ?_, fun c => ?_⟩
    · have c : (h : Int) * (h : Int) ≤ (n : Int) := of_decide_eq_true c
      have c : h * h ≤ n := by exact_mod_cast c
      have hn : h ≤ n := Nat.le_trans (Nat.le_mul_self h) c
      refine sx_one (sy_asg (i := 2) (S1 := gFl n 0 h .no) (ev_mul (vn 2) ev_int ((big h1).cm (b := 3) (show (2 : Int).natAbs < 2 ^ 3 by decide) (by decide))) sc_law_floor_root.nd rfl (.inl rfl) li ?_)
      refine ⟨2 * n + 2 - h * 2, by omega, h * 2, ?_, by omega, by omega, rfl⟩
      show (⟨[.d (.int (n : Int)), .d (.int (0 : Int)), .d (.int ((h : Int) * 2)), .no], []⟩ : DS) = _
      rw [show ((h : Int) * 2) = ((h * 2 : Nat) : Int) from by omega]
      rfl
    · have c : ¬ (h : Int) * (h : Int) ≤ (n : Int) := of_decide_eq_false c
      have c : n < h * h := by
        refine Nat.lt_of_not_le fun q => c ?_
        exact_mod_cast q
      refine sx_cons (sy_while (fun μ S' => ∃ (l h : Nat) (x3 : DV), S' = gFl n l h x3 ∧ l < h ∧ h ≤ 2 * n + 1 ∧ l * l ≤ n ∧ n < h * h ∧ μ = h - l) _ ⟨0, h, .no, rfl, h0, h1, by omega, c, rfl⟩ PassesOwn.never ?_)
      rintro μ S' ⟨l, h, x3, rfl, hlh, h1, a1, a2, rfl⟩
      refine ⟨decide (1 < (h : Int) - (l : Int)), _, et_gt (ev_sub (vn 2) (vn 1)) ev_int, fun c => ?_, fun c => ?_⟩
      · have c : 1 < (h : Int) - (l : Int) := of_decide_eq_true c
        have em : ((l : Int) + (h : Int)) / 2 = (((l + h) / 2 : Nat) : Int) := by omega
        have hm1 : (l + h) / 2 ≤ 2 * n + 1 := by omega
        refine sx_cons (sy_asg (i := 3) (x := .d (.int (((l + h) / 2 : Nat) : Int))) (S1 := gFl n l h x3) (by rw [← em]; exact ev_fdiv (ev_add (vn 1) (vn 2)) ev_int (Sz.dv (a := 3) (by decide) (show (2 : Int).natAbs < 2 ^ 3 by decide) (by decide) (by decide))) sc_law_floor_root.nd rfl (.inl rfl) li ?_)
        show SX _ _ _ (gFl n l h (.d (.int (((l + h) / 2 : Nat) : Int)))) _
        by_cases hc : (l + h) / 2 * ((l + h) / 2) ≤ n
        · have hi : (((l + h) / 2 : Nat) : Int) * (((l + h) / 2 : Nat) : Int) ≤ (n : Int) := by exact_mod_cast hc
          refine sx_one (sy_unpack (S2 := gFl n ((l + h) / 2) h (.d (.int (((l + h) / 2 : Nat) : Int)))) (S1 := gFl n l h (.d (.int (((l + h) / 2 : Nat) : Int)))) (x := .d (.tuple [.int (((l + h) / 2 : Nat) : Int), .int (h : Int)])) (ev_if (et_le (ev_mul (vn 3) (vn 3) ((big hm1).cm (big hm1) (by decide))) (vn 0)) (fun _ => ev_tup (ds := [_, _]) (ea_cons (vn 3) (ea_cons (vn 2) ea_nil)) lq) fun q => absurd hi (of_decide_eq_false q)) (pg_tup rfl (pgs_cons (pg_name (i := 1) sc_law_floor_root.nd rfl (.inl rfl)) (pgs_cons (pg_name (i := 2) sc_law_floor_root.nd rfl (.inl rfl)) pgs_nil))) (tg_tup (ds := [_, _]) hK.symm rfl (.cons (tg_name (i := 1) li) rfl (.cons (tg_name (i := 2) li) rfl .nil))) rfl ?_)
          exact ⟨h - (l + h) / 2, by omega, _, h, _, rfl, by omega, h1, hc, a2, rfl⟩
        · have hi : ¬ (((l + h) / 2 : Nat) : Int) * (((l + h) / 2 : Nat) : Int) ≤ (n : Int) := fun q => hc (by exact_mod_cast q)
          refine sx_one (sy_unpack (S2 := gFl n l ((l + h) / 2) (.d (.int (((l + h) / 2 : Nat) : Int)))) (S1 := gFl n l h (.d (.int (((l + h) / 2 : Nat) : Int)))) (x := .d (.tuple [.int (l : Int), .int (((l + h) / 2 : Nat) : Int)])) (ev_if (et_le (ev_mul (vn 3) (vn 3) ((big hm1).cm (big hm1) (by decide))) (vn 0)) (fun q => absurd (of_decide_eq_true q) hi) fun _ => ev_tup (ds := [_, _]) (ea_cons (vn 1) (ea_cons (vn 3) ea_nil)) lq) (pg_tup rfl (pgs_cons (pg_name (i := 1) sc_law_floor_root.nd rfl (.inl rfl)) (pgs_cons (pg_name (i := 2) sc_law_floor_root.nd rfl (.inl rfl)) pgs_nil))) (tg_tup (ds := [_, _]) hK.symm rfl (.cons (tg_name (i := 1) li) rfl (.cons (tg_name (i := 2) li) rfl .nil))) rfl ?_)
          exact ⟨(l + h) / 2 - l, by omega, l, _, _, rfl, by omega, by omega, a1, by omega, rfl⟩
      · have c : ¬ 1 < (h : Int) - (l : Int) := of_decide_eq_false c
        have eh : h = l + 1 := by omega
        subst eh
        have el : t = l := root_unique t1 t2 a1 a2
        subst el
        exact sx_one (sy_retF (S1 := gFl n t (t + 1) x3) (vn 1))
end
end K0
end
section
set_option Elab.async false
set_option linter.all false
set_option maxRecDepth 100000
set_option maxHeartbeats 4000000
set_option exponentiation.threshold 300000
namespace TS
theorem Spl.next1 {n O R m f : Nat} (h : Spl n O R m f) (hm : m % f ≠ 0) : Spl n O R m (f + 1) := by
  refine ⟨h.eq, h.m0, h.O0, h.sq, h.cp, by have := h.f2; omega, fun d h1 h2 hd => ?_⟩
  by_cases h3 : d < f
  · exact h.nd d h1 h3 hd
  · have h4 : d = f := by omega
    subst h4
    exact hm (Nat.mod_eq_zero_of_dvd hd)
end TS
namespace K0
open PySem PySem.Spec PyProof.Rows L2 DX
set_option autoImplicit false
def r_lroot (ds : List PyData) (d : PyData) : Prop := ∃ q : Rat, ds = [qD q] ∧ 0 ≤ q.num ∧ q.num.natAbs < 2 ^ 30 ∧ q.den < 2 ^ 30 ∧
  ((q.num = 0 ∧ d = .tuple []) ∨ (0 < q.num ∧ ∃ o r : Nat, TS.Sqf r ∧ o * o * r = q.num.natAbs * q.den ∧ d = .tuple [.tuple [.int (r : Int), qD (mkRat (o : Int) q.den)]]))
def r_lof (ds : List PyData) (d : PyData) : Prop := ∃ p : Int × Int, ds = [frD p] ∧ d = if p.1 = 0 then .tuple [] else .tuple [.tuple [.int 1, frD p]]
section
variable {P : Program} {w : World} {K : PySem.W.Frag} {mg : Str → Option Value} {base : Heap}
abbrev gSide (m O R f : Nat) (t : DV) : List DV := [.d (.int (m : Int)), .d (.int (O : Int)), .d (.int (R : Int)), .d (.int (f : Int)), t]
theorem ok_law_side (T : Tx K mg) : FnOk P w K mg base CX0 2 T.d_law_side.fa T.d_law_side.fd P_law_side (FP K r_split) := by
  refine fp_ok T.d_law_side.F sc_law_side (fun ds d h => ?_) fun cdv A outer s H E b hK hr ds d h => ?_
  · obtain ⟨n, o, r, rfl, _⟩ := h
    rfl
  · obtain ⟨n, o, r, rfl, n0, nz, en, hr', rfl⟩ := h
    have o0 : 0 < o := by
      rcases Nat.eq_zero_or_pos o with e | e
      · subst e; simp at en; omega
      · exact e
    refine sx_cons (sy_unpack (S2 := ⟨gSide n 1 1 2 .no, []⟩) (ev_tup (ds := [.int 1, .int 1, .int 2]) (ea_cons ev_int (ea_cons ev_int (ea_cons ev_int ea_nil))) lq) (pg_tup rfl (pgs_cons (pg_name (i := 1) sc_law_side.nd rfl (.inl rfl)) (pgs_cons (pg_name (i := 2) sc_law_side.nd rfl (.inl rfl)) (pgs_cons (pg_name (i := 3) sc_law_side.nd rfl (.inl rfl)) pgs_nil)))) (tg_tup (ds := [.int 1, .int 1, .int 2]) hK.symm rfl (.cons (S := ⟨gStart N_law_side [.d (.int (n : Int))], []⟩) (tg_name (i := 1) li) rfl (.cons (tg_name (i := 2) li) rfl (.cons (tg_name (i := 3) li) rfl .nil)))) rfl ?_)
    refine sx_cons (sy_while (fun μ S' => ∃ O R m f : Nat, S' = ⟨gSide m O R f .no, []⟩ ∧ TS.Spl n O R m f ∧ f ≤ n + 2 ∧ μ = 2 * m + (n + 3 - f)) _ ⟨1, 1, n, 2, rfl, TS.Spl.start n0, by omega, rfl⟩ PassesOwn.never ?_)
    rintro μ S' ⟨O, R, m, f, rfl, hS, hf, rfl⟩
    have hmn : O * O * R * m = n := hS.eq
    have R0 := hS.sq.1
    have m0 := hS.m0
    have O0 := hS.O0
    have le1 : m ≤ n := by rw [← hmn]; exact Nat.le_mul_of_pos_left _ (Nat.mul_pos (Nat.mul_pos O0 O0) R0)
    have le2 : R ≤ n := by
      rw [← hmn, Nat.mul_assoc]
      exact Nat.le_trans (Nat.le_mul_of_pos_right R m0) (Nat.le_mul_of_pos_left _ (Nat.mul_pos O0 O0))
    have le3 : O ≤ n := by
      rw [← hmn, Nat.mul_assoc, Nat.mul_assoc]
      exact Nat.le_mul_of_pos_right O (Nat.mul_pos O0 (Nat.mul_pos R0 m0))
    have zO : Sz 61 (O : Int) := Sz.nat (by omega)
    have zR : Sz 61 (R : Int) := Sz.nat (by omega)
    have zm : Sz 61 (m : Int) := Sz.nat (by omega)
    have zf : Sz 61 (f : Int) := Sz.nat (by omega)
    have f2 := hS.f2
    have cast3 : ((f : Int) * f * f ≤ (m : Int)) ↔ f * f * f ≤ m := by
      constructor
      · intro h; exact_mod_cast h
      · intro h; exact_mod_cast h
    refine ⟨decide ((f : Int) * f * f ≤ m), _, et_le (ev_mul (ev_mul (vn 3) (vn 3) (zf.cm zf (by decide))) (vn 3) ((zf.mul zf).cm zf (by decide))) (vn 0), fun h => ?_, fun h => ?_⟩
    · have h3 : f * f * f ≤ m := cast3.mp (of_decide_eq_true h)
      have hfm : f ≤ m := Nat.le_trans (by have : f * 1 * 1 ≤ f * f * f := Nat.mul_le_mul (Nat.mul_le_mul_left f (by omega)) (by omega); omega) h3
      refine sx_one (sy_if (et_gt (ev_mod (vn 0) (vn 3) (by omega)) ev_int) (fun h => ?_) fun h => ?_)
      · have hm : m % f ≠ 0 := fun e => by
          have : ((m : Int) % (f : Int)) = 0 := by exact_mod_cast e
          rw [this] at h
          cases h
        refine sx_one (sy_asg (i := 3) (S1 := ⟨gSide m O R f .no, []⟩) (ev_add (vn 3) ev_int) sc_law_side.nd rfl (.inl rfl) li ?_)
        exact ⟨2 * m + (n + 3 - (f + 1)), by omega, O, R, m, f + 1, rfl, hS.next1 hm, by omega, rfl⟩
      · have hm : m % f = 0 := by
          have h := of_decide_eq_false h
          have : ((m : Int) % (f : Int)) = ((m % f : Nat) : Int) := by rw [Int.natCast_emod]
          omega
        obtain ⟨m1, rfl⟩ : ∃ m1, m = m1 * f := ⟨m / f, by rw [Nat.div_mul_cancel (Nat.dvd_of_mod_eq_zero hm)]⟩
        have m10 : 0 < m1 := by
          rcases Nat.eq_zero_or_pos m1 with e | e
          · subst e; simp at m0
          · exact e
        have e1 : ((m1 * f : Nat) : Int) / (f : Int) = (m1 : Int) := by
          rw [← Int.natCast_ediv, Nat.mul_div_cancel _ (by omega)]
        have hm1 : m1 * 2 ≤ m1 * f := Nat.mul_le_mul_left m1 f2
        have dvf : ∀ z : Int, CDivW z (f : Int) := fun z => zf.dv (by omega) (by decide) (by decide)
        refine sx_one (sy_if (et_eqI (ev_mod (ev_fdiv (vn 0) (vn 3) (dvf _)) (vn 3) (by omega)) ev_int) (fun h => ?_) fun h => ?_)
        · rw [e1] at h
          have hm' : m1 % f = 0 := by
            have h := of_decide_eq_true h
            have : ((m1 : Int) % (f : Int)) = ((m1 % f : Nat) : Int) := by rw [Int.natCast_emod]
            omega
          obtain ⟨m2, rfl⟩ : ∃ m2, m1 = m2 * f := ⟨m1 / f, by rw [Nat.div_mul_cancel (Nat.dvd_of_mod_eq_zero hm')]⟩
          have m20 : 0 < m2 := by
            rcases Nat.eq_zero_or_pos m2 with e | e
            · subst e; simp at m10
            · exact e
          have e2 : ((m2 * f : Nat) : Int) / (f : Int) = (m2 : Int) := by
            rw [← Int.natCast_ediv, Nat.mul_div_cancel _ (by omega)]
          have hm2 : m2 * 2 ≤ m2 * f := Nat.mul_le_mul_left m2 f2
          refine sx_one (sy_par (i := 0) (j := 1) (S1 := ⟨gSide (m2 * f * f) O R f .no, []⟩) (u := .d (.int (m2 : Int))) (w := .d (.int ((O * f : Nat) : Int))) rfl sc_law_side.nd rfl rfl (by decide) rfl rfl (ea_cons (S1 := ⟨gSide (m2 * f * f) O R f .no, []⟩) ?_ (ea_cons ?_ ea_nil)) li li ?_)
          · have e : (((m2 * f * f : Nat) : Int) / (f : Int)) / (f : Int) = (m2 : Int) := by rw [e1, e2]
            rw [← e]
            exact ev_fdiv (ev_fdiv (vn 0) (vn 3) (dvf _)) (vn 3) (dvf _)
          · rw [Int.natCast_mul]
            exact ev_mul (vn 1) (vn 3) (zO.cm zf (by decide))
          · exact ⟨2 * m2 + (n + 3 - f), by omega, O * f, R, m2, f, rfl, hS.twice m20, hf, rfl⟩
        · rw [e1] at h
          have hm' : ¬ f ∣ m1 := fun hd => by
            have := Nat.mod_eq_zero_of_dvd hd
            have q : ((m1 : Int) % (f : Int)) = 0 := by exact_mod_cast this
            rw [q] at h
            cases h
          refine sx_one (sy_par (i := 0) (j := 2) (S1 := ⟨gSide (m1 * f) O R f .no, []⟩) (u := .d (.int (m1 : Int))) (w := .d (.int ((R * f : Nat) : Int))) rfl sc_law_side.nd rfl rfl (by decide) rfl rfl (ea_cons (S1 := ⟨gSide (m1 * f) O R f .no, []⟩) ?_ (ea_cons ?_ ea_nil)) li li ?_)
          · rw [← e1]
            exact ev_fdiv (vn 0) (vn 3) (dvf _)
          · rw [Int.natCast_mul]
            exact ev_mul (vn 2) (vn 3) (zR.cm zf (by decide))
          · exact ⟨2 * m1 + (n + 3 - f), by omega, O, R * f, m1, f, rfl, hS.once m10 hm', hf, rfl⟩
    · have h3 : m < f * f * f := by
        refine Nat.lt_of_not_le fun hle => ?_
        exact absurd (cast3.mpr hle) (of_decide_eq_false h)
      obtain ⟨t, t1, t2⟩ := TS.isq_ex m
      have tm : t ≤ m := Nat.le_trans (Nat.le_mul_self t) t1
      have zt : Sz 61 (t : Int) := Sz.nat (by omega)
      have mb : m < 2 ^ 200000 := Nat.lt_of_lt_of_le (show m < 2 ^ 60 by omega) (Nat.pow_le_pow_right (by decide) (by decide))
      refine sx_cons (sy_asg (i := 4) (S1 := ⟨gSide m O R f .no, []⟩) (ev_call (ok_law_floor T) hK.symm hr rfl T.d_law_floor_root.m T.d_law_floor_root.F.kp T.d_law_floor_root.b pass0 (ds := [.int (m : Int)]) (ea_cons (vn 0) ea_nil) ⟨m, t, rfl, mb, t1, t2, rfl⟩) sc_law_side.nd rfl (.inl rfl) li ?_)
      show SX _ _ _ ⟨gSide m O R f (.d (.int (t : Int))), []⟩ _
      by_cases ht : t * t = m
      · have eq := TS.sqf_unique hr' hS.sq o0 (en.trans (hS.last_sq ht).symm)
        obtain ⟨rfl, rfl⟩ := eq
        have hi : (t : Int) * (t : Int) = (m : Int) := by exact_mod_cast ht
        rw [Int.natCast_mul]
        exact sx_one (sy_retF (S1 := ⟨gSide m O r f (.d (.int (t : Int))), []⟩) (ev_if (et_eqI (ev_mul (vn 4) (vn 4) (zt.cm zt (by decide))) (vn 0)) (fun _ => ev_tup (ds := [_, _]) (ea_cons (ev_mul (vn 1) (vn 4) (zO.cm zt (by decide))) (ea_cons (vn 2) ea_nil)) lq) fun q => absurd hi (of_decide_eq_false q)))
      · have ht' : ∀ u, u * u ≠ m := fun u hu => by
          have : u = t := root_unique (n := m) (by omega) (by rw [← hu]; exact Nat.mul_lt_mul'' (Nat.lt_succ_self u) (Nat.lt_succ_self u)) t1 t2
          exact ht (this ▸ hu)
        have eq := TS.sqf_unique hr' (hS.last_no h3 ht').1 o0 (en.trans (hS.last_no h3 ht').2.symm)
        obtain ⟨rfl, rfl⟩ := eq
        have hi : ¬ (t : Int) * (t : Int) = (m : Int) := fun q => ht (by exact_mod_cast q)
        rw [Int.natCast_mul]
        exact sx_one (sy_retF (S1 := ⟨gSide m o R f (.d (.int (t : Int))), []⟩) (ev_if (et_eqI (ev_mul (vn 4) (vn 4) (zt.cm zt (by decide))) (vn 0)) (fun q => absurd (of_decide_eq_true q) hi) fun _ => ev_tup (ds := [_, _]) (ea_cons (vn 1) (ea_cons (ev_mul (vn 2) (vn 0) (zR.cm zm (by decide))) ea_nil)) lq))
theorem ok_law_root (T : Tx K mg) : FnOk P w K mg base CX0 3 T.d_law_root.fa T.d_law_root.fd P_law_root (FP K r_lroot) := by
  refine fp_ok T.d_law_root.F sc_law_root (fun ds d h => ?_) fun cdv A outer s H E b hK hr ds d h => ?_
  · obtain ⟨q, rfl, _⟩ := h
    rfl
  · obtain ⟨q, rfl, q0, z1, z2, hd⟩ := h
    refine sx_cons (sy_if (et_eqI (ev_ixT hK.symm (vn 0) ev_int rfl) ev_int) (fun h => ?_) fun h => ?_)
    · have h0 : q.num = 0 := of_decide_eq_true h
      rcases hd with ⟨_, rfl⟩ | ⟨hp, _⟩
      · exact sx_one (sy_retF (ev_tup (ds := []) ea_nil lq))
      · omega
    · have h0 : ¬ q.num = 0 := of_decide_eq_false h
      refine sx_nil ?_
      rcases hd with ⟨h1, _⟩ | ⟨hp, o, r, hr', eo, rfl⟩
      · exact (h0 h1).elim
      · have dn := q.den_nz
        have en : q.num = (q.num.natAbs : Int) := by omega
        have zn : Sz 30 q.num := z1
        have zd : Sz 30 (q.den : Int) := Sz.nat z2
        have epr : q.num * (q.den : Int) = ((q.num.natAbs * q.den : Nat) : Int) := by rw [Int.natCast_mul, ← en]
        have pz : q.num.natAbs * q.den < 2 ^ 60 := by
          rw [show 60 = 30 + 30 from rfl, Nat.pow_add]
          exact Nat.mul_lt_mul'' z1 z2
        refine sx_cons (sy_unpack (S2 := ⟨[.d (qD q), .d (.int (o : Int)), .d (.int (r : Int))], []⟩) (ev_call (ok_law_side T) hK.symm hr rfl T.d_law_side.m T.d_law_side.F.kp T.d_law_side.b pass0 (ds := [.int (q.num * (q.den : Int))]) (d := .tuple [.int (o : Int), .int (r : Int)]) (ea_cons (ev_mul (ev_ixT hK.symm (vn 0) ev_int rfl) (ev_ixT hK.symm (vn 0) ev_int rfl) (zn.cm zd (by decide))) ea_nil) ⟨_, o, r, by rw [epr], Nat.mul_pos (by omega) (by omega), pz, eo, hr', rfl⟩) (pg_tup rfl (pgs_cons (pg_name (i := 1) sc_law_root.nd rfl (.inl rfl)) (pgs_cons (pg_name (i := 2) sc_law_root.nd rfl (.inl rfl)) pgs_nil))) (tg_tup (ds := [.int (o : Int), .int (r : Int)]) hK.symm rfl (.cons (S := ⟨gStart N_law_root [.d (qD q)], []⟩) (tg_name (i := 1) li) rfl (.cons (tg_name (i := 2) li) rfl .nil))) rfl ?_)
        have em : qD (mkRat (o : Int) q.den) = frD (red (o : Int) (q.den : Int)) := by rw [red_mk _ _ dn]
        rw [em]
        refine sx_one (sy_retF (S1 := ⟨[.d (qD q), .d (.int (o : Int)), .d (.int (r : Int))], []⟩) (ev_tup (ds := [_]) (ea_cons (ev_tup (ds := [_, _]) (ea_cons (vn 2) (ea_cons (ev_call (ok_law_fr T) hK.symm (hr.mono (by decide)) rfl T.d_law_fr.m T.d_law_fr.F.kp T.d_law_fr.b pass0 (ds := [_, _]) (ea_cons (vn 1) (ea_cons (ev_ixT hK.symm (vn 0) ev_int rfl) ea_nil)) ⟨_, _, rfl, by omega, zd.mono (by decide), rfl⟩) ea_nil)) lq) ea_nil) lq))
theorem ok_law_of (T : Tx K mg) : FnOk P w K mg base CX0 1 T.d_law_of.fa T.d_law_of.fd P_law_of (FP K r_lof) := by
  refine fp_ok T.d_law_of.F sc_law_of (fun ds d h => ?_) fun cdv A outer s H E b hK hr ds d h => ?_
  · obtain ⟨p, rfl, _⟩ := h
    rfl
  · obtain ⟨p, rfl, rfl⟩ := h
    refine sx_one (sy_retF (S1 := ⟨gStart N_law_of [.d (frD p)], []⟩) (ev_if (et_neI (ev_ixT hK.symm (vn 0) ev_int rfl) ev_int) (fun h => ?_) fun h => ?_))
    · have h : ¬ p.1 = 0 := by simpa using h
      rw [if_neg h]
      exact ev_tup (ds := [_]) (ea_cons (ev_tup (ds := [_, _]) (ea_cons ev_int (ea_cons (vn 0) ea_nil)) lq) ea_nil) lq
    · have h : p.1 = 0 := by simpa using h
      rw [if_pos h]
      exact ev_tup (ds := []) ea_nil lq
end
end K0
end
section
set_option Elab.async false
set_option linter.all false
set_option maxRecDepth 100000
set_option maxHeartbeats 4000000
set_option exponentiation.threshold 300000
namespace DX
open PySem PySem.Spec PyProof.Rows L2
theorem dp_ints {K : PySem.W.Frag} {H : Hp} : ∀ {ns : List Int} {xs : List V}, DpAll K H xs (ns.map PyData.int) → xs = ns.map V.int
  | [], _, .nil => rfl
  | n :: ns, _, .cons h hs => by
    cases h
    rw [dp_ints hs]
    rfl
theorem rc_sortedL {X : Cx} {b : Bs} {S : DS} {ks zs : List Int} (hK : X.K = b.K) (h64 : ks.length < 64) (hp : zs.Perm ks) (hs : zs.Pairwise (· ≤ ·)) : RC b (rSorted X.K) [.d (.list (ks.map .int))] S (.d (.list (zs.map .int))) := by
  intro H vs rm h Q q
  obtain ⟨v, rfl, k⟩ := vall1 h
  cases k with
  | lst h1 h2 =>
    have e := dp_ints h2
    subst e
    refine ⟨_, ks, rfl, by rw [hK]; exact ex_l hide_ex h1, h64, fun ys p g1 g2 g3 => ?_⟩
    have e : ys = zs := perm_sorted_unique (g1.trans hp.symm) g2 hs
    subst e
    exact q _ _ (.lst (.inl (.inl (hide_new (rm.fresh g3)))) (DpAll.ints ys)) (Ex.new g3)
end DX
namespace K0
open PySem PySem.Spec PyProof.Rows L2 DX
set_option autoImplicit false
/-! sums of the other side -/
abbrev RTrm := Nat × (Int × Int)
def rD (t : RTrm) : PyData := .tuple [.int (t.1 : Int), frD t.2]
def rv (x : Int × Int) : Rat := mkRat x.1 x.2.toNat
theorem rv_qP (q : Rat) : rv (qP q) = q := by
  unfold rv qP
  show mkRat q.num (q.den : Int).toNat = q
  rw [Int.toNat_natCast, Rat.mkRat_self]
theorem fmul_rv {p q : Int × Int} (hp : 0 < p.2) (hq : 0 < q.2) : fmul p q = qP (rv p * rv q) := by
  unfold fmul rv
  rw [Rat.mkRat_mul_mkRat, ← red_mk]
  · rw [Int.natCast_mul, Int.toNat_of_nonneg (by omega), Int.toNat_of_nonneg (by omega)]
  · exact Nat.mul_ne_zero (by omega) (by omega)
theorem norm_QS' {t : Int} {l a : Nat} (h : l ≠ 0) (h1 : t.natAbs < 2 ^ a) (h2 : l < 2 ^ a) : QS a (mkRat t l) := by
  unfold mkRat
  rw [dif_neg h]
  exact norm_QS h h1 h2
theorem rv_QS {n : Nat} {x : Int × Int} (h : Fr n x) : QS n (rv x) := by
  obtain ⟨h0, h1, h2⟩ := h
  unfold Sz at h2
  exact norm_QS' (by omega) h1 (by omega)
def scaled (q : List RTrm) (c : Int × Int) : List Trm := q.map fun t => (t.1, rv t.2 * rv c)
def r_ladd (ds : List PyData) (d : PyData) : Prop := ∃ (p : List Trm) (q : List RTrm) (c : Int × Int) (l : List Trm), ds = [sD p, .tuple (q.map rD), frD c] ∧ Canon p ∧ p.length + q.length ≤ 60 ∧ (∀ t ∈ p, QS 2000 t.2) ∧ (∀ t ∈ q, Fr 900 t.2) ∧ Fr 900 c ∧
  (∀ i r, QS 2000 (co (p ++ (scaled q c).take i) r)) ∧ Canon l ∧ (∀ r, co l r = co p r + co (scaled q c) r) ∧ d = sD l
theorem Canon.before {p : List Trm} (h : Canon p) {i : Nat} {t : Trm} (ht : p[i]? = some t) : co (p.take i) t.1 = 0 := by
  refine co_none fun u hu => ?_
  obtain ⟨hi, e⟩ := List.getElem?_eq_some_iff.mp ht
  obtain ⟨j, hj, e2⟩ := List.mem_iff_getElem.mp hu
  rw [List.length_take] at hj
  rw [List.getElem_take] at e2
  have := List.pairwise_iff_getElem.mp h.inc j i (by omega) hi (by omega)
  rw [e2, e] at this
  omega
theorem fput_congr {f g : Nat → Rat} {r : Nat} {v w : Rat} (h : ∀ r, f r = g r) (e : v = w) : ∀ r', fput f r v r' = fput g r w r' := fun r' => by unfold fput; rw [h, e]
section
variable {P : Program} {w : World} {K : PySem.W.Frag} {mg : Str → Option Value} {base : Heap}
abbrev gAd (p : List Trm) (q : List RTrm) (c : Int × Int) (a : Addr) (rs : List Nat) (f : Nat → Rat) (x4 x5 : DV) : DS := ⟨[.d (sD p), .d (.tuple (q.map rD)), .d (frD c), .m a, x4, x5], [(a, .dct (enc rs f))]⟩
theorem step_put {p : List Trm} {q : List RTrm} {c : Int × Int} {a : Addr} {rs : List Nat} {f g : Nat → Rat} {x4 x5 : DV} {r : Nat} {v : Rat} (hg : ∀ r', g r' = fput f r v r') :
    DS.setm (gAd p q c a rs f x4 x5) a (.dct (kput (enc rs f) (Sum.inl (r : Int)) (qD v))) = gAd p q c a (if r ∈ rs then rs else rs ++ [r]) g x4 x5 := by
  have e : g = fput f r v := funext hg
  subst e
  unfold DS.setm setM
  rw [kput_enc]
  simp
theorem nodup_put {rs : List Nat} {r : Nat} (nd : rs.Nodup) : (if r ∈ rs then rs else rs ++ [r]).Nodup := by
  by_cases h : r ∈ rs
  · rw [if_pos h]; exact nd
  · rw [if_neg h]
    exact List.nodup_append.mpr ⟨nd, by simp, fun c hc d hd => by rw [List.mem_singleton] at hd; rw [hd]; intro e; exact h (e ▸ hc)⟩
theorem zero_put {rs : List Nat} {f : Nat → Rat} {r : Nat} {v : Rat} (h0 : ∀ r', r' ∉ rs → f r' = 0) : ∀ r', r' ∉ (if r ∈ rs then rs else rs ++ [r]) → fput f r v r' = 0 := fun r' hr' => by
  have h1 : r' ∉ rs ∧ r' ≠ r := by
    by_cases h : r ∈ rs
    · rw [if_pos h] at hr'
      exact ⟨hr', fun e => hr' (e ▸ h)⟩
    · rw [if_neg h] at hr'
      exact ⟨fun q => hr' (List.mem_append.mpr (.inl q)), fun e => hr' (List.mem_append.mpr (.inr (by rw [e]; simp)))⟩
  unfold fput
  rw [if_neg h1.2]
  exact h0 r' h1.1
theorem len_put {rs : List Nat} {r i : Nat} (h : rs.length ≤ i) : (if r ∈ rs then rs else rs ++ [r]).length ≤ i + 1 := by
  split
  · omega
  · rw [List.length_append]; simp; omega
theorem get_enc {rs : List Nat} {f : Nat → Rat} (h0 : ∀ r', r' ∉ rs → f r' = 0) (r : Nat) : ((kget (enc rs f) (.inl (r : Int))).getD (.tuple [.int 0, .int 1])) = qD (f r) := by
  rw [kget_enc]
  by_cases h : r ∈ rs
  · rw [if_pos h]; rfl
  · rw [if_neg h, h0 _ h]; rfl
theorem ok_law_add (T : Tx K mg) : FnOk P w K mg base CX0 3 T.d_law_add.fa T.d_law_add.fd P_law_add (FP K r_ladd) := by
  refine fp_ok T.d_law_add.F sc_law_add (fun ds d h => ?_) fun cdv A outer s H E b hK hr ds d h => ?_
  · obtain ⟨p, q, c, l, rfl, _⟩ := h
    rfl
  · obtain ⟨p, q, c, l, rfl, hp, hz, hps, hqs, hc, hmid, hl, hco, rfl⟩ := h
    have hu : (A.deeper (envOfC "_law_add" (defScope s_law_add) s.heap.objs.size T.d_law_add.fa cdv)).units + 1 < cLine := hu_of hr
    refine sx_cons (sy_newD (i := 3) sc_law_add.nd rfl (.inr rfl) li fun a => ?_)
    have hin : ∀ {rs f x4 x5}, (a, MO.dct (enc rs f)) ∈ (gAd p q c a rs f x4 x5).m := List.mem_singleton.mpr rfl
    refine sx_cons (sy_forT (ds := p.map tD) (g := gTup K 2 (gList [gName 4, gName 5])) hK.symm PassesOwn.never rfl (S1 := gAd p q c a [] (fun _ => 0) .no .no) (vn 0) (pg_tup rfl (pgs_cons (pg_name (i := 4) sc_law_add.nd rfl (.inl rfl)) (pgs_cons (pg_name (i := 5) sc_law_add.nd rfl (.inl rfl)) pgs_nil)))
      (fun i S' => ∃ rs x4 x5, S' = gAd p q c a rs (co (p.take i)) x4 x5 ∧ rs.Nodup ∧ (∀ r, r ∉ rs → co (p.take i) r = 0) ∧ rs.length ≤ i) ⟨[], .no, .no, rfl, List.nodup_nil, fun _ _ => rfl, Nat.le_refl _⟩ ?_ ?_)
    · rintro i d S' hd ⟨rs, x4, x5, rfl, nd, h0, hlen⟩
      obtain ⟨t, ht, rfl⟩ : ∃ t, p[i]? = some t ∧ d = tD t := by
        rw [List.getElem?_map] at hd
        cases hx : p[i]? with
        | none => rw [hx] at hd; cases hd
        | some t => rw [hx] at hd; exact ⟨t, rfl, (Option.some.inj hd).symm⟩
      have hi : i < p.length := (List.getElem?_eq_some_iff.mp ht).1
      have hg : ∀ r', co (p.take (i + 1)) r' = fput (co (p.take i)) t.1 t.2 r' := fun r' => by
        rw [take_succ_co ht, hp.before ht, Rat.zero_add]
      refine ⟨gAd p q c a rs (co (p.take i)) (.d (.int (t.1 : Int))) (.d (qD t.2)), tg_tup (ds := [.int (t.1 : Int), qD t.2]) hK.symm rfl (.cons (S := gAd p q c a rs (co (p.take i)) x4 x5) (tg_name (i := 4) li) rfl (.cons (tg_name (i := 5) li) rfl .nil)), rfl, ?_⟩
      refine sx_one (sy_dput (S1 := gAd p q c a rs (co (p.take i)) (.d (.int (t.1 : Int))) (.d (qD t.2))) (d := qD t.2) (n := (t.1 : Int)) hu (vn 5) (vn 3) (vn 4) hin (by unfold enc; rw [List.length_map]; omega) ?_)
      show ∃ _, _
      rw [step_put hg]
      exact ⟨_, _, _, rfl, nodup_put nd, fun r hr' => by rw [hg]; exact zero_put h0 r hr', len_put hlen⟩
    · rintro S' ⟨rs, x4, x5, rfl, nd, h0, hlen⟩
      have hlp : (p.map tD).length = p.length := List.length_map _
      rw [hlp] at hlen
      rw [hlp, List.take_length] at h0
      have etk : p.take (p.map tD).length = p := by rw [hlp, List.take_length]
      rw [etk]
      have hqlen : (scaled q c).length = q.length := List.length_map _
      refine sx_cons (sy_forT (ds := q.map rD) (g := gTup K 2 (gList [gName 4, gName 5])) hK.symm PassesOwn.never rfl (S1 := gAd p q c a rs (co p) x4 x5) (vn 1) (pg_tup rfl (pgs_cons (pg_name (i := 4) sc_law_add.nd rfl (.inl rfl)) (pgs_cons (pg_name (i := 5) sc_law_add.nd rfl (.inl rfl)) pgs_nil)))
        (fun i S' => ∃ rs x4 x5, S' = gAd p q c a rs (co (p ++ (scaled q c).take i)) x4 x5 ∧ rs.Nodup ∧ (∀ r, r ∉ rs → co (p ++ (scaled q c).take i) r = 0) ∧ rs.length ≤ p.length + i) ⟨rs, x4, x5, by rw [List.take_zero, List.append_nil], nd, by rw [List.take_zero, List.append_nil]; exact h0, by omega⟩ ?_ ?_)
      · rintro i d S' hd ⟨rs, x4, x5, rfl, nd, h0, hlen⟩
        obtain ⟨t, ht, rfl⟩ : ∃ t, q[i]? = some t ∧ d = rD t := by
          rw [List.getElem?_map] at hd
          cases hx : q[i]? with
          | none => rw [hx] at hd; cases hd
          | some t => rw [hx] at hd; exact ⟨t, rfl, (Option.some.inj hd).symm⟩
        have hi : i < q.length := (List.getElem?_eq_some_iff.mp ht).1
        have htq := hqs t (List.mem_of_getElem? ht)
        have hts : (scaled q c)[i]? = some (t.1, rv t.2 * rv c) := by
          unfold scaled
          rw [List.getElem?_map, ht]
          rfl
        have hg : ∀ r', co (p ++ (scaled q c).take (i + 1)) r' = fput (co (p ++ (scaled q c).take i)) t.1 (co (p ++ (scaled q c).take i) t.1 + rv t.2 * rv c) r' := fun r' => by
          rw [co_app, take_succ_co hts]
          unfold fput
          by_cases e : r' = t.1
          · rw [if_pos e, if_pos e, e, co_app]; grind
          · rw [if_neg e, if_neg e, co_app]
        refine ⟨gAd p q c a rs (co (p ++ (scaled q c).take i)) (.d (.int (t.1 : Int))) (.d (frD t.2)), tg_tup (ds := [.int (t.1 : Int), frD t.2]) hK.symm rfl (.cons (S := gAd p q c a rs (co (p ++ (scaled q c).take i)) x4 x5) (tg_name (i := 4) li) rfl (.cons (tg_name (i := 5) li) rfl .nil)), rfl, ?_⟩
        have qs2 : QS 1801 (rv t.2 * rv c) := ((rv_QS htq).mul (rv_QS hc)).mono (by decide)
        refine sx_one (sy_dput (S1 := gAd p q c a rs (co (p ++ (scaled q c).take i)) (.d (.int (t.1 : Int))) (.d (frD t.2))) (d := qD (co (p ++ (scaled q c).take i) t.1 + rv t.2 * rv c)) (n := (t.1 : Int)) hu (ev_call (ok_law_plus T) hK.symm hr rfl T.d_law_plus.m T.d_law_plus.F.kp T.d_law_plus.b pass0 (ds := [qD (co (p ++ (scaled q c).take i) t.1), qD (rv t.2 * rv c)])
          (ea_cons (S1 := gAd p q c a rs (co (p ++ (scaled q c).take i)) (.d (.int (t.1 : Int))) (.d (frD t.2))) (by rw [← get_enc h0]; exact ev_dget2 hu (vn 3) (vn 4) (ev_tup (ds := [.int 0, .int 1]) (ea_cons ev_int (ea_cons ev_int ea_nil)) lq) hin ⟨rfl, rfl, rfl, rfl⟩) (ea_cons (S1 := gAd p q c a rs (co (p ++ (scaled q c).take i)) (.d (.int (t.1 : Int))) (.d (frD t.2))) (ev_call (ok_law_times T) hK.symm hr rfl T.d_law_times.m T.d_law_times.F.kp T.d_law_times.b pass0 (ds := [frD t.2, frD c]) (ea_cons (vn 5) (ea_cons (vn 2) ea_nil)) ⟨t.2, c, rfl, ⟨htq.1, htq.2.1.mono (by decide), htq.2.2.mono (by decide)⟩, ⟨hc.1, hc.2.1.mono (by decide), hc.2.2.mono (by decide)⟩, by rw [fmul_rv htq.1 hc.1]⟩) ea_nil)) ⟨qP _, qP _, rfl, ((hmid i t.1).mono (by decide)).fr, (qs2.mono (by decide)).fr, by rw [fadd_q]⟩) (vn 3) (vn 4) hin (by unfold enc; rw [List.length_map]; omega) ?_)
        show ∃ _, _
        rw [step_put hg]
        exact ⟨_, _, _, rfl, nodup_put nd, fun r hr' => by rw [hg]; exact zero_put h0 r hr', len_put (i := p.length + i) hlen⟩
      · rintro S' ⟨rs, x4, x5, rfl, nd, h0, hlen⟩
        have hlq : (q.map rD).length = (scaled q c).length := by rw [List.length_map, hqlen]
        rw [hlq, List.take_length] at h0
        rw [hlq] at hlen
        have etk : p ++ (scaled q c).take (q.map rD).length = p ++ scaled q c := by rw [hlq, List.take_length]
        rw [etk]
        have slen : (srt rs).length = rs.length := (srt_perm rs).length_eq
        have el : l = mk (srt rs) (co (p ++ scaled q c)) := canon_ext hl (mk_canon (srt_lt nd)) fun r => by rw [hco, mk_co (srt_lt nd) fun r hr' => h0 r fun q => hr' ((srt_perm rs).mem_iff.mpr q), co_app]
        generalize co (p ++ scaled q c) = f at el h0 ⊢
        have key : ∀ {i : Nat} {d : PyData}, ((srt rs).map fun (r : Nat) => PyData.int (r : Int))[i]? = some d → i < (srt rs).length ∧ d = .int (((srt rs).getD i 0 : Nat) : Int) := fun {i d} hd => by
          rw [List.getElem?_map] at hd
          cases hx : (srt rs)[i]? with
          | none => rw [hx] at hd; cases hd
          | some r =>
            rw [hx] at hd
            refine ⟨(List.getElem?_eq_some_iff.mp hx).1, ?_⟩
            rw [List.getD_eq_getElem?_getD, hx]
            exact (Option.some.inj hd).symm
        have hget : ∀ i, i < (srt rs).length → kget (enc rs f) (Sum.inl (((srt rs).getD i 0 : Nat) : Int)) = some (qD (f ((srt rs).getD i 0))) := fun i hi => by
          rw [kget_enc, if_pos]
          rw [List.getD_eq_getElem?_getD, List.getElem?_eq_getElem hi]
          exact (srt_perm rs).mem_iff.mp (List.getElem_mem hi)
        refine sx_one (sy_retF (S1 := gAd p q c a rs f x4 x5) (ev_tupleL hK.symm rfl T.n_tuple (ds := l.map tD) ?_))
        refine ev_lcL1i (S1 := gAd p q c a rs f x4 x5) (own := [("radicand", 4)]) (g := gName 4) (ds := (srt rs).map fun (r : Nat) => .int (r : Int)) (gT := fun d => [.d (sD p), .d (.tuple (q.map rD)), .d (frD c), .m a, .d d, x5]) (c := fun i => decide (f ((srt rs).getD i 0) ≠ 0)) (y := fun i => tD ((srt rs).getD i 0, f ((srt rs).getD i 0))) ?_ ?_ ?_ ?_ ?_ ?_ ?_ ?_ ?_ ?_ ?_
        · exact hK.symm
        · rfl
        · exact sc_law_add.nd
        · rw [show (srt rs).map (fun (r : Nat) => PyData.int (r : Int)) = ((srt rs).map fun (r : Nat) => (r : Int)).map .int from by rw [List.map_map]; rfl]
          refine ev_callB cr_sorted ?_ T.n_sorted (by decide +kernel) (ea_cons (x := .d (.list ((rs.map fun (r : Nat) => (r : Int)).map .int))) (S1 := gAd p q c a rs f x4 x5) ?_ ea_nil) (rc_sortedL hK.symm (by rw [List.length_map]; omega) (srt_ints rs).1 (srt_ints rs).2)
          · exact rfl
          · exact ev_callTy (call_listD rfl) rfl T.n_list (by decide +kernel) (ea_cons (vn 3) ea_nil) (rc_listD hin (enc_keys rs f))
        · rw [List.length_map, slen]; omega
        · exact blkOk_by (N := N_law_add) (sc := defScope s_law_add) (by decide +kernel)
        · exact fun _ _ _ _ _ => pg_name (i := 4) sc_law_add.nd rfl (.inl rfl)
        · exact fun i d hd => tgb_name (vs := [4]) (j := 4) (g0 := [.d (sD p), .d (.tuple (q.map rD)), .d (frD c), .m a, .no, x5]) (List.mem_singleton.mpr rfl) li
        · intro i d hd Dl acc
          obtain ⟨hi, rfl⟩ := key hd
          intro s H C cl fp
          have e : decide (f ((srt rs).getD i 0) ≠ 0) = !decide ((f ((srt rs).getD i 0)).num = 0) := by
            by_cases q : f ((srt rs).getD i 0) = 0
            · rw [q]; rfl
            · have : ¬ (f ((srt rs).getD i 0)).num = 0 := fun z => q (Rat.num_eq_zero.mp z)
              rw [decide_eq_true q, decide_eq_false this]
              rfl
          rw [e]
          exact et_neI (ev_ixT hK.symm (ev_dgetI hu (vn 3) (vn 4) (List.mem_cons_self ..) (hget i hi)) ev_int rfl) ev_int
        · intro i d hd hc Dl acc
          obtain ⟨hi, rfl⟩ := key hd
          intro s H C cl fp
          exact ev_tup (ds := [_, _]) (ea_cons (vn 4) (ea_cons (ev_dgetI hu (vn 3) (vn 4) (List.mem_cons_self ..) (hget i hi)) ea_nil)) lq
        · rw [el, List.length_map]
          have := outs_picked (ds := (srt rs).map fun (r : Nat) => PyData.int (r : Int)) (f := fun d => match d with
            | .int r => decide (f r.toNat ≠ 0)
            | _ => false) (g := fun d => match d with
            | .int r => tD (r.toNat, f r.toNat)
            | _ => .none) (c := fun i => decide (f ((srt rs).getD i 0) ≠ 0)) (y := fun i => tD ((srt rs).getD i 0, f ((srt rs).getD i 0))) fun i d hd => by
              obtain ⟨hi, rfl⟩ := key hd
              exact ⟨rfl, rfl⟩
          rw [List.length_map] at this
          rw [this]
          unfold mk
          rw [List.filter_map, List.map_map, List.map_map]
          rfl
end
end K0
end
section
set_option Elab.async false
set_option linter.all false
set_option maxRecDepth 100000
set_option maxHeartbeats 4000000
set_option exponentiation.threshold 300000
namespace K0
open PySem PySem.Spec PyProof.Rows L2 DX
set_option autoImplicit false
/-! products of the other side -/
def rds : List Trm → List Nat
  | [] => []
  | t :: l => if t.1 ∈ rds l then rds l else t.1 :: rds l
theorem rds_nd : ∀ l, (rds l).Nodup
  | [] => List.nodup_nil
  | t :: l => by
    show (if t.1 ∈ rds l then rds l else t.1 :: rds l).Nodup
    split
    · exact rds_nd l
    · rename_i h
      exact List.nodup_cons.mpr ⟨h, rds_nd l⟩
theorem rds_mem {l : List Trm} {t : Trm} (h : t ∈ l) : t.1 ∈ rds l := by
  induction l with
  | nil => cases h
  | cons u l ih =>
    show t.1 ∈ (if u.1 ∈ rds l then rds l else u.1 :: rds l)
    rcases List.mem_cons.mp h with e | e
    · subst e
      split
      · rename_i q; exact q
      · exact List.mem_cons_self ..
    · split
      · exact ih e
      · exact List.mem_cons_of_mem _ (ih e)
theorem rds_from {l : List Trm} {r : Nat} (h : r ∈ rds l) : ∃ t ∈ l, t.1 = r := by
  induction l with
  | nil => cases h
  | cons u l ih =>
    have h : r ∈ (if u.1 ∈ rds l then rds l else u.1 :: rds l) := h
    split at h
    · obtain ⟨t, a, b⟩ := ih h
      exact ⟨t, List.mem_cons_of_mem _ a, b⟩
    · rcases List.mem_cons.mp h with e | e
      · exact ⟨u, List.mem_cons_self .., e.symm⟩
      · obtain ⟨t, a, b⟩ := ih e
        exact ⟨t, List.mem_cons_of_mem _ a, b⟩
theorem rds_len (l : List Trm) : (rds l).length ≤ l.length := by
  induction l with
  | nil => exact Nat.le_refl _
  | cons u l ih =>
    show (if u.1 ∈ rds l then rds l else u.1 :: rds l).length ≤ _
    split
    · rw [List.length_cons]; omega
    · rw [List.length_cons, List.length_cons]; omega
/-- what a list collects to -/
def cn (l : List Trm) : List Trm := mk (srt (rds l)) (co l)
theorem cn_nil : cn [] = [] := by
  unfold cn mk
  have : srt (rds []) = [] := List.Perm.eq_nil (srt_perm [])
  rw [this]
  rfl
theorem cn_canon (l : List Trm) : Canon (cn l) := mk_canon (srt_lt (rds_nd l))
theorem cn_co (l : List Trm) (r : Nat) : co (cn l) r = co l r := mk_co (srt_lt (rds_nd l)) (fun r h => co_none fun t ht e => h ((srt_perm _).mem_iff.mpr (by rw [← e]; exact rds_mem ht))) r
theorem cn_len (l : List Trm) : (cn l).length ≤ (rds l).length := by
  unfold cn mk
  rw [List.length_map]
  refine Nat.le_trans (List.length_filter_le _ _) ?_
  rw [(srt_perm (rds l)).length_eq]
  exact Nat.le_refl _
theorem Canon.mem_co {l : List Trm} (h : Canon l) {m : List Trm} (e : ∀ r, co l r = co m r) {t : Trm} (ht : t ∈ l) : t.2 = co m t.1 ∧ ∃ u ∈ m, u.1 = t.1 := by
  have h1 := h.co_mem ht
  refine ⟨by rw [← e, h1], ?_⟩
  refine Classical.byContradiction fun hx => h.nz t ht ?_
  rw [← h1, e]
  exact co_none fun u hu q => hx ⟨u, hu, q⟩
theorem canon_len {l m : List Trm} (h : Canon l) (e : ∀ r, co l r = co m r) : l.length ≤ (rds m).length := by
  have : l = cn m := canon_ext h (cn_canon m) fun r => by rw [e, cn_co]
  rw [this]
  exact cn_len m
def r_lmul (ds : List PyData) (d : PyData) : Prop := ∃ (p q l : List Trm), ds = [sD p, sD q] ∧ p.length ≤ 4 ∧ q.length ≤ 4 ∧ (∀ t ∈ p, 0 < t.1 ∧ t.1 < 2 ^ 20 ∧ QS 30 t.2) ∧ (∀ t ∈ q, 0 < t.1 ∧ t.1 < 2 ^ 20 ∧ QS 30 t.2) ∧ Canon l ∧ (∀ r, co l r = co (prods p q) r) ∧ d = sD l
theorem nat_QS {n a : Nat} (h : n < 2 ^ a) (ha : 0 < a) : QS a ((n : Nat) : Rat) := ⟨h, Nat.one_lt_two_pow (by omega)⟩
theorem ptm_QS {s t : Trm} (h : 0 < s.1 ∧ s.1 < 2 ^ 20 ∧ QS 30 s.2) (g : 0 < t.1 ∧ t.1 < 2 ^ 20 ∧ QS 30 t.2) : QS 80 (ptm s t).2 := by
  have hg : Nat.gcd s.1 t.1 < 2 ^ 20 := Nat.lt_of_le_of_lt (Nat.le_of_dvd h.1 (Nat.gcd_dvd_left _ _)) h.2.1
  exact (nat_QS hg (by decide)).mul (h.2.2.mul g.2.2)
theorem co80 {ps : List Trm} (h : ∀ t ∈ ps, QS 80 t.2) (hl : ps.length ≤ 16) (r : Nat) : QS 1300 (co ps r) := (co_QS h r).mono (by
  have : ps.length * (80 + 1) ≤ 16 * 81 := Nat.mul_le_mul_right _ hl
  omega)
theorem rv_one (n : Nat) : rv ((n : Int), 1) = (n : Rat) := by
  show rv (qP ((n : Nat) : Rat)) = _
  rw [rv_qP]
section
variable {P : Program} {w : World} {K : PySem.W.Frag} {mg : Str → Option Value} {base : Heap}
abbrev gMu (p q F : List Trm) (x3 x4 x5 x6 x7 x8 : DV) : DS := ⟨[.d (sD p), .d (sD q), .d (sD F), x3, x4, x5, x6, x7, x8], []⟩
theorem prods_succ {p q : List Trm} {i : Nat} {s : Trm} (h : p[i]? = some s) : prods (p.take (i + 1)) q = prods (p.take i) q ++ q.map (ptm s) := by
  unfold prods
  rw [List.take_add_one, h, List.flatMap_append]
  simp
theorem prods_len (p q : List Trm) : (prods p q).length = p.length * q.length := by
  unfold prods
  induction p with
  | nil => simp
  | cons s p ih => rw [List.flatMap_cons, List.length_append, List.length_map, ih, List.length_cons, Nat.add_mul]; omega
theorem ok_law_multiply (T : Tx K mg) : FnOk P w K mg base CX0 4 T.d_law_multiply.fa T.d_law_multiply.fd P_law_multiply (FP K r_lmul) := by
  refine fp_ok T.d_law_multiply.F sc_law_multiply (fun ds d h => ?_) fun cdv A outer s H E b hK hr ds d h => ?_
  · obtain ⟨p, q, l, rfl, _⟩ := h
    rfl
  · obtain ⟨p, q, l, rfl, zp, zq, hp, hq, hl, hco, rfl⟩ := h
    refine sx_cons (sy_asg (i := 2) (ev_tup (ds := []) ea_nil lq) sc_law_multiply.nd rfl (.inl rfl) li ?_)
    have mem80 : ∀ {i : Nat} {s : Trm} {j : Nat}, s ∈ p → ∀ t ∈ prods (p.take i) q ++ (q.take j).map (ptm s), QS 80 t.2 := fun {i s j} hs t ht => by
      rcases List.mem_append.mp ht with e | e
      · obtain ⟨s', h1, h2⟩ := List.mem_flatMap.mp e
        obtain ⟨t', h3, rfl⟩ := List.mem_map.mp h2
        exact ptm_QS (hp s' (List.mem_of_mem_take h1)) (hq t' h3)
      · obtain ⟨t', h3, rfl⟩ := List.mem_map.mp e
        exact ptm_QS (hp s hs) (hq t' (List.mem_of_mem_take h3))
    refine sx_cons (sy_forT (ds := p.map tD) (g := gTup K 2 (gList [gName 3, gName 4])) hK.symm PassesOwn.never rfl (S1 := gMu p q [] .no .no .no .no .no .no) (vn 0) (pg_tup rfl (pgs_cons (pg_name (i := 3) sc_law_multiply.nd rfl (.inl rfl)) (pgs_cons (pg_name (i := 4) sc_law_multiply.nd rfl (.inl rfl)) pgs_nil)))
      (fun i S' => ∃ x3 x4 x5 x6 x7 x8, S' = gMu p q (cn (prods (p.take i) q)) x3 x4 x5 x6 x7 x8) ⟨.no, .no, .no, .no, .no, .no, by rw [show prods (p.take 0) q = [] from rfl, cn_nil]⟩ ?_ ?_)
    · rintro i d S' hd ⟨x3, x4, x5, x6, x7, x8, rfl⟩
      obtain ⟨s, hs, rfl⟩ : ∃ t, p[i]? = some t ∧ d = tD t := by
        rw [List.getElem?_map] at hd
        cases hx : p[i]? with
        | none => rw [hx] at hd; cases hd
        | some t => rw [hx] at hd; exact ⟨t, rfl, (Option.some.inj hd).symm⟩
      have hsp := List.mem_of_getElem? hs
      have hi : i < p.length := (List.getElem?_eq_some_iff.mp hs).1
      have lenL : ∀ j, (prods (p.take i) q ++ (q.take j).map (ptm s)).length ≤ 16 := fun j => by
        rw [List.length_append, prods_len, List.length_map, List.length_take, List.length_take]
        have h1 : min i p.length = i := by omega
        have h2 : min j q.length ≤ q.length := by omega
        rw [h1]
        have h3 : i * q.length + q.length ≤ 4 * q.length := by
          have := Nat.mul_le_mul_right q.length (show i + 1 ≤ 4 by omega)
          rw [Nat.add_mul] at this
          omega
        omega
      refine ⟨gMu p q (cn (prods (p.take i) q)) (.d (.int (s.1 : Int))) (.d (qD s.2)) x5 x6 x7 x8, tg_tup (ds := [.int (s.1 : Int), qD s.2]) hK.symm rfl (.cons (S := gMu p q (cn (prods (p.take i) q)) x3 x4 x5 x6 x7 x8) (tg_name (i := 3) li) rfl (.cons (tg_name (i := 4) li) rfl .nil)), rfl, ?_⟩
      refine sx_one (sy_forT (ds := q.map tD) (g := gTup K 2 (gList [gName 5, gName 6])) hK.symm PassesOwn.never rfl (S1 := gMu p q (cn (prods (p.take i) q)) (.d (.int (s.1 : Int))) (.d (qD s.2)) x5 x6 x7 x8) (vn 1) (pg_tup rfl (pgs_cons (pg_name (i := 5) sc_law_multiply.nd rfl (.inl rfl)) (pgs_cons (pg_name (i := 6) sc_law_multiply.nd rfl (.inl rfl)) pgs_nil)))
        (fun j S' => ∃ x5 x6 x7 x8, S' = gMu p q (cn (prods (p.take i) q ++ (q.take j).map (ptm s))) (.d (.int (s.1 : Int))) (.d (qD s.2)) x5 x6 x7 x8) ⟨x5, x6, x7, x8, by rw [List.take_zero, List.map_nil, List.append_nil]⟩ ?_ ?_)
      · rintro j d S' hd ⟨x5, x6, x7, x8, rfl⟩
        obtain ⟨t, ht, rfl⟩ : ∃ t, q[j]? = some t ∧ d = tD t := by
          rw [List.getElem?_map] at hd
          cases hx : q[j]? with
          | none => rw [hx] at hd; cases hd
          | some t => rw [hx] at hd; exact ⟨t, rfl, (Option.some.inj hd).symm⟩
        have htq := List.mem_of_getElem? ht
        have esucc : prods (p.take i) q ++ (q.take (j + 1)).map (ptm s) = (prods (p.take i) q ++ (q.take j).map (ptm s)) ++ [ptm s t] := by
          rw [List.take_add_one, ht, List.map_append, List.append_assoc]
          rfl
        have m80 := mem80 (i := i) (j := j + 1) hsp
        have l16 := lenL (j + 1)
        rw [esucc] at m80 l16
        generalize hL : prods (p.take i) q ++ (q.take j).map (ptm s) = L at *
        have mL : ∀ u ∈ L, QS 80 u.2 := fun u hu => m80 u (List.mem_append_left _ hu)
        have lL : L.length ≤ 15 := by rw [List.length_append] at l16; simp at l16; omega
        obtain ⟨s0, s1, s2⟩ := hp s hsp
        obtain ⟨t0, t1, t2⟩ := hq t htq
        refine ⟨gMu p q (cn L) (.d (.int (s.1 : Int))) (.d (qD s.2)) (.d (.int (t.1 : Int))) (.d (qD t.2)) x7 x8, tg_tup (ds := [.int (t.1 : Int), qD t.2]) hK.symm rfl (.cons (S := gMu p q (cn L) (.d (.int (s.1 : Int))) (.d (qD s.2)) x5 x6 x7 x8) (tg_name (i := 5) li) rfl (.cons (tg_name (i := 6) li) rfl .nil)), rfl, ?_⟩
        refine sx_cons (sy_par (i := 7) (j := 8) (S1 := gMu p q (cn L) (.d (.int (s.1 : Int))) (.d (qD s.2)) (.d (.int (t.1 : Int))) (.d (qD t.2)) x7 x8) rfl sc_law_multiply.nd rfl rfl (by decide) rfl rfl (ea_cons (vn 3) (ea_cons (vn 5) ea_nil)) li li ?_)
        refine sx_cons (sy_while (fun μ S' => ∃ x y : Nat, S' = gMu p q (cn L) (.d (.int (s.1 : Int))) (.d (qD s.2)) (.d (.int (t.1 : Int))) (.d (qD t.2)) (.d (.int (x : Int))) (.d (.int (y : Int))) ∧ Nat.gcd x y = Nat.gcd s.1 t.1 ∧ y = μ) _ ⟨s.1, t.1, rfl, rfl, rfl⟩ PassesOwn.never ?_)
        rintro μ S' ⟨x, y, rfl, hg, rfl⟩
        refine ⟨!decide ((y : Int) = 0), _, et_neI (vn 8) ev_int, fun h => ?_, fun h => ?_⟩
        · have y0 : 0 < y := by
            have := h
            simp at this
            omega
          refine sx_one (sy_par (i := 7) (j := 8) (S1 := gMu p q (cn L) (.d (.int (s.1 : Int))) (.d (qD s.2)) (.d (.int (t.1 : Int))) (.d (qD t.2)) (.d (.int (x : Int))) (.d (.int (y : Int)))) (u := .d (.int (y : Int))) (w := .d (.int ((x : Int) % (y : Int)))) rfl sc_law_multiply.nd rfl rfl (by decide) rfl rfl (ea_cons (vn 8) (ea_cons (ev_mod (vn 7) (vn 8) (by omega)) ea_nil)) li li ?_)
          refine ⟨x % y, Nat.mod_lt _ y0, y, x % y, ?_, ?_, rfl⟩
          · show gMu p q (cn L) (.d (.int (s.1 : Int))) (.d (qD s.2)) (.d (.int (t.1 : Int))) (.d (qD t.2)) (.d (.int (y : Int))) (.d (.int ((x : Int) % (y : Int)))) = _
            rw [← Int.natCast_emod]
          · rw [← hg, Nat.gcd_comm x y, Nat.gcd_rec y x, Nat.gcd_comm]
        · have y0 : y = 0 := by
            have := h
            simp at this
            omega
          subst y0
          have ex : x = Nat.gcd s.1 t.1 := by rw [← hg, Nat.gcd_zero_right]
          have x0 : 0 < x := by rw [ex]; exact Nat.gcd_pos_of_pos_left _ s0
          have xz : x < 2 ^ 20 := Nat.lt_of_le_of_lt (by rw [ex]; exact Nat.le_of_dvd s0 (Nat.gcd_dvd_left _ _)) s1
          have zx : Sz 20 (x : Int) := Sz.nat xz
          have dvx : ∀ z : Int, CDivW z (x : Int) := fun z => zx.dv (by omega) (by decide) (by decide)
          have e1 : (s.1 : Int) / (x : Int) = ((s.1 / x : Nat) : Int) := by rw [Int.natCast_ediv]
          have e2 : (t.1 : Int) / (x : Int) = ((t.1 / x : Nat) : Int) := by rw [Int.natCast_ediv]
          have z1 : Sz 20 ((s.1 : Int) / (x : Int)) := by rw [e1]; exact Sz.nat (Nat.lt_of_le_of_lt (Nat.div_le_self _ _) s1)
          have z2 : Sz 20 ((t.1 : Int) / (x : Int)) := by rw [e2]; exact Sz.nat (Nat.lt_of_le_of_lt (Nat.div_le_self _ _) t1)
          have qst : QS 60 (s.2 * t.2) := s2.mul t2
          have esc : scaled [((ptm s t).1, qP (s.2 * t.2))] ((x : Int), 1) = [ptm s t] := by
            unfold scaled
            rw [List.map_cons, List.map_nil, rv_qP, rv_one, ex]
            show [((ptm s t).1, s.2 * t.2 * ((Nat.gcd s.1 t.1 : Nat) : Rat))] = [((ptm s t).1, ((Nat.gcd s.1 t.1 : Nat) : Rat) * (s.2 * t.2))]
            rw [Rat.mul_comm]
          have crad : ((ptm s t).1 : Int) = (s.1 : Int) / (x : Int) * ((t.1 : Int) / (x : Int)) := by
            rw [e1, e2, ← Int.natCast_mul, ex]
            rfl
          have cl : (cn L).length ≤ 15 := Nat.le_trans (cn_len L) (Nat.le_trans (rds_len L) lL)
          refine sx_one (sy_asg (i := 2) (x := .d (sD (cn (L ++ [ptm s t])))) (S1 := gMu p q (cn L) (.d (.int (s.1 : Int))) (.d (qD s.2)) (.d (.int (t.1 : Int))) (.d (qD t.2)) (.d (.int (x : Int))) (.d (.int ((0 : Nat) : Int)))) (ev_call (ok_law_add T) hK.symm hr rfl T.d_law_add.m T.d_law_add.F.kp T.d_law_add.b pass0 (ds := [sD (cn L), .tuple [rD ((ptm s t).1, qP (s.2 * t.2))], frD ((x : Int), 1)]) (ea_cons (vn 2) (ea_cons (S1 := gMu p q (cn L) (.d (.int (s.1 : Int))) (.d (qD s.2)) (.d (.int (t.1 : Int))) (.d (qD t.2)) (.d (.int (x : Int))) (.d (.int ((0 : Nat) : Int)))) (ev_tup (ds := [_]) (ea_cons (S1 := gMu p q (cn L) (.d (.int (s.1 : Int))) (.d (qD s.2)) (.d (.int (t.1 : Int))) (.d (qD t.2)) (.d (.int (x : Int))) (.d (.int ((0 : Nat) : Int)))) ?_ ea_nil) lq) (ea_cons (ev_tup (ds := [_, _]) (ea_cons (vn 7) (ea_cons ev_int ea_nil)) lq) ea_nil))) ?_) sc_law_multiply.nd rfl (.inl rfl) li ?_)
          · show EV _ _ _ _ (.d (.tuple [.int ((ptm s t).1 : Int), qD (s.2 * t.2)])) _
            rw [crad]
            refine ev_tup (ds := [_, _]) (ea_cons (ev_mul (ev_fdiv (vn 3) (vn 7) (dvx _)) (ev_fdiv (vn 5) (vn 7) (dvx _)) (z1.cm z2 (by decide))) (ea_cons (ev_call (ok_law_times T) hK.symm (hr.mono (by decide)) rfl T.d_law_times.m T.d_law_times.F.kp T.d_law_times.b pass0 (ds := [qD s.2, qD t.2]) (ea_cons (vn 4) (ea_cons (vn 6) ea_nil)) ⟨qP s.2, qP t.2, rfl, (s2.mono (by decide)).fr, (t2.mono (by decide)).fr, by rw [fmul_q]⟩) ea_nil)) lq
          · refine ⟨cn L, [((ptm s t).1, qP (s.2 * t.2))], ((x : Int), 1), _, rfl, cn_canon L, by rw [List.length_cons, List.length_nil]; omega, fun u hu => ?_, fun u hu => ?_, ⟨show (0 : Int) < 1 by decide, zx.mono (by decide), show (1 : Int).natAbs < 2 ^ 900 from Nat.one_lt_two_pow (by decide)⟩, fun k r => ?_, cn_canon _, fun r => ?_, rfl⟩
            · rw [((cn_canon L).mem_co (cn_co L) hu).1]
              exact (co80 mL (by omega) _).mono (by decide)
            · rw [List.mem_singleton] at hu
              rw [hu]
              exact (qst.mono (by decide)).fr
            · rw [esc, co_app, cn_co, ← co_app]
              exact (co80 (ps := L ++ [ptm s t].take k) (fun u hu => by
                rcases List.mem_append.mp hu with e | e
                · exact mL u e
                · exact m80 u (List.mem_append_right _ (List.mem_of_mem_take e))) (by
                rw [List.length_append, List.length_take]
                simp
                omega) r).mono (by decide)
            · rw [esc, cn_co, cn_co, co_app]
          · show ∃ _, _
            rw [esucc]
            exact ⟨_, _, _, _, rfl⟩
      · rintro S' ⟨x5, x6, x7, x8, rfl⟩
        show ∃ _, _
        rw [prods_succ hs]
        rw [show q.take (q.map tD).length = q from by rw [List.length_map, List.take_length]]
        exact ⟨_, _, _, _, _, _, rfl⟩
    · rintro S' ⟨x3, x4, x5, x6, x7, x8, rfl⟩
      have el : l = cn (prods p q) := canon_ext hl (cn_canon _) fun r => by rw [hco, cn_co]
      rw [show p.take (p.map tD).length = p from by rw [List.length_map, List.take_length], el]
      exact sx_one (sy_retF (S1 := gMu p q (cn (prods p q)) x3 x4 x5 x6 x7 x8) (vn 2))
end
end K0
end
section
set_option Elab.async false
set_option linter.all false
set_option maxRecDepth 100000
set_option maxHeartbeats 4000000
set_option exponentiation.threshold 300000
namespace K0
open PySem PySem.Spec PyProof.Rows L2 DX
set_option autoImplicit false
/-! signs of the other side -/
theorem isum_succ {α : Type} (f : α → Int) {p : List α} {i : Nat} {t : α} (h : p[i]? = some t) : isum ((p.take (i + 1)).map f) = isum ((p.take i).map f) + f t := by
  rw [List.take_add_one, h, List.map_append, isum_app]
  show _ + (f t + 0) = _
  omega
def flA (M : Nat) (t : RTrm) : Nat := (t.2.1.natAbs * M) * (t.2.1.natAbs * M) * t.1
def flN (M : Nat) (t : RTrm) : Nat := Float64.isqrt (flA M t) / t.2.2.toNat
def sLo (M : Nat) (t : RTrm) : Int := if 0 < t.2.1 then (flN M t : Int) else -(flN M t : Int) - 1
def sHi (M : Nat) (t : RTrm) : Int := if 0 < t.2.1 then (flN M t : Int) + 1 else -(flN M t : Int)
def spL (M : Nat) (l : List RTrm) : Int := isum (l.map (sLo M))
def spH (M : Nat) (l : List RTrm) : Int := isum (l.map (sHi M))
def SpOk (l : List RTrm) : Prop := l.length ≤ 20 ∧ ∀ t ∈ l, t.1 < 2 ^ 100 ∧ Fr 1000 t.2
def vl (l : List RTrm) : List Trm := l.map fun t => (t.1, rv t.2)
def sR (l : List RTrm) : PyData := .tuple (l.map rD)
def raw (l : List Trm) : List RTrm := l.map fun t => (t.1, qP t.2)
theorem sR_raw (l : List Trm) : sR (raw l) = sD l := by
  unfold sR raw sD
  rw [List.map_map]
  rfl
theorem vl_raw (l : List Trm) : vl (raw l) = l := by
  unfold vl raw
  rw [List.map_map]
  have : ((fun t : RTrm => (t.1, rv t.2)) ∘ fun t : Trm => (t.1, qP t.2)) = id := funext fun t => by
    show (t.1, rv (qP t.2)) = t
    rw [rv_qP]
  rw [this, List.map_id]
def r_lspan (ds : List PyData) (d : PyData) : Prop := ∃ (l : List RTrm) (M : Nat), ds = [sR l, .int (M : Int)] ∧ SpOk l ∧ M < 2 ^ 90000 ∧ d = .tuple [.int (spL M l), .int (spH M l)]
theorem flA_lt {M : Nat} {t : RTrm} (hM : M < 2 ^ 90000) (h1 : t.1 < 2 ^ 100) (h2 : t.2.1.natAbs < 2 ^ 1000) : flA M t < 2 ^ 200000 := by
  have a : t.2.1.natAbs * M < 2 ^ 91000 := by
    rw [show 91000 = 1000 + 90000 from rfl, Nat.pow_add]
    exact Nat.mul_lt_mul'' h2 hM
  have b : (t.2.1.natAbs * M) * (t.2.1.natAbs * M) < 2 ^ 182000 := by
    rw [show 182000 = 91000 + 91000 from rfl, Nat.pow_add]
    exact Nat.mul_lt_mul'' a a
  have c : flA M t < 2 ^ 182100 := by
    rw [show 182100 = 182000 + 100 from rfl, Nat.pow_add]
    exact Nat.mul_lt_mul'' b h1
  exact Nat.lt_of_lt_of_le c (Nat.pow_le_pow_right (by decide) (by decide))
open TS in
theorem sp_one (M : Nat) (t : RTrm) (ht : 0 < t.2.2) : ((sLo M t : Int) : Rl) ≤ ofQ (rv t.2) * rt t.1 * (M : Rl) ∧ ofQ (rv t.2) * rt t.1 * (M : Rl) ≤ ((sHi M t : Int) : Rl) ∧ sHi M t = sLo M t + 1 := by
  have D0 : (0 : Rl) < ((t.2.2.toNat : Nat) : Rl) := by
    have := nat_lt.mpr (show 0 < t.2.2.toNat by omega)
    rw [nat_zero] at this
    exact this
  have en : ((t.2.2.toNat : Nat) : Rl) * ofQ (rv t.2) = ((t.2.1 : Int) : Rl) := by
    rw [natCast_def, intCast_def, ← ofQ_mul]
    congr 1
    have d0 : ((t.2.2.toNat : Nat) : Rat) ≠ 0 := fun e => by
      have := Rat.natCast_eq_zero_iff.mp e
      omega
    unfold rv
    rw [Rat.mkRat_eq_div, Rat.mul_comm]
    exact Rat.div_mul_cancel d0
  have es : rt (flA M t) = ((t.2.1.natAbs : Nat) : Rl) * (M : Rl) * rt t.1 := by
    unfold flA
    rw [rt_mul, rt_square, nat_mul]
  obtain ⟨s1, s2⟩ := Float64.isqrt_spec (flA M t)
  obtain ⟨r1, r2⟩ := rt_floor s1 s2
  have d1 : flN M t * t.2.2.toNat ≤ Float64.isqrt (flA M t) := Nat.div_mul_le_self _ _
  have d2 : Float64.isqrt (flA M t) + 1 ≤ (flN M t + 1) * t.2.2.toNat := by
    have := Nat.lt_div_mul_add (a := Float64.isqrt (flA M t)) (b := t.2.2.toNat) (by omega)
    show _ ≤ (Float64.isqrt (flA M t) / t.2.2.toNat + 1) * t.2.2.toNat
    rw [Nat.add_mul, Nat.one_mul]
    omega
  have d1 := nat_le.mpr d1
  have d2 := nat_le.mpr d2
  rw [nat_mul] at d1
  rw [nat_mul, nat_add, nat_add, nat_one] at d2
  rw [es] at r1 r2
  have cancel : ∀ {a b : Rl}, ((t.2.2.toNat : Nat) : Rl) * a ≤ ((t.2.2.toNat : Nat) : Rl) * b → a ≤ b := fun {a b} h => by
    refine Classical.byContradiction fun hc => ?_
    have := mul_pos D0 (show 0 < a - b by grind)
    grind
  have na := natAbs_R t.2.1
  unfold sLo sHi
  by_cases h : 0 < t.2.1
  · rw [if_neg (by omega)] at na
    rw [if_pos h, if_pos h, int_nat, int_add, int_one, int_nat]
    rw [na] at r1 r2
    refine ⟨cancel ?_, cancel ?_, rfl⟩
    · have : ((t.2.2.toNat : Nat) : Rl) * (ofQ (rv t.2) * rt t.1 * (M : Rl)) = ((t.2.1 : Int) : Rl) * (M : Rl) * rt t.1 := by rw [← en]; grind
      rw [this]
      grind
    · have : ((t.2.2.toNat : Nat) : Rl) * (ofQ (rv t.2) * rt t.1 * (M : Rl)) = ((t.2.1 : Int) : Rl) * (M : Rl) * rt t.1 := by rw [← en]; grind
      rw [this]
      grind
  · have na' : ((t.2.1.natAbs : Nat) : Rl) = -((t.2.1 : Int) : Rl) := by
      rw [na]
      by_cases h0 : t.2.1 < 0
      · rw [if_pos h0]
      · have : t.2.1 = 0 := by omega
        rw [if_neg h0, this, int_zero]; grind
    rw [if_neg h, if_neg h, int_sub, int_neg, int_one, int_nat]
    rw [na'] at r1 r2
    refine ⟨cancel ?_, cancel ?_, by omega⟩
    · have : ((t.2.2.toNat : Nat) : Rl) * (ofQ (rv t.2) * rt t.1 * (M : Rl)) = ((t.2.1 : Int) : Rl) * (M : Rl) * rt t.1 := by rw [← en]; grind
      rw [this]
      grind
    · have : ((t.2.2.toNat : Nat) : Rl) * (ofQ (rv t.2) * rt t.1 * (M : Rl)) = ((t.2.1 : Int) : Rl) * (M : Rl) * rt t.1 := by rw [← en]; grind
      rw [this]
      grind
open TS in
theorem sp_sum (M : Nat) (l : List RTrm) (hl : ∀ t ∈ l, 0 < t.2.2) : ((spL M l : Int) : Rl) ≤ vR (vl l) * (M : Rl) ∧ vR (vl l) * (M : Rl) ≤ ((spH M l : Int) : Rl) ∧ spH M l = spL M l + l.length := by
  induction l with
  | nil => exact ⟨by show ((0 : Int) : Rl) ≤ 0 * _; rw [int_zero]; grind, by show 0 * _ ≤ ((0 : Int) : Rl); rw [int_zero]; grind, rfl⟩
  | cons t l ih =>
    obtain ⟨a1, a2, a3⟩ := sp_one M t (hl t (List.mem_cons_self ..))
    obtain ⟨b1, b2, b3⟩ := ih fun u hu => hl u (List.mem_cons_of_mem _ hu)
    have e1 : spL M (t :: l) = sLo M t + spL M l := rfl
    have e2 : spH M (t :: l) = sHi M t + spH M l := rfl
    have e3 : vR (vl (t :: l)) = ofQ (rv t.2) * rt t.1 + vR (vl l) := rfl
    refine ⟨?_, ?_, ?_⟩
    · rw [e1, e3, int_add]; grind
    · rw [e2, e3, int_add]; grind
    · rw [e1, e2, List.length_cons]; omega
def SignV (l : List Trm) (s : Int) : Prop := (l = [] ∧ s = 0) ∨ (l ≠ [] ∧ 0 < TS.vR l ∧ s = 1) ∨ (l ≠ [] ∧ TS.vR l < 0 ∧ s = -1)
def Apart (l : List Trm) : Prop := l ≠ [] → ∀ Q : Nat, TS.Ab ((Q : TS.Rl) * TS.vR l) ((20 : Nat) : TS.Rl) → Q < 2 ^ 70000
def r_lsign (ds : List PyData) (d : PyData) : Prop := ∃ (l : List RTrm) (s : Int), ds = [sR l] ∧ SpOk l ∧ Apart (vl l) ∧ SignV (vl l) s ∧ d = .int s
theorem vl_nil {l : List RTrm} (h : vl l = []) : l = [] := List.map_eq_nil_iff.mp h
open TS in
theorem sp_near {M : Nat} {l : List RTrm} (hp : ∀ t ∈ l, 0 < t.2.2) (hl : l.length ≤ 20) (h1 : spL M l ≤ 0) (h2 : 0 ≤ spH M l) : Ab ((M : Rl) * vR (vl l)) ((20 : Nat) : Rl) := by
  obtain ⟨a1, a2, a3⟩ := sp_sum M l hp
  have b1 : ((-(20 : Nat) : Int) : Rl) ≤ ((spL M l : Int) : Rl) := int_le.mpr (by omega)
  have b2 : ((spH M l : Int) : Rl) ≤ (((20 : Nat) : Int) : Rl) := int_le.mpr (by omega)
  rw [int_neg, int_nat] at b1
  rw [int_nat] at b2
  exact ⟨by grind, by grind⟩
open TS in
theorem sp_pos {M : Nat} {l : List RTrm} {s : Int} (hp : ∀ t ∈ l, 0 < t.2.2) (hs : SignV (vl l) s) (h : 0 < spL M l) : s = 1 := by
  obtain ⟨a1, a2, a3⟩ := sp_sum M l hp
  have b1 := int_lt.mpr h
  rw [int_zero] at b1
  have m0 := nat_nn M
  rcases hs with ⟨e0, _⟩ | ⟨_, _, e⟩ | ⟨_, h2, _⟩
  · rw [vl_nil e0] at h
    exact absurd h (show ¬ (0 : Int) < 0 by decide)
  · exact e
  · have := mul_nonneg (show 0 ≤ -vR (vl l) by grind) m0
    exact absurd (show (0 : Rl) < 0 by grind) (by grind)
open TS in
theorem sp_neg {M : Nat} {l : List RTrm} {s : Int} (hp : ∀ t ∈ l, 0 < t.2.2) (hs : SignV (vl l) s) (h : spH M l < 0) : s = -1 := by
  obtain ⟨a1, a2, a3⟩ := sp_sum M l hp
  have b1 := int_lt.mpr h
  rw [int_zero] at b1
  have m0 := nat_nn M
  rcases hs with ⟨e0, _⟩ | ⟨_, h2, _⟩ | ⟨_, _, e⟩
  · rw [vl_nil e0] at h
    exact absurd h (show ¬ (0 : Int) < 0 by decide)
  · have := mul_nonneg (show 0 ≤ vR (vl l) by grind) m0
    exact absurd (show (0 : Rl) < 0 by grind) (by grind)
  · exact e
theorem sR_eqv (l : List RTrm) : PyData.eqv (sR l) (.tuple []) = l.isEmpty := by
  cases l with
  | nil => rfl
  | cons t l => rfl
theorem rD_lay (t : RTrm) : PyData.canLay0 (rD t) = true ∧ PyData.depth (rD t) ≤ 3 := by
  constructor
  · simp [rD, frD, PyData.canLay0, PyData.canLayAll0]
  · simp [rD, frD, PyData.depth, PyData.depthAll]
theorem sR_shaped (l : List RTrm) : SeqAt.shaped (sR l) = true := by
  have h1 : PyData.canLayAll0 (l.map rD) = true := by
    induction l with
    | nil => rfl
    | cons t l ih => rw [List.map_cons]; simp [PyData.canLayAll0, (rD_lay t).1, ih]
  have h2 : PyData.depthAll (l.map rD) ≤ 3 := by
    induction l with
    | nil => simp [PyData.depthAll]
    | cons t l ih =>
      have a := (rD_lay t).2
      have b := ih (by
        rw [List.map_cons] at h1
        simp [PyData.canLayAll0] at h1
        exact h1.2)
      rw [List.map_cons]
      simp only [PyData.depthAll]
      omega
  show (PyData.canLay0 (.tuple (l.map rD)) && decide (PyData.depth (.tuple (l.map rD)) ≤ 64)) = true
  have e1 : PyData.canLay0 (.tuple (l.map rD)) = true := by simp [PyData.canLay0, h1]
  rw [e1, Bool.true_and]
  refine decide_eq_true ?_
  simp only [PyData.depth]
  omega
section
variable {P : Program} {w : World} {K : PySem.W.Frag} {mg : Str → Option Value} {base : Heap}
abbrev gSp (l : List RTrm) (M : Nat) (x y : Int) (a b c d : DV) : DS := ⟨[.d (sR l), .d (.int (M : Int)), .d (.int x), .d (.int y), a, b, c, d], []⟩
theorem ok_law_span (T : Tx K mg) : FnOk P w K mg base CX0 2 T.d_law_span.fa T.d_law_span.fd P_law_span (FP K r_lspan) := by
  refine fp_ok T.d_law_span.F sc_law_span (fun ds d h => ?_) fun cdv A outer s H E b hK hr ds d h => ?_
  · obtain ⟨l, M, rfl, _⟩ := h
    rfl
  · obtain ⟨l, M, rfl, ⟨hl, ht⟩, hM, rfl⟩ := h
    have zM : Sz 90000 (M : Int) := Sz.nat hM
    refine sx_cons (sy_unpack (S2 := gSp l M 0 0 .no .no .no .no) (ev_tup (ds := [.int 0, .int 0]) (ea_cons ev_int (ea_cons ev_int ea_nil)) lq) (pg_tup rfl (pgs_cons (pg_name (i := 2) sc_law_span.nd rfl (.inl rfl)) (pgs_cons (pg_name (i := 3) sc_law_span.nd rfl (.inl rfl)) pgs_nil))) (tg_tup (ds := [.int 0, .int 0]) hK.symm rfl (.cons (S := ⟨gStart N_law_span [.d (sR l), .d (.int (M : Int))], []⟩) (tg_name (i := 2) li) rfl (.cons (tg_name (i := 3) li) rfl .nil))) rfl ?_)
    refine sx_cons (sy_forT (ds := l.map rD) (g := gTup K 2 (gList [gName 4, gName 5])) hK.symm PassesOwn.never rfl (S1 := gSp l M 0 0 .no .no .no .no) (vn 0) (pg_tup rfl (pgs_cons (pg_name (i := 4) sc_law_span.nd rfl (.inl rfl)) (pgs_cons (pg_name (i := 5) sc_law_span.nd rfl (.inl rfl)) pgs_nil)))
      (fun i S' => ∃ a b c d, S' = gSp l M (spL M (l.take i)) (spH M (l.take i)) a b c d) ⟨_, _, _, _, rfl⟩ ?_ ?_)
    · rintro i d S' hd ⟨xa, xb, xc, xd, rfl⟩
      obtain ⟨t, hti, rfl⟩ : ∃ t, l[i]? = some t ∧ d = rD t := by
        rw [List.getElem?_map] at hd
        cases hx : l[i]? with
        | none => rw [hx] at hd; cases hd
        | some t => rw [hx] at hd; exact ⟨t, rfl, (Option.some.inj hd).symm⟩
      obtain ⟨t1, tp, t2, t3⟩ := ht t (List.mem_of_getElem? hti)
      have t2 : t.2.1.natAbs < 2 ^ 1000 := t2
      have edn : ((t.2.2.toNat : Nat) : Int) = t.2.2 := Int.toNat_of_nonneg (by omega)
      have zn : Sz 1000 ((t.2.1.natAbs : Nat) : Int) := Sz.nat t2
      have zt : Sz 91000 (((t.2.1.natAbs : Nat) : Int) * (M : Int)) := zn.mul zM
      have zr : Sz 100 (t.1 : Int) := Sz.nat t1
      have zd : Sz 1000 t.2.2 := t3
      refine ⟨gSp l M (spL M (l.take i)) (spH M (l.take i)) (.d (.int (t.1 : Int))) (.d (frD t.2)) xc xd, tg_tup (ds := [.int (t.1 : Int), frD t.2]) hK.symm rfl (.cons (S := gSp l M (spL M (l.take i)) (spH M (l.take i)) xa xb xc xd) (tg_name (i := 4) li) rfl (.cons (tg_name (i := 5) li) rfl .nil)), rfl, ?_⟩
      refine sx_cons (sy_asg (i := 6) (x := .d (.int (((t.2.1.natAbs : Nat) : Int) * (M : Int)))) (S1 := gSp l M (spL M (l.take i)) (spH M (l.take i)) (.d (.int (t.1 : Int))) (.d (frD t.2)) xc xd) (ev_mul (S1 := gSp l M (spL M (l.take i)) (spH M (l.take i)) (.d (.int (t.1 : Int))) (.d (frD t.2)) xc xd) ?_ (vn 1) (zn.cm zM (by decide))) sc_law_span.nd rfl (.inl rfl) li ?_)
      · rw [← abs_max]
        exact ev_callB (call_max2 rfl) rfl T.n_max (by decide +kernel) (ea_cons (ev_ixT hK.symm (vn 5) ev_int rfl) (ea_cons (ev_sub ev_int (ev_ixT hK.symm (vn 5) ev_int rfl)) ea_nil)) rc_max2
      · show SX _ _ _ (gSp l M (spL M (l.take i)) (spH M (l.take i)) (.d (.int (t.1 : Int))) (.d (frD t.2)) (.d (.int (((t.2.1.natAbs : Nat) : Int) * (M : Int)))) xd) _
        obtain ⟨s1, s2⟩ := Float64.isqrt_spec (flA M t)
        have eA : ((t.2.1.natAbs : Nat) : Int) * (M : Int) * (((t.2.1.natAbs : Nat) : Int) * (M : Int)) * (t.1 : Int) = ((flA M t : Nat) : Int) := by
          unfold flA
          rw [Int.natCast_mul, Int.natCast_mul, Int.natCast_mul]
        have eN : ((Float64.isqrt (flA M t) : Nat) : Int) / t.2.2 = ((flN M t : Nat) : Int) := by unfold flN; rw [Int.natCast_ediv, edn]
        refine sx_cons (sy_asg (i := 7) (x := .d (.int ((flN M t : Nat) : Int))) (S1 := gSp l M (spL M (l.take i)) (spH M (l.take i)) (.d (.int (t.1 : Int))) (.d (frD t.2)) (.d (.int (((t.2.1.natAbs : Nat) : Int) * (M : Int)))) xd) (by
          rw [← eN]
          exact ev_fdiv (ev_call (ok_law_floor T) hK.symm hr rfl T.d_law_floor_root.m T.d_law_floor_root.F.kp T.d_law_floor_root.b pass0 (ds := [.int (((t.2.1.natAbs : Nat) : Int) * (M : Int) * (((t.2.1.natAbs : Nat) : Int) * (M : Int)) * (t.1 : Int))]) (ea_cons (ev_mul (ev_mul (vn 6) (vn 6) (zt.cm zt (by decide))) (vn 4) ((zt.mul zt).cm zr (by decide))) ea_nil) ⟨flA M t, _, by rw [eA], flA_lt hM t1 t2, s1, s2, rfl⟩) (ev_ixT hK.symm (vn 5) ev_int rfl) (zd.dv (by omega) (by decide) (by decide))) sc_law_span.nd rfl (.inl rfl) li ?_)
        show SX _ _ _ (gSp l M (spL M (l.take i)) (spH M (l.take i)) (.d (.int (t.1 : Int))) (.d (frD t.2)) (.d (.int (((t.2.1.natAbs : Nat) : Int) * (M : Int)))) (.d (.int ((flN M t : Nat) : Int)))) _
        refine sx_cons (sy_asg (i := 2) (x := .d (.int (spL M (l.take i) + sLo M t))) (S1 := gSp l M (spL M (l.take i)) (spH M (l.take i)) (.d (.int (t.1 : Int))) (.d (frD t.2)) (.d (.int (((t.2.1.natAbs : Nat) : Int) * (M : Int)))) (.d (.int ((flN M t : Nat) : Int)))) (ev_add (vn 2) (ev_if (x := .d (.int (sLo M t))) (et_gt (ev_ixT hK.symm (vn 5) ev_int rfl) ev_int) (fun h => ?_) fun h => ?_)) sc_law_span.nd rfl (.inl rfl) li ?_)
        · have h : 0 < t.2.1 := of_decide_eq_true h
          unfold sLo
          rw [if_pos h]
          exact vn 7
        · have h : ¬ 0 < t.2.1 := of_decide_eq_false h
          have : sLo M t = 0 - (flN M t : Int) - 1 := by unfold sLo; rw [if_neg h]; omega
          rw [this]
          exact ev_sub (ev_sub ev_int (vn 7)) ev_int
        · refine sx_one (sy_asg (i := 3) (x := .d (.int (spH M (l.take i) + sHi M t))) (S1 := gSp l M (spL M (l.take i) + sLo M t) (spH M (l.take i)) (.d (.int (t.1 : Int))) (.d (frD t.2)) (.d (.int (((t.2.1.natAbs : Nat) : Int) * (M : Int)))) (.d (.int ((flN M t : Nat) : Int)))) (ev_add (vn 3) (ev_if (x := .d (.int (sHi M t))) (et_gt (ev_ixT hK.symm (vn 5) ev_int rfl) ev_int) (fun h => ?_) fun h => ?_)) sc_law_span.nd rfl (.inl rfl) li ?_)
          · have h : 0 < t.2.1 := of_decide_eq_true h
            unfold sHi
            rw [if_pos h]
            exact ev_add (vn 7) ev_int
          · have h : ¬ 0 < t.2.1 := of_decide_eq_false h
            have : sHi M t = 0 - (flN M t : Int) := by unfold sHi; rw [if_neg h]; omega
            rw [this]
            exact ev_sub ev_int (vn 7)
          · show ∃ _, _
            unfold spL spH
            rw [isum_succ (sLo M) hti, isum_succ (sHi M) hti]
            exact ⟨_, _, _, _, rfl⟩
    · rintro S' ⟨xa, xb, xc, xd, rfl⟩
      rw [show l.take (l.map rD).length = l from by rw [List.length_map, List.take_length]]
      exact sx_one (sy_retF (S1 := gSp l M (spL M l) (spH M l) xa xb xc xd) (ev_tup (ds := [_, _]) (ea_cons (vn 2) (ea_cons (vn 3) ea_nil)) lq))
def mM (j : Nat) : Nat := (10 ^ 6) ^ (2 ^ j)
theorem mM_succ (j : Nat) : mM (j + 1) = mM j * mM j := by
  unfold mM
  rw [Nat.pow_succ 2 j, Nat.mul_two, Nat.pow_add]
theorem mM_lt {j : Nat} (h : j ≤ 12) : mM j < 2 ^ 90000 := by
  have h1 : mM j ≤ (2 ^ 20) ^ (2 ^ j) := Nat.pow_le_pow_left (by decide) _
  have h2 : (2 ^ 20) ^ (2 ^ j) ≤ (2 ^ 20) ^ (2 ^ 12) := Nat.pow_le_pow_right (by decide) (Nat.pow_le_pow_right (by decide) h)
  have h3 : (2 ^ 20) ^ (2 ^ 12) < 2 ^ 90000 := by
    rw [← Nat.pow_mul]
    exact Nat.pow_lt_pow_right (by decide) (by decide)
  exact Nat.lt_of_le_of_lt (Nat.le_trans h1 h2) h3
theorem mM_ge : 2 ^ 70000 ≤ mM 12 := by
  have h1 : (2 ^ 19) ^ (2 ^ 12) ≤ mM 12 := Nat.pow_le_pow_left (by decide) _
  have h2 : 2 ^ 70000 ≤ (2 ^ 19) ^ (2 ^ 12) := by
    rw [← Nat.pow_mul]
    exact Nat.pow_le_pow_right (by decide) (by decide)
  exact Nat.le_trans h2 h1
abbrev gLs (l : List RTrm) (j : Nat) : DS := ⟨[.d (sR l), .d (.int (mM j : Int)), .d (.int (spL (mM j) l)), .d (.int (spH (mM j) l))], []⟩
theorem ok_law_sign (T : Tx K mg) : FnOk P w K mg base CX0 3 T.d_law_sign.fa T.d_law_sign.fd P_law_sign (FP K r_lsign) := by
  refine fp_ok T.d_law_sign.F sc_law_sign (fun ds d h => ?_) fun cdv A outer s H E b hK hr ds d h => ?_
  · obtain ⟨l, s, rfl, _⟩ := h
    rfl
  · obtain ⟨l, s, rfl, hsp, hap, hs, rfl⟩ := h
    have e10 : ((mM 0 : Nat) : Int) = 10 ^ (6 : Int).toNat := by decide
    refine sx_cons (sy_if (S1 := ⟨gStart N_law_sign [.d (sR l)], []⟩) (t := l.isEmpty) (by rw [← sR_eqv]; exact et_eq hK.symm hr.units (vn 0) (ev_tup (ds := []) ea_nil lq) (sR_shaped l) (by decide)) (fun h => ?_) fun h => ?_)
    · have e : l = [] := List.isEmpty_iff.mp h
      subst e
      have e0 : s = 0 := by
        rcases hs with ⟨_, e⟩ | ⟨h2, _⟩ | ⟨h2, _⟩
        · exact e
        · exact absurd rfl h2
        · exact absurd rfl h2
      subst e0
      exact sx_one (sy_retF ev_int)
    · have hpos : ∀ t ∈ l, 0 < t.2.2 := fun t ht => (hsp.2 t ht).2.1
      have hne : vl l ≠ [] := fun e => by rw [vl_nil e] at h; cases h
      refine sx_nil ?_
      refine sx_cons (sy_asg (i := 1) (S1 := ⟨gStart N_law_sign [.d (sR l)], []⟩) (x := .d (.int ((mM 0 : Nat) : Int))) (by rw [e10]; exact ev_pow ev_int ev_int ⟨by decide, by decide, by decide⟩) sc_law_sign.nd rfl (.inl rfl) li ?_)
      refine sx_cons (sy_unpack (S2 := gLs l 0) (ev_call (ok_law_span T) hK.symm hr rfl T.d_law_span.m T.d_law_span.F.kp T.d_law_span.b pass0 (ds := [sR l, .int ((mM 0 : Nat) : Int)]) (d := .tuple [.int (spL (mM 0) l), .int (spH (mM 0) l)]) (ea_cons (vn 0) (ea_cons (vn 1) ea_nil)) ⟨l, mM 0, rfl, hsp, mM_lt (by decide), rfl⟩) (pg_tup rfl (pgs_cons (pg_name (i := 2) sc_law_sign.nd rfl (.inl rfl)) (pgs_cons (pg_name (i := 3) sc_law_sign.nd rfl (.inl rfl)) pgs_nil))) (tg_tup (ds := [.int (spL (mM 0) l), .int (spH (mM 0) l)]) hK.symm rfl (.cons (S := ⟨[.d (sR l), .d (.int ((mM 0 : Nat) : Int)), .no, .no], []⟩) (tg_name (i := 2) li) rfl (.cons (tg_name (i := 3) li) rfl .nil))) rfl ?_)
      refine sx_cons (sy_while (fun μ S' => ∃ j : Nat, j ≤ 12 ∧ μ = 12 - j ∧ S' = gLs l j) _ ⟨0, by decide, rfl, rfl⟩ PassesOwn.never ?_)
      rintro μ S' ⟨j, hj, rfl, rfl⟩
      refine ⟨decide (spL (mM j) l ≤ 0) && decide (0 ≤ spH (mM j) l), _, et_chain (X := (cxOf CX0 P w K mg base N_law_sign "_law_sign" (defScope s_law_sign) T.d_law_sign.fa cdv A outer _ H E).nox) op_le op_le rfl (vn 2) ev_int (vn 3) (rv_I0 fun _ => .bl _) (rv_I0 fun _ => .bl _), fun h => ?_, fun h => ?_⟩
      · rw [Bool.and_eq_true, decide_eq_true_eq, decide_eq_true_eq] at h
        have few := hap hne (mM j) (sp_near hpos hsp.1 h.1 h.2)
        have j12 : j < 12 := by
          rcases Nat.lt_or_ge j 12 with q | q
          · exact q
          · have : j = 12 := by omega
            subst this
            exact absurd few (Nat.not_lt.mpr mM_ge)
        have zM : Sz 90000 ((mM j : Nat) : Int) := Sz.nat (mM_lt hj)
        have em : ((mM (j + 1) : Nat) : Int) = ((mM j : Nat) : Int) * ((mM j : Nat) : Int) := by rw [mM_succ, Int.natCast_mul]
        refine sx_cons (sy_asg (i := 1) (S1 := gLs l j) (x := .d (.int ((mM (j + 1) : Nat) : Int))) (by rw [em]; exact ev_mul (vn 1) (vn 1) (zM.cm zM (by decide))) sc_law_sign.nd rfl (.inl rfl) li ?_)
        exact sx_one (sy_unpack (S2 := gLs l (j + 1)) (ev_call (ok_law_span T) hK.symm hr rfl T.d_law_span.m T.d_law_span.F.kp T.d_law_span.b pass0 (ds := [sR l, .int ((mM (j + 1) : Nat) : Int)]) (d := .tuple [.int (spL (mM (j + 1)) l), .int (spH (mM (j + 1)) l)]) (ea_cons (vn 0) (ea_cons (vn 1) ea_nil)) ⟨l, mM (j + 1), rfl, hsp, mM_lt (by omega), rfl⟩) (pg_tup rfl (pgs_cons (pg_name (i := 2) sc_law_sign.nd rfl (.inl rfl)) (pgs_cons (pg_name (i := 3) sc_law_sign.nd rfl (.inl rfl)) pgs_nil))) (tg_tup (ds := [.int (spL (mM (j + 1)) l), .int (spH (mM (j + 1)) l)]) hK.symm rfl (.cons (S := ⟨[.d (sR l), .d (.int ((mM (j + 1) : Nat) : Int)), .d (.int (spL (mM j) l)), .d (.int (spH (mM j) l))], []⟩) (tg_name (i := 2) li) rfl (.cons (tg_name (i := 3) li) rfl .nil))) rfl ⟨12 - (j + 1), by omega, j + 1, by omega, rfl, rfl⟩)
      · refine sx_one (sy_retF (S1 := gLs l j) (ev_if (x := .d (.int s)) (et_gt (vn 2) ev_int) (fun h1 => ?_) fun h1 => ?_))
        · have h1 : 0 < spL (mM j) l := of_decide_eq_true h1
          rw [sp_pos hpos hs h1]
          exact ev_int
        · have h1 : ¬ 0 < spL (mM j) l := of_decide_eq_false h1
          have h2 : spH (mM j) l < 0 := by
            rw [Bool.and_eq_false_iff, decide_eq_false_iff_not, decide_eq_false_iff_not] at h
            omega
          rw [sp_neg hpos hs h2]
          exact ev_neg ev_int
end
end K0
end
section
set_option Elab.async false
set_option linter.all false
set_option maxRecDepth 100000
set_option maxHeartbeats 4000000
set_option exponentiation.threshold 300000
namespace K0
open PySem PySem.Spec PyProof.Rows L2 DX
set_option autoImplicit false
/-! alike -/
inductive Alk : Nat → PyData → Prop
  | int (n : Nat) (i : Int) : Alk n (.int i)
  | tup {n : Nat} {xs : List PyData} : xs.length ≤ 1000 → (∀ x ∈ xs, Alk n x) → Alk (n + 1) (.tuple xs)
def r_alike (n : Nat) (ds : List PyData) (d : PyData) : Prop := ∃ x, ds = [x, x] ∧ Alk n x ∧ d = .bool true
theorem outs_no (y : Nat → PyData) : ∀ n, outs (fun _ => !true) y n = []
  | 0 => rfl
  | n + 1 => by
    unfold outs
    rw [outs_no y n]
    rfl
theorem alk_tD (t : Trm) : Alk 2 (tD t) := .tup lq fun x hx => by
  rcases List.mem_cons.mp hx with e | e
  · subst e; exact .int _ _
  · rw [List.mem_singleton] at e
    subst e
    exact .tup lq fun x hx => by
      rcases List.mem_cons.mp hx with e | e
      · subst e; exact .int _ _
      · rw [List.mem_singleton] at e
        subst e
        exact .int _ _
theorem alk_sD {l : List Trm} (h : l.length ≤ 1000) : Alk 3 (sD l) := .tup (by rw [List.length_map]; exact h) fun x hx => by
  obtain ⟨t, _, rfl⟩ := List.mem_map.mp hx
  exact alk_tD t
section
variable {P : Program} {w : World} {K : PySem.W.Frag} {mg : Str → Option Value} {base : Heap}
theorem Str.isStr : bootBuiltins "str" = some (.type "str") := by decide +kernel
theorem Str.isList : bootBuiltins "list" = some (.type "list") := by decide +kernel
theorem ok_law_alike (T : Tx K mg) : ∀ n, FnOk P w K mg base CX0 (n + 1) T.d_law_alike.fa T.d_law_alike.fd P_law_alike (FP K (r_alike n)) := by
  intro n
  induction n with
  | zero =>
    refine fp_ok T.d_law_alike.F sc_law_alike (fun ds d h => ?_) fun cdv A outer s H E b hK hr ds d h => ?_
    · obtain ⟨x, rfl, _⟩ := h
      rfl
    · obtain ⟨x, rfl, hx, rfl⟩ := h
      cases hx with
      | int _ i =>
        refine sx_cons (sy_if (t := isInst (.int i) "tuple" || isInst (.int i) "list") (et_val (ev_isi2 hK.symm rfl T.n_isinstance rfl T.n_tuple Str.isTuple (.inr (.inr (.inr (.inl rfl)))) rfl T.n_list Str.isList (.inr (.inr (.inr (.inr rfl)))) (vn 1))) (fun h => by cases h) fun _ => sx_nil ?_)
        refine sx_cons (sy_if (t := isNoneD (.int i) || isInst (.int i) "str") (et_w (ew_or (et_isN (vn 1)) fun _ => et_or1 (et_val (ev_isi hK.symm rfl T.n_isinstance rfl T.n_str Str.isStr (.inr (.inr (.inl rfl))) (vn 1))))) (fun h => by cases h) fun _ => sx_nil ?_)
        refine sx_one (sy_ret (x := .d (.bool (isInst (.int i) "int" && (PyData.eqv (.bool (isInst (.int i) "bool")) (.bool (isInst (.int i) "bool")) && decide (i = i))))) (ev_and (ev_isi hK.symm rfl T.n_isinstance rfl T.n_int Str.isInt (.inl rfl) (vn 0)) fun _ => ev_and (ev_eq hK.symm hr.units (ev_isi hK.symm rfl T.n_isinstance rfl T.n_bool Str.isBool (.inr (.inl rfl)) (vn 0)) (ev_isi hK.symm rfl T.n_isinstance rfl T.n_bool Str.isBool (.inr (.inl rfl)) (vn 1)) (by rfl) (by rfl)) fun _ => ev_one (ev_eqI (vn 0) (vn 1))) ?_)
        show DV.d (.bool _) = .d (.bool true)
        rw [decide_eq_true rfl]
        rfl
  | succ n ih =>
    refine fp_ok T.d_law_alike.F sc_law_alike (fun ds d h => ?_) fun cdv A outer s H E b hK hr ds d h => ?_
    · obtain ⟨x, rfl, _⟩ := h
      rfl
    · obtain ⟨x, rfl, hx, rfl⟩ := h
      cases hx with
      | int _ i =>
        refine sx_cons (sy_if (t := isInst (.int i) "tuple" || isInst (.int i) "list") (et_val (ev_isi2 hK.symm rfl T.n_isinstance rfl T.n_tuple Str.isTuple (.inr (.inr (.inr (.inl rfl)))) rfl T.n_list Str.isList (.inr (.inr (.inr (.inr rfl)))) (vn 1))) (fun h => by cases h) fun _ => sx_nil ?_)
        refine sx_cons (sy_if (t := isNoneD (.int i) || isInst (.int i) "str") (et_w (ew_or (et_isN (vn 1)) fun _ => et_or1 (et_val (ev_isi hK.symm rfl T.n_isinstance rfl T.n_str Str.isStr (.inr (.inr (.inl rfl))) (vn 1))))) (fun h => by cases h) fun _ => sx_nil ?_)
        refine sx_one (sy_ret (x := .d (.bool (isInst (.int i) "int" && (PyData.eqv (.bool (isInst (.int i) "bool")) (.bool (isInst (.int i) "bool")) && decide (i = i))))) (ev_and (ev_isi hK.symm rfl T.n_isinstance rfl T.n_int Str.isInt (.inl rfl) (vn 0)) fun _ => ev_and (ev_eq hK.symm hr.units (ev_isi hK.symm rfl T.n_isinstance rfl T.n_bool Str.isBool (.inr (.inl rfl)) (vn 0)) (ev_isi hK.symm rfl T.n_isinstance rfl T.n_bool Str.isBool (.inr (.inl rfl)) (vn 1)) (by rfl) (by rfl)) fun _ => ev_one (ev_eqI (vn 0) (vn 1))) ?_)
        show DV.d (.bool _) = .d (.bool true)
        rw [decide_eq_true rfl]
        rfl
      | @tup _ xs hz hxs =>
        refine sx_cons (sy_if (t := isInst (.tuple xs) "tuple" || isInst (.tuple xs) "list") (et_val (ev_isi2 hK.symm rfl T.n_isinstance rfl T.n_tuple Str.isTuple (.inr (.inr (.inr (.inl rfl)))) rfl T.n_list Str.isList (.inr (.inr (.inr (.inr rfl)))) (vn 1))) (fun _ => ?_) fun h => by cases h)
        refine sx_cons (sy_if (t := !(isInst (.tuple xs) "tuple" || isInst (.tuple xs) "list") || !PyData.eqv (.bool (isInst (.tuple xs) "list")) (.bool (isInst (.tuple xs) "list"))) (et_w (ew_or (et_not (et_val (ev_isi2 hK.symm rfl T.n_isinstance rfl T.n_tuple Str.isTuple (.inr (.inr (.inr (.inl rfl)))) rfl T.n_list Str.isList (.inr (.inr (.inr (.inr rfl)))) (vn 0)))) fun _ => et_or1 (et_ne hK.symm hr.units (ev_isi hK.symm rfl T.n_isinstance rfl T.n_list Str.isList (.inr (.inr (.inr (.inr rfl)))) (vn 0)) (ev_isi hK.symm rfl T.n_isinstance rfl T.n_list Str.isList (.inr (.inr (.inr (.inr rfl)))) (vn 1)) (by rfl) (by rfl)))) (fun h => by cases h) fun _ => sx_nil ?_)
        refine sx_cons (sy_if (t := !decide ((xs.length : Int) = (xs.length : Int))) (et_neI (ev_callB call_len_seq rfl T.n_len PySem.boot_len (ea_cons (vn 0) ea_nil) (rc_lenT hK.symm)) (ev_callB call_len_seq rfl T.n_len PySem.boot_len (ea_cons (vn 1) ea_nil) (rc_lenT hK.symm))) (fun h => by rw [decide_eq_true rfl] at h; cases h) fun _ => sx_nil ?_)
        refine sx_one (sy_retF (S1 := ⟨gStart N_law_alike [.d (.tuple xs), .d (.tuple xs)], []⟩) (d0 := .bool (PyData.eqv (.list []) (.list []))) (ev_eq hK.symm hr.units (S1 := ⟨gStart N_law_alike [.d (.tuple xs), .d (.tuple xs)], []⟩) (d := .list []) ?_ (ev_lst (ds := []) ea_nil lq) (by rfl) (by rfl)))
        refine ev_lcR1i (S1 := ⟨gStart N_law_alike [.d (.tuple xs), .d (.tuple xs)], []⟩) [("k", 2)] (g := gName 2) (n := xs.length) (fun d => [.d (.tuple xs), .d (.tuple xs), .d d]) (fun _ => !true) (fun _ => .none) ?_ ?_ ?_ ?_ ?_ ?_ ?_ ?_ ?_ ?_ ?_ ?_ ?_
        · exact hK.symm
        · rfl
        · exact sc_law_alike.nd
        · rfl
        · exact T.n_range
        · exact ev_callB call_len_seq rfl T.n_len PySem.boot_len (ea_cons (vn 1) ea_nil) (rc_lenT hK.symm)
        · exact hz
        · exact blkOk_by (N := N_law_alike) (sc := defScope s_law_alike) (by decide +kernel)
        · exact fun _ _ _ _ _ => pg_name (i := 2) sc_law_alike.nd rfl (.inl rfl)
        · exact fun i hi => tgb_name (vs := [2]) (j := 2) (g0 := [.d (.tuple xs), .d (.tuple xs), .no]) (List.mem_singleton.mpr rfl) li
        · intro i hi Dl acc s H C cl fp
          have hat : atI xs (i : Int) = some xs[i] := atI_nat (List.getElem?_eq_getElem hi)
          exact et_not (et_val (ev_call ih hK.symm hr rfl T.d_law_alike.m T.d_law_alike.F.kp T.d_law_alike.b pass0 (ds := [xs[i], xs[i]]) (ea_cons (ev_ixT hK.symm (vn 0) (vn 2) hat) (ea_cons (ev_ixT hK.symm (vn 1) (vn 2) hat) ea_nil)) ⟨_, rfl, hxs _ (List.getElem_mem hi), rfl⟩))
        · intro i hi hc
          cases hc
        · rw [outs_no]
end
end K0
end
section
set_option Elab.async false
set_option linter.all false
set_option maxRecDepth 100000
set_option maxHeartbeats 4000000
set_option exponentiation.threshold 300000
namespace K0
open PySem PySem.Spec PyProof.Rows L2 DX
set_option autoImplicit false
/-! the other side's sum, the first one's fractions as they come -/
def encR (rs : List Nat) (f : Nat → Int × Int) : List (Key × PyData) := rs.map fun (r : Nat) => (Sum.inl (r : Int), frD (f r))
def putR (f : Nat → Int × Int) (r : Nat) (v : Int × Int) : Nat → Int × Int := fun r' => if r' = r then v else f r'
theorem kget_encR (rs : List Nat) (f : Nat → Int × Int) (r : Nat) : kget (encR rs f) (Sum.inl (r : Int)) = if r ∈ rs then some (frD (f r)) else none := by
  induction rs with
  | nil => rfl
  | cons a rs ih =>
    unfold kget encR at ih ⊢
    rw [List.map_cons]
    by_cases e : a = r
    · subst e
      rw [List.find?_cons_of_pos (by simp)]
      simp
    · rw [List.find?_cons_of_neg (by simp; omega), ih]
      by_cases h : r ∈ rs
      · rw [if_pos h, if_pos (List.mem_cons_of_mem _ h)]
      · rw [if_neg h, if_neg fun q => by rcases List.mem_cons.mp q with z | z; exact e z.symm; exact h z]
theorem kput_encR (rs : List Nat) (f : Nat → Int × Int) (r : Nat) (v : Int × Int) : kput (encR rs f) (Sum.inl (r : Int)) (frD v) = encR (if r ∈ rs then rs else rs ++ [r]) (putR f r v) := by
  have hany : ((encR rs f).any fun kv => decide (kv.1 = Sum.inl (r : Int))) = decide (r ∈ rs) := by
    unfold encR
    rw [List.any_map]
    induction rs with
    | nil => simp
    | cons a rs ih =>
      rw [List.any_cons, ih]
      by_cases e : a = r
      · subst e; simp
      · have : (decide ((Sum.inl (a : Int) : Key) = Sum.inl (r : Int))) = false := decide_eq_false (by rw [key_eq]; exact e)
        show (decide ((Sum.inl (a : Int) : Key) = Sum.inl (r : Int)) || _) = _
        rw [this, Bool.false_or]
        by_cases h : r ∈ rs
        · simp [h]
        · simp [h, Ne.symm e]
  unfold kput
  rw [hany]
  by_cases h : r ∈ rs
  · rw [if_pos (decide_eq_true h), if_pos h]
    unfold encR
    rw [List.map_map]
    refine List.map_congr_left fun a _ => ?_
    show (if (Sum.inl (a : Int) : Key) = Sum.inl (r : Int) then (Sum.inl (a : Int), frD v) else (Sum.inl (a : Int), frD (f a))) = _
    by_cases e : a = r
    · subst e; simp [putR]
    · rw [if_neg (by rw [key_eq]; exact e)]; simp [putR, e]
  · rw [if_neg (by simpa using h), if_neg h]
    unfold encR
    rw [List.map_append]
    congr 1
    · refine List.map_congr_left fun a ha => ?_
      have : a ≠ r := fun e => h (e ▸ ha)
      simp [putR, this]
    · simp [putR]
theorem encR_keys (rs : List Nat) (f : Nat → Int × Int) : intKeys (encR rs f) (rs.map fun (r : Nat) => (r : Int)) := by
  unfold intKeys encR
  rw [List.map_map, List.map_map]
  rfl
/-- what the one pair (1, x), or none, and the negative of a sum come to -/
def gB (x : Int × Int) (i : Nat) (q : List Trm) : Nat → Int × Int := fun r => if r ∈ (q.take i).map (·.1) then (if r = 1 ∧ x.1 ≠ 0 then qP (rv x + -co q r) else qP (-co q r)) else if r = 1 ∧ x.1 ≠ 0 then x else (0, 1)
def p1 (x : Int × Int) : List RTrm := if x.1 = 0 then [] else [(1, x)]
def resB (x : Int × Int) (q : List Trm) : List RTrm := ((srt (rds ((1, 1) :: q))).filter fun r => decide ((gB x q.length q r).1 ≠ 0)).map fun r => (r, gB x q.length q r)
def r_laddB (ds : List PyData) (d : PyData) : Prop := ∃ (x : Int × Int) (q : List Trm), ds = [sR (p1 x), sD q, frD (-1, 1)] ∧ Canon q ∧ q.length ≤ 40 ∧ (∀ t ∈ q, QS 100 t.2) ∧ Fr 500 x ∧ d = sR (resB x q)
theorem getR {rs : List Nat} {f : Nat → Int × Int} (h0 : ∀ r', r' ∉ rs → f r' = (0, 1)) (r : Nat) : ((kget (encR rs f) (.inl (r : Int))).getD (.tuple [.int 0, .int 1])) = frD (f r) := by
  rw [kget_encR]
  by_cases h : r ∈ rs
  · rw [if_pos h]; rfl
  · rw [if_neg h, h0 _ h]; rfl
theorem zeroR {rs : List Nat} {f : Nat → Int × Int} {r : Nat} {v : Int × Int} (h0 : ∀ r', r' ∉ rs → f r' = (0, 1)) : ∀ r', r' ∉ (if r ∈ rs then rs else rs ++ [r]) → putR f r v r' = (0, 1) := fun r' hr' => by
  have h1 : r' ∉ rs ∧ r' ≠ r := by
    by_cases h : r ∈ rs
    · rw [if_pos h] at hr'
      exact ⟨hr', fun e => hr' (e ▸ h)⟩
    · rw [if_neg h] at hr'
      exact ⟨fun q => hr' (List.mem_append.mpr (.inl q)), fun e => hr' (List.mem_append.mpr (.inr (by rw [e]; simp)))⟩
  unfold putR
  rw [if_neg h1.2]
  exact h0 r' h1.1
theorem filter_eq {rs rs' : List Nat} {f : Nat → Int × Int} (nd : rs.Nodup) (nd' : rs'.Nodup) (h : ∀ r, r ∉ rs → f r = (0, 1)) (h' : ∀ r, r ∉ rs' → f r = (0, 1)) : (srt rs).filter (fun r => decide ((f r).1 ≠ 0)) = (srt rs').filter fun r => decide ((f r).1 ≠ 0) := by
  have inc : ∀ {rs : List Nat}, rs.Nodup → ((srt rs).filter fun r => decide ((f r).1 ≠ 0)).Pairwise (· < ·) := fun {rs} nd => List.Pairwise.sublist List.filter_sublist (srt_lt nd)
  have ndf : ∀ {l : List Nat}, l.Pairwise (· < ·) → l.Nodup := fun {l} h => List.Pairwise.imp (fun {a b} hlt e => by rw [e] at hlt; exact Nat.lt_irrefl _ hlt) h
  have mem : ∀ {rs : List Nat}, (∀ r, r ∉ rs → f r = (0, 1)) → ∀ r, r ∈ (srt rs).filter (fun r => decide ((f r).1 ≠ 0)) ↔ (f r).1 ≠ 0 := fun {rs} h r => by
    rw [List.mem_filter, decide_eq_true_eq]
    constructor
    · exact fun q => q.2
    · intro q
      refine ⟨(srt_perm rs).mem_iff.mpr (Classical.byContradiction fun hc => q ?_), q⟩
      rw [h r hc]
  have p : ((srt rs).filter fun r => decide ((f r).1 ≠ 0)).Perm ((srt rs').filter fun r => decide ((f r).1 ≠ 0)) := (List.perm_ext_iff_of_nodup (ndf (inc nd)) (ndf (inc nd'))).mpr fun r => by rw [mem h, mem h']
  exact p.eq_of_pairwise (fun a b _ _ h1 h2 => absurd h1 (by omega)) (inc nd) (inc nd')
theorem gB_step {x : Int × Int} {q : List Trm} (hq : Canon q) (hx : 0 < x.2) {i : Nat} {t : Trm} (ht : q[i]? = some t) : ∀ r', gB x (i + 1) q r' = putR (gB x i q) t.1 (fadd (gB x i q t.1) (fmul (qP t.2) (-1, 1))) r' := by
  have hnot : t.1 ∉ (q.take i).map (·.1) := fun hm => by
    obtain ⟨u, hu, e⟩ := List.mem_map.mp hm
    obtain ⟨hi, e0⟩ := List.getElem?_eq_some_iff.mp ht
    obtain ⟨j, hj, e2⟩ := List.mem_iff_getElem.mp hu
    rw [List.length_take] at hj
    rw [List.getElem_take] at e2
    have := List.pairwise_iff_getElem.mp hq.inc j i (by omega) hi (by omega)
    rw [e2, e0] at this
    omega
  have eco : co q t.1 = t.2 := hq.co_mem (List.mem_of_getElem? ht)
  have em : fmul (qP t.2) (-1, 1) = qP (-t.2) := by
    rw [show ((-1, 1) : Int × Int) = qP (-1) from rfl, fmul_q]
    congr 1
    grind
  have eg : gB x i q t.1 = if t.1 = 1 ∧ x.1 ≠ 0 then x else (0, 1) := by unfold gB; rw [if_neg hnot]
  have e10 : ((0, 1) : Int × Int) = qP 0 := rfl
  have ex : ∀ v : Rat, fadd x (qP v) = qP (rv x + v) := fun v => by
    have hv := v.den_nz
    unfold fadd
    have : rv x + v = mkRat (x.1 * (v.den : Int) + v.num * x.2) (x.2.toNat * v.den) := by
      unfold rv
      rw [show mkRat x.1 x.2.toNat + v = mkRat x.1 x.2.toNat + mkRat v.num v.den from by rw [Rat.mkRat_self], Rat.mkRat_add_mkRat _ _ (by omega) hv, Int.toNat_of_nonneg (by omega)]
    rw [this, ← red_mk _ _ (Nat.mul_ne_zero (by omega) hv), Int.natCast_mul, Int.toNat_of_nonneg (by omega)]
    rfl
  intro r'
  have etk : (q.take (i + 1)).map (·.1) = (q.take i).map (·.1) ++ [t.1] := by
    rw [List.take_add_one, ht, List.map_append]
    rfl
  unfold putR
  by_cases e : r' = t.1
  · rw [if_pos e, em, eg, e]
    have hin : t.1 ∈ (q.take (i + 1)).map (·.1) := by rw [etk]; exact List.mem_append.mpr (.inr (List.mem_singleton.mpr rfl))
    show (if t.1 ∈ (q.take (i + 1)).map (·.1) then _ else _) = _
    rw [if_pos hin, eco]
    by_cases h1 : t.1 = 1 ∧ x.1 ≠ 0
    · rw [if_pos h1, if_pos h1, ex]
    · rw [if_neg h1, if_neg h1, e10, fadd_q, Rat.zero_add]
  · rw [if_neg e]
    have hiff : r' ∈ (q.take (i + 1)).map (·.1) ↔ r' ∈ (q.take i).map (·.1) := by
      rw [etk, List.mem_append, List.mem_singleton]
      constructor
      · rintro (h | h)
        · exact h
        · exact (e h).elim
      · exact .inl
    show (if r' ∈ (q.take (i + 1)).map (·.1) then _ else _) = (if r' ∈ (q.take i).map (·.1) then _ else _)
    by_cases h : r' ∈ (q.take i).map (·.1)
    · rw [if_pos (hiff.mpr h), if_pos h]
    · rw [if_neg fun z => h (hiff.mp z), if_neg h]
section
variable {P : Program} {w : World} {K : PySem.W.Frag} {mg : Str → Option Value} {base : Heap}
abbrev gAb (x : Int × Int) (q : List Trm) (a : Addr) (rs : List Nat) (f : Nat → Int × Int) (x4 x5 : DV) : DS := ⟨[.d (sR (p1 x)), .d (sD q), .d (frD (-1, 1)), .m a, x4, x5], [(a, .dct (encR rs f))]⟩
theorem step_putR {x : Int × Int} {q : List Trm} {a : Addr} {rs : List Nat} {f g : Nat → Int × Int} {x4 x5 : DV} {r : Nat} {v : Int × Int} (hg : ∀ r', g r' = putR f r v r') :
    DS.setm (gAb x q a rs f x4 x5) a (.dct (kput (encR rs f) (Sum.inl (r : Int)) (frD v))) = gAb x q a (if r ∈ rs then rs else rs ++ [r]) g x4 x5 := by
  have e : g = putR f r v := funext hg
  subst e
  unfold DS.setm setM
  rw [kput_encR]
  simp
theorem ok_law_addB (T : Tx K mg) : FnOk P w K mg base CX0 3 T.d_law_add.fa T.d_law_add.fd P_law_add (FP K r_laddB) := by
  refine fp_ok T.d_law_add.F sc_law_add (fun ds d h => ?_) fun cdv A outer s H E b hK hr ds d h => ?_
  · obtain ⟨x, q, rfl, _⟩ := h
    rfl
  · obtain ⟨x, q, rfl, hq, hz, hqs, hx, rfl⟩ := h
    have hu : (A.deeper (envOfC "_law_add" (defScope s_law_add) s.heap.objs.size T.d_law_add.fa cdv)).units + 1 < cLine := hu_of hr
    refine sx_cons (sy_newD (i := 3) sc_law_add.nd rfl (.inr rfl) li fun a => ?_)
    have hin : ∀ {rs f x4 x5}, (a, MO.dct (encR rs f)) ∈ (gAb x q a rs f x4 x5).m := List.mem_singleton.mpr rfl
    have g0 : ∀ r', gB x 0 q r' = if r' = 1 ∧ x.1 ≠ 0 then x else (0, 1) := fun r' => rfl
    have p1len : (p1 x).length ≤ 1 := by unfold p1; split <;> simp
    refine sx_cons (sy_forT (ds := (p1 x).map rD) (g := gTup K 2 (gList [gName 4, gName 5])) hK.symm PassesOwn.never rfl (S1 := gAb x q a [] (fun _ => (0, 1)) .no .no) (vn 0) (pg_tup rfl (pgs_cons (pg_name (i := 4) sc_law_add.nd rfl (.inl rfl)) (pgs_cons (pg_name (i := 5) sc_law_add.nd rfl (.inl rfl)) pgs_nil)))
      (fun i S' => ∃ rs f x4 x5, S' = gAb x q a rs f x4 x5 ∧ rs.Nodup ∧ (∀ r, r ∉ rs → f r = (0, 1)) ∧ rs.length ≤ i ∧ (i = 0 → f = fun _ => (0, 1)) ∧ (i = (p1 x).length → ∀ r, f r = gB x 0 q r)) ⟨[], _, .no, .no, rfl, List.nodup_nil, fun _ _ => rfl, Nat.le_refl _, fun _ => rfl, fun h r => ?_⟩ ?_ ?_)
    · have : x.1 = 0 := Classical.byContradiction fun hc => by unfold p1 at h; rw [if_neg hc] at h; cases h
      rw [g0, if_neg fun z => z.2 this]
    · rintro i d S' hd ⟨rs, f, x4, x5, rfl, nd, h0, hlen, hf, _⟩
      obtain ⟨hx1, rfl, rfl⟩ : x.1 ≠ 0 ∧ i = 0 ∧ d = rD (1, x) := by
        unfold p1 at hd
        by_cases hc : x.1 = 0
        · rw [if_pos hc] at hd; cases hd
        · rw [if_neg hc] at hd
          cases i with
          | zero => exact ⟨hc, rfl, (Option.some.inj hd).symm⟩
          | succ i => cases hd
      have hf := hf rfl
      subst hf
      refine ⟨gAb x q a rs (fun _ => (0, 1)) (.d (.int ((1 : Nat) : Int))) (.d (frD x)), tg_tup (ds := [.int ((1 : Nat) : Int), frD x]) hK.symm rfl (.cons (S := gAb x q a rs (fun _ => (0, 1)) x4 x5) (tg_name (i := 4) li) rfl (.cons (tg_name (i := 5) li) rfl .nil)), rfl, ?_⟩
      refine sx_one (sy_dput (S1 := gAb x q a rs (fun _ => (0, 1)) (.d (.int ((1 : Nat) : Int))) (.d (frD x))) (d := frD x) (n := ((1 : Nat) : Int)) hu (vn 5) (vn 3) (vn 4) hin (by unfold encR; rw [List.length_map]; omega) ?_)
      show ∃ _, _
      have hg : ∀ r', gB x 0 q r' = putR (fun _ => (0, 1)) 1 x r' := fun r' => by
        rw [g0]
        unfold putR
        by_cases e : r' = 1
        · rw [if_pos ⟨e, hx1⟩, if_pos e]
        · rw [if_neg fun z => e z.1, if_neg e]
      rw [step_putR hg]
      exact ⟨_, _, _, _, rfl, nodup_put nd, fun r hr' => by rw [hg]; exact zeroR (fun _ _ => rfl) r hr', len_put hlen, fun h => by omega, fun _ _ => rfl⟩
    · rintro S' ⟨rs, f, x4, x5, rfl, nd, h0, hlen, _, hf⟩
      rw [List.length_map] at hf hlen
      have ef : f = gB x 0 q := funext (hf rfl)
      subst ef
      refine sx_cons (sy_forT (ds := q.map tD) (g := gTup K 2 (gList [gName 4, gName 5])) hK.symm PassesOwn.never rfl (S1 := gAb x q a rs (gB x 0 q) x4 x5) (vn 1) (pg_tup rfl (pgs_cons (pg_name (i := 4) sc_law_add.nd rfl (.inl rfl)) (pgs_cons (pg_name (i := 5) sc_law_add.nd rfl (.inl rfl)) pgs_nil)))
        (fun i S' => ∃ rs x4 x5, S' = gAb x q a rs (gB x i q) x4 x5 ∧ rs.Nodup ∧ (∀ r, r ∉ rs → gB x i q r = (0, 1)) ∧ rs.length ≤ 1 + i) ⟨rs, x4, x5, rfl, nd, h0, by omega⟩ ?_ ?_)
      · rintro i d S' hd ⟨rs, x4, x5, rfl, nd, h0, hlen⟩
        obtain ⟨t, ht, rfl⟩ : ∃ t, q[i]? = some t ∧ d = tD t := by
          rw [List.getElem?_map] at hd
          cases hx : q[i]? with
          | none => rw [hx] at hd; cases hd
          | some t => rw [hx] at hd; exact ⟨t, rfl, (Option.some.inj hd).symm⟩
        have hi : i < q.length := (List.getElem?_eq_some_iff.mp ht).1
        have htq := hqs t (List.mem_of_getElem? ht)
        have hg := gB_step hq hx.1 ht
        have f1 : Fr 1000 (gB x i q t.1) := by
          unfold gB
          have hcq : ∀ r, QS 5000 (co q r) := fun r => (co_QS hqs r).mono (by
            have : q.length * (100 + 1) ≤ 40 * 101 := Nat.mul_le_mul_right _ hz
            omega)
          have hnot : t.1 ∉ (q.take i).map (·.1) := fun hm => by
            obtain ⟨u, hu, e⟩ := List.mem_map.mp hm
            obtain ⟨hi, e0⟩ := List.getElem?_eq_some_iff.mp ht
            obtain ⟨j, hj, e2⟩ := List.mem_iff_getElem.mp hu
            rw [List.length_take] at hj
            rw [List.getElem_take] at e2
            have := List.pairwise_iff_getElem.mp hq.inc j i (by omega) hi (by omega)
            rw [e2, e0] at this
            omega
          rw [if_neg hnot]
          split
          · exact ⟨hx.1, hx.2.1.mono (by decide), hx.2.2.mono (by decide)⟩
          · exact ⟨by decide, show (0 : Int).natAbs < 2 ^ 1000 from Nat.two_pow_pos _, show (1 : Int).natAbs < 2 ^ 1000 from Nat.one_lt_two_pow (by decide)⟩
        have one1 : ∀ n, 0 < n → Fr n ((-1 : Int), (1 : Int)) := fun n hn => ⟨show (0 : Int) < 1 by decide, show (-1 : Int).natAbs < 2 ^ n from Nat.one_lt_two_pow (by omega), show (1 : Int).natAbs < 2 ^ n from Nat.one_lt_two_pow (by omega)⟩
        have em : fmul (qP t.2) (-1, 1) = qP (-t.2) := by
          rw [show ((-1, 1) : Int × Int) = qP (-1) from rfl, fmul_q]
          congr 1
          grind
        refine ⟨gAb x q a rs (gB x i q) (.d (.int (t.1 : Int))) (.d (qD t.2)), tg_tup (ds := [.int (t.1 : Int), qD t.2]) hK.symm rfl (.cons (S := gAb x q a rs (gB x i q) x4 x5) (tg_name (i := 4) li) rfl (.cons (tg_name (i := 5) li) rfl .nil)), rfl, ?_⟩
        have f2 : Fr 3000 (fmul (qP t.2) (-1, 1)) := by
          rw [em]
          refine QS.fr ⟨?_, ?_⟩
          · show (-t.2.num).natAbs < _
            rw [Int.natAbs_neg]
            exact Nat.lt_of_lt_of_le htq.1 (Nat.pow_le_pow_right (by decide) (by decide))
          · rw [Rat.neg_den]
            exact Nat.lt_of_lt_of_le htq.2 (Nat.pow_le_pow_right (by decide) (by decide))
        refine sx_one (sy_dput (S1 := gAb x q a rs (gB x i q) (.d (.int (t.1 : Int))) (.d (qD t.2))) (d := frD (fadd (gB x i q t.1) (fmul (qP t.2) (-1, 1)))) (n := (t.1 : Int)) hu (ev_call (ok_law_plus T) hK.symm hr rfl T.d_law_plus.m T.d_law_plus.F.kp T.d_law_plus.b pass0 (ds := [frD (gB x i q t.1), frD (fmul (qP t.2) (-1, 1))])
          (ea_cons (S1 := gAb x q a rs (gB x i q) (.d (.int (t.1 : Int))) (.d (qD t.2))) (by rw [← getR h0]; exact ev_dget2 hu (vn 3) (vn 4) (ev_tup (ds := [.int 0, .int 1]) (ea_cons ev_int (ea_cons ev_int ea_nil)) lq) hin ⟨rfl, rfl, rfl, rfl⟩) (ea_cons (S1 := gAb x q a rs (gB x i q) (.d (.int (t.1 : Int))) (.d (qD t.2))) (ev_call (ok_law_times T) hK.symm hr rfl T.d_law_times.m T.d_law_times.F.kp T.d_law_times.b pass0 (ds := [qD t.2, frD (-1, 1)]) (ea_cons (vn 5) (ea_cons (vn 2) ea_nil)) ⟨qP t.2, (-1, 1), rfl, (htq.mono (by decide)).fr, one1 3000 (by decide), rfl⟩) ea_nil)) ⟨_, _, rfl, ⟨f1.1, f1.2.1.mono (by decide), f1.2.2.mono (by decide)⟩, f2, rfl⟩) (vn 3) (vn 4) hin (by unfold encR; rw [List.length_map]; omega) ?_)
        show ∃ _, _
        rw [step_putR hg]
        exact ⟨_, _, _, rfl, nodup_put nd, fun r hr' => by rw [hg]; exact zeroR h0 r hr', len_put (i := 1 + i) hlen⟩
      · rintro S' ⟨rs, x4, x5, rfl, nd, h0, hlen⟩
        rw [List.length_map] at h0 hlen
        have elen : (q.map tD).length = q.length := List.length_map _
        rw [elen]
        have slen : (srt rs).length = rs.length := (srt_perm rs).length_eq
        have hout : ∀ r, r ∉ rds ((1, 1) :: q) → gB x q.length q r = (0, 1) := fun r hr' => by
          have h1 : r ≠ 1 := fun e => hr' (by rw [e]; exact rds_mem (t := (1, 1)) (List.mem_cons_self ..))
          have h2 : r ∉ (q.take q.length).map (·.1) := fun hm => by
            rw [List.take_length] at hm
            obtain ⟨u, hu, e⟩ := List.mem_map.mp hm
            exact hr' (by rw [← e]; exact rds_mem (List.mem_cons_of_mem _ hu))
          unfold gB
          rw [if_neg h2, if_neg fun z => h1 z.1]
        have el : resB x q = ((srt rs).filter fun r => decide ((gB x q.length q r).1 ≠ 0)).map fun r => (r, gB x q.length q r) := by
          unfold resB
          rw [filter_eq (rds_nd _) nd hout h0]
        rw [el]
        generalize gB x q.length q = f at h0 ⊢
        have key : ∀ {i : Nat} {d : PyData}, ((srt rs).map fun (r : Nat) => PyData.int (r : Int))[i]? = some d → i < (srt rs).length ∧ d = .int (((srt rs).getD i 0 : Nat) : Int) := fun {i d} hd => by
          rw [List.getElem?_map] at hd
          cases hx : (srt rs)[i]? with
          | none => rw [hx] at hd; cases hd
          | some r =>
            rw [hx] at hd
            refine ⟨(List.getElem?_eq_some_iff.mp hx).1, ?_⟩
            rw [List.getD_eq_getElem?_getD, hx]
            exact (Option.some.inj hd).symm
        have hget : ∀ i, i < (srt rs).length → kget (encR rs f) (Sum.inl (((srt rs).getD i 0 : Nat) : Int)) = some (frD (f ((srt rs).getD i 0))) := fun i hi => by
          rw [kget_encR, if_pos]
          rw [List.getD_eq_getElem?_getD, List.getElem?_eq_getElem hi]
          exact (srt_perm rs).mem_iff.mp (List.getElem_mem hi)
        refine sx_one (sy_retF (S1 := gAb x q a rs f x4 x5) (ev_tupleL hK.symm rfl T.n_tuple (ds := (((srt rs).filter fun r => decide ((f r).1 ≠ 0)).map fun r => ((r, f r) : RTrm)).map rD) ?_))
        refine ev_lcL1i (S1 := gAb x q a rs f x4 x5) (own := [("radicand", 4)]) (g := gName 4) (ds := (srt rs).map fun (r : Nat) => .int (r : Int)) (gT := fun d => [.d (sR (p1 x)), .d (sD q), .d (frD (-1, 1)), .m a, .d d, x5]) (c := fun i => !decide ((f ((srt rs).getD i 0)).1 = 0)) (y := fun i => rD ((srt rs).getD i 0, f ((srt rs).getD i 0))) ?_ ?_ ?_ ?_ ?_ ?_ ?_ ?_ ?_ ?_ ?_
        · exact hK.symm
        · rfl
        · exact sc_law_add.nd
        · rw [show (srt rs).map (fun (r : Nat) => PyData.int (r : Int)) = ((srt rs).map fun (r : Nat) => (r : Int)).map .int from by rw [List.map_map]; rfl]
          refine ev_callB cr_sorted ?_ T.n_sorted (by decide +kernel) (ea_cons (x := .d (.list ((rs.map fun (r : Nat) => (r : Int)).map .int))) (S1 := gAb x q a rs f x4 x5) ?_ ea_nil) (rc_sortedL hK.symm (by rw [List.length_map]; omega) (srt_ints rs).1 (srt_ints rs).2)
          · exact rfl
          · exact ev_callTy (call_listD rfl) rfl T.n_list (by decide +kernel) (ea_cons (vn 3) ea_nil) (rc_listD hin (encR_keys rs f))
        · rw [List.length_map, slen]; omega
        · exact blkOk_by (N := N_law_add) (sc := defScope s_law_add) (by decide +kernel)
        · exact fun _ _ _ _ _ => pg_name (i := 4) sc_law_add.nd rfl (.inl rfl)
        · exact fun i d hd => tgb_name (vs := [4]) (j := 4) (g0 := [.d (sR (p1 x)), .d (sD q), .d (frD (-1, 1)), .m a, .no, x5]) (List.mem_singleton.mpr rfl) li
        · intro i d hd Dl acc
          obtain ⟨hi, rfl⟩ := key hd
          intro s H C cl fp
          exact et_neI (ev_ixT hK.symm (ev_dgetI hu (vn 3) (vn 4) (List.mem_cons_self ..) (hget i hi)) ev_int rfl) ev_int
        · intro i d hd hc Dl acc
          obtain ⟨hi, rfl⟩ := key hd
          intro s H C cl fp
          exact ev_tup (ds := [_, _]) (ea_cons (vn 4) (ea_cons (ev_dgetI hu (vn 3) (vn 4) (List.mem_cons_self ..) (hget i hi)) ea_nil)) lq
        · rw [List.length_map]
          have := outs_picked (ds := (srt rs).map fun (r : Nat) => PyData.int (r : Int)) (f := fun d => match d with
            | .int r => !decide ((f r.toNat).1 = 0)
            | _ => false) (g := fun d => match d with
            | .int r => rD (r.toNat, f r.toNat)
            | _ => .none) (c := fun i => !decide ((f ((srt rs).getD i 0)).1 = 0)) (y := fun i => rD ((srt rs).getD i 0, f ((srt rs).getD i 0))) fun i d hd => by
              obtain ⟨hi, rfl⟩ := key hd
              exact ⟨rfl, rfl⟩
          rw [List.length_map] at this
          rw [this, List.filter_map, List.map_map, List.map_map]
          have e : (fun r => decide ((f r).1 ≠ 0)) = fun r => !decide ((f r).1 = 0) := funext fun r => by rw [decide_not]
          rw [e]
          rfl
end
end K0
end
section
set_option Elab.async false
set_option linter.all false
set_option maxRecDepth 100000
set_option maxHeartbeats 4000000
set_option exponentiation.threshold 300000
namespace K0
open PySem PySem.Spec PyProof.Rows L2 DX
set_option autoImplicit false
/-! the mathematics of what is drawn -/
theorem den_mk (z : Int) {D : Nat} (h : D ≠ 0) : (mkRat z D).den ∣ D := by
  rw [Rat.den_mkRat, if_neg h]
  exact Nat.div_dvd_of_dvd (Nat.gcd_dvd_left _ _)
theorem mk_of_den {q : Rat} {D : Nat} (hD : D ≠ 0) (h : q.den ∣ D) : ∃ z : Int, q = mkRat z D := by
  obtain ⟨c, rfl⟩ := h
  have c0 : c ≠ 0 := fun e => hD (by rw [e, Nat.mul_zero])
  exact ⟨q.num * (c : Int), by rw [Rat.mkRat_mul_right c0, Rat.mkRat_self]⟩
theorem den_add {p q : Rat} {D : Nat} (hD : D ≠ 0) (h : p.den ∣ D) (g : q.den ∣ D) : (p + q).den ∣ D := by
  obtain ⟨a, rfl⟩ := mk_of_den hD h
  obtain ⟨b, rfl⟩ := mk_of_den hD g
  rw [Rat.mkRat_add_mkRat _ _ hD hD, ← Int.add_mul, Rat.mkRat_mul_right hD]
  exact den_mk _ hD
theorem den_mul {p q : Rat} {A B : Nat} (hA : A ≠ 0) (hB : B ≠ 0) (h : p.den ∣ A) (g : q.den ∣ B) : (p * q).den ∣ A * B := by
  obtain ⟨a, rfl⟩ := mk_of_den hA h
  obtain ⟨b, rfl⟩ := mk_of_den hB g
  rw [Rat.mkRat_mul_mkRat]
  exact den_mk _ (Nat.mul_ne_zero hA hB)
theorem den_co {ps : List Trm} {D : Nat} (hD : D ≠ 0) (h : ∀ t ∈ ps, t.2.den ∣ D) (r : Nat) : (co ps r).den ∣ D := by
  induction ps with
  | nil => exact Nat.one_dvd _
  | cons t ps ih =>
    refine den_add hD ?_ (ih fun u hu => h u (List.mem_cons_of_mem _ hu))
    show (if t.1 = r then t.2 else 0).den ∣ D
    split
    · exact h t (List.mem_cons_self ..)
    · exact Nat.one_dvd _
theorem cof_co (l : List Trm) (r : Nat) : TS.cof l r = co l r := by
  induction l with
  | nil => rfl
  | cons t l ih => show (if t.1 = r then t.2 else 0) + TS.cof l r = (if t.1 = r then t.2 else 0) + co l r; rw [ih]
theorem vR_same {l m : List Trm} (h : ∀ r, co l r = co m r) : TS.vR l = TS.vR m := TS.vR_ext fun r => by rw [cof_co, cof_co, h]
theorem Canon.ndr {l : List Trm} (h : Canon l) : (l.map (·.1)).Nodup := by
  have : (l.map (·.1)).Pairwise (· < ·) := List.pairwise_map.mpr h.inc
  exact List.Pairwise.imp (fun {a b} hlt e => by rw [e] at hlt; exact Nat.lt_irrefl _ hlt) this
theorem aR_same {l m : List Trm} (hc : Canon l) (h : ∀ r, co l r = co m r) : TS.aR l ≤ TS.aR m := TS.aR_le hc.ndr fun r => by rw [cof_co, cof_co, h]
open TS in
theorem ofQ_le_nat {q : Rat} {B : Nat} (h : ofQ q ≤ ((B : Nat) : Rl)) : q ≤ ((B : Nat) : Rat) := by
  refine Classical.byContradiction fun hc => ?_
  have h2 := ofQ_lt (show ((B : Nat) : Rat) < q by grind)
  rw [natCast_def] at h
  grind
theorem num_le {q : Rat} {B : Nat} (h : TS.qa q ≤ ((B : Nat) : Rat)) : q.num.natAbs ≤ B * q.den := by
  have key : ∀ p : Rat, p ≤ ((B : Nat) : Rat) → p.num ≤ (B : Int) * (p.den : Int) := fun p hp => by
    have := (Rat.le_iff p ((B : Nat) : Rat)).mp hp
    rw [Rat.den_natCast, Rat.num_natCast] at this
    simpa using this
  unfold TS.qa at h
  by_cases hq : q < 0
  · rw [if_pos hq] at h
    have h1 := key _ h
    have h1 : -q.num ≤ (B : Int) * (q.den : Int) := h1
    have h2 : q.num ≤ 0 := by
      have := (Rat.le_iff q 0).mp (by grind)
      simpa using this
    have : ((q.num.natAbs : Nat) : Int) ≤ ((B * q.den : Nat) : Int) := by rw [Int.natCast_mul]; omega
    omega
  · rw [if_neg hq] at h
    have h1 := key _ h
    have h2 : 0 ≤ q.num := by
      have := (Rat.le_iff 0 q).mp (by grind)
      simpa using this
    have : ((q.num.natAbs : Nat) : Int) ≤ ((B * q.den : Nat) : Int) := by rw [Int.natCast_mul]; omega
    omega
/-- a sum within bounds: lows divide D, radicands below R, size at most B, at most n pairs -/
structure Nice (D R B n : Nat) (l : List Trm) : Prop where
  ca : Canon l
  len : l.length ≤ n
  sq : ∀ t ∈ l, TS.Sqf t.1
  rd : ∀ t ∈ l, t.1 < R
  dn : ∀ t ∈ l, t.2.den ∣ D
  ar : TS.aR l ≤ ((B : Nat) : TS.Rl)
open TS in
theorem Nice.num {D R B n : Nat} {l : List Trm} (h : Nice D R B n l) {t : Trm} (ht : t ∈ l) : t.2.num.natAbs ≤ B * t.2.den := by
  refine num_le (ofQ_le_nat ?_)
  have h1 := aR_mem ht
  have h2 := h.ar
  have h3 : (1 : Rl) ≤ rt t.1 := by
    have := rt_le (show 1 ≤ t.1 from (h.sq t ht).1)
    rw [rt_one] at this
    exact this
  have h4 : (0 : Rl) ≤ ofQ (qa t.2) := by have := ofQ_le (qa_nn t.2); rw [ofQ_zero] at this; exact this
  have h5 := mul_nonneg h4 (show 0 ≤ rt t.1 - 1 by grind)
  grind
theorem Nice.qs {D R B n k : Nat} {l : List Trm} (h : Nice D R B n l) (hD : 0 < D) (h1 : B * D < 2 ^ k) (h2 : D < 2 ^ k) : ∀ t ∈ l, QS k t.2 := fun t ht => by
  have a := h.num ht
  have b := Nat.le_of_dvd hD (h.dn t ht)
  have c := Nat.mul_le_mul_left B b
  exact ⟨by omega, by omega⟩
theorem Nice.nil (D R B n : Nat) : Nice D R B n [] := ⟨⟨List.Pairwise.nil, fun _ h => (by cases h)⟩, Nat.zero_le _, fun _ h => (by cases h), fun _ h => (by cases h), fun _ h => (by cases h), by show (0 : TS.Rl) ≤ _; exact TS.nat_nn _⟩
/-- collected from pairs within bounds -/
structure Pre (D R B n : Nat) (m : List Trm) : Prop where
  len : (rds m).length ≤ n
  sq : ∀ t ∈ m, TS.Sqf t.1
  rd : ∀ t ∈ m, t.1 < R
  dn : ∀ t ∈ m, t.2.den ∣ D
  ar : TS.aR m ≤ ((B : Nat) : TS.Rl)
theorem Pre.nice {D R B n : Nat} {l m : List Trm} (h : Pre D R B n m) (hD : D ≠ 0) (hc : Canon l) (e : ∀ r, co l r = co m r) : Nice D R B n l := by
  refine ⟨hc, Nat.le_trans (canon_len hc e) h.len, fun t ht => ?_, fun t ht => ?_, fun t ht => ?_, Std.le_trans (aR_same hc e) h.ar⟩
  · obtain ⟨_, u, hu, q⟩ := hc.mem_co e ht
    rw [← q]; exact h.sq u hu
  · obtain ⟨_, u, hu, q⟩ := hc.mem_co e ht
    rw [← q]; exact h.rd u hu
  · rw [(hc.mem_co e ht).1]
    exact den_co hD h.dn _
theorem Nice.pre {D R B n : Nat} {l : List Trm} (h : Nice D R B n l) : Pre D R B n l := ⟨Nat.le_trans (rds_len l) h.len, h.sq, h.rd, h.dn, h.ar⟩
theorem Pre.app {D R B B' n n' : Nat} {l m : List Trm} (h : Pre D R B n l) (g : Pre D R B' n' m) (hl : l.length ≤ n) (hm : m.length ≤ n') : Pre D R (B + B') (n + n') (l ++ m) := by
  refine ⟨Nat.le_trans (rds_len _) (by rw [List.length_append]; omega), fun t ht => ?_, fun t ht => ?_, fun t ht => ?_, ?_⟩
  · rcases List.mem_append.mp ht with e | e
    · exact h.sq t e
    · exact g.sq t e
  · rcases List.mem_append.mp ht with e | e
    · exact h.rd t e
    · exact g.rd t e
  · rcases List.mem_append.mp ht with e | e
    · exact h.dn t e
    · exact g.dn t e
  · have a := h.ar
    have b := g.ar
    rw [TS.aR_app, TS.nat_add]
    grind
open TS in
theorem Nice.sc {D R B n : Nat} {l : List Trm} (h : Nice D R B n l) {c : Rat} {C E : Nat} (hD : D ≠ 0) (hE : E ≠ 0) (hc : qa c ≤ ((C : Nat) : Rat)) (hd : c.den ∣ E) : Pre (D * E) R (B * C) n (sc c l) := by
  refine ⟨Nat.le_trans (rds_len _) (by unfold TS.sc; rw [List.length_map]; exact h.len), fun t ht => ?_, fun t ht => ?_, fun t ht => ?_, ?_⟩
  · obtain ⟨u, hu, rfl⟩ := List.mem_map.mp ht
    exact h.sq u hu
  · obtain ⟨u, hu, rfl⟩ := List.mem_map.mp ht
    exact h.rd u hu
  · obtain ⟨u, hu, rfl⟩ := List.mem_map.mp ht
    exact den_mul hD hE (h.dn u hu) hd
  · rw [aR_sc, nat_mul]
    have h1 : ofQ (qa c) ≤ ((C : Nat) : Rl) := by rw [natCast_def]; exact ofQ_le hc
    have h2 := h.ar
    have h3 := aR_nn l
    have h4 := mul_nonneg (show 0 ≤ ((C : Nat) : Rl) - ofQ (qa c) by grind) h3
    have h5 := mul_nonneg (nat_nn C) (show 0 ≤ ((B : Nat) : Rl) - aR l by grind)
    grind
theorem Pre.mono {D D' R R' B B' n n' : Nat} {l : List Trm} (h : Pre D R B n l) (h1 : D ∣ D') (h2 : R ≤ R') (h3 : B ≤ B') (h4 : n ≤ n') : Pre D' R' B' n' l :=
  ⟨Nat.le_trans h.len h4, h.sq, fun t ht => Nat.lt_of_lt_of_le (h.rd t ht) h2, fun t ht => Nat.dvd_trans (h.dn t ht) h1, Std.le_trans h.ar (TS.nat_le.mpr h3)⟩
theorem Nice.mono {D D' R R' B B' n n' : Nat} {l : List Trm} (h : Nice D R B n l) (h1 : D ∣ D') (h2 : R ≤ R') (h3 : B ≤ B') (h4 : n ≤ n') : Nice D' R' B' n' l :=
  ⟨h.ca, Nat.le_trans h.len h4, h.sq, fun t ht => Nat.lt_of_lt_of_le (h.rd t ht) h2, fun t ht => Nat.dvd_trans (h.dn t ht) h1, Std.le_trans h.ar (TS.nat_le.mpr h3)⟩
theorem co_sc (c : Rat) (l : List Trm) (r : Nat) : co (TS.sc c l) r = co l r * c := by rw [← cof_co, TS.cof_sc, cof_co]
/-! roots -/
noncomputable def ssp (n : Nat) : Nat × Nat := if h : 0 < n then (Classical.choose (TS.sqf_ex n h), Classical.choose (Classical.choose_spec (TS.sqf_ex n h))) else (0, 1)
theorem ssp_spec {n : Nat} (h : 0 < n) : TS.Sqf (ssp n).2 ∧ (ssp n).1 * (ssp n).1 * (ssp n).2 = n := by
  unfold ssp
  rw [dif_pos h]
  exact Classical.choose_spec (Classical.choose_spec (TS.sqf_ex n h))
noncomputable def rootL (q : Rat) : List Trm := if 0 < q.num then [((ssp (q.num.natAbs * q.den)).2, mkRat ((ssp (q.num.natAbs * q.den)).1 : Int) q.den)] else []
theorem rootL_is {q : Rat} (h0 : 0 ≤ q.num) : (q.num = 0 ∧ sD (rootL q) = .tuple []) ∨ (0 < q.num ∧ ∃ o r : Nat, TS.Sqf r ∧ o * o * r = q.num.natAbs * q.den ∧ sD (rootL q) = .tuple [.tuple [.int (r : Int), qD (mkRat (o : Int) q.den)]]) := by
  have dn := q.den_nz
  by_cases h : 0 < q.num
  · obtain ⟨h1, h2⟩ := ssp_spec (n := q.num.natAbs * q.den) (Nat.mul_pos (by omega) (by omega))
    refine .inr ⟨h, _, _, h1, h2, ?_⟩
    unfold rootL
    rw [if_pos h]
    rfl
  · refine .inl ⟨by omega, ?_⟩
    unfold rootL
    rw [if_neg h]
    rfl
open TS in
theorem rootL_nice {q : Rat} {E R B : Nat} (h0 : 0 ≤ q.num) (hE : E ≠ 0) (hd : q.den ∣ E) (hR : q.num.natAbs * q.den < R) (hB : q.num.natAbs ≤ B * B * q.den) : Nice E R B 1 (rootL q) := by
  have dn := q.den_nz
  unfold rootL
  by_cases h : 0 < q.num
  · rw [if_pos h]
    have hp : 0 < q.num.natAbs * q.den := Nat.mul_pos (by omega) (by omega)
    obtain ⟨h1, h2⟩ := ssp_spec hp
    generalize (ssp (q.num.natAbs * q.den)).2 = r at h1 h2 ⊢
    generalize (ssp (q.num.natAbs * q.den)).1 = o at h2 ⊢
    have o0 : 0 < o := by
      rcases Nat.eq_zero_or_pos o with e | e
      · subst e; simp at h2; omega
      · exact e
    obtain ⟨b1, b2⟩ := sqf_le h2 hp
    refine ⟨⟨List.pairwise_singleton _ _, fun t ht => ?_⟩, Nat.le_refl _, fun t ht => ?_, fun t ht => ?_, fun t ht => ?_, ?_⟩
    · rw [List.mem_singleton] at ht
      subst ht
      exact (Rat.mkRat_ne_zero dn).mpr (by omega)
    · rw [List.mem_singleton] at ht
      subst ht
      exact h1
    · rw [List.mem_singleton] at ht
      subst ht
      show r < R
      omega
    · rw [List.mem_singleton] at ht
      subst ht
      exact Nat.dvd_trans (den_mk _ dn) hd
    · show ofQ (qa (mkRat (o : Int) q.den)) * rt r + 0 ≤ _
      have hnn : ¬ mkRat (o : Int) q.den < 0 := by
        have : (0 : Rat) ≤ mkRat (o : Int) q.den := by
          rw [Rat.mkRat_eq_div, Rat.div_def]
          exact Rat.mul_nonneg (Rat.intCast_nonneg.mpr (by omega)) (Rat.le_of_lt (Rat.inv_pos.mpr (Rat.natCast_pos.mpr (by omega))))
        grind
      have eqa : qa (mkRat (o : Int) q.den) = mkRat (o : Int) q.den := if_neg hnn
      have D0 : (0 : Rl) < (q.den : Rl) := by
        have := nat_lt.mpr (show 0 < q.den by omega)
        rw [nat_zero] at this
        exact this
      have e1 : (q.den : Rl) * ofQ (mkRat (o : Int) q.den) = (o : Rl) := by
        rw [natCast_def, natCast_def, ← ofQ_mul]
        congr 1
        have d0 : ((q.den : Nat) : Rat) ≠ 0 := fun e => dn (Rat.natCast_eq_zero_iff.mp e)
        rw [Rat.mkRat_eq_div, Rat.mul_comm]
        exact Rat.div_mul_cancel d0
      have e2 : (o : Rl) * rt r ≤ (B : Rl) * (q.den : Rl) := by
        refine le_of_sq (mul_nonneg (nat_nn _) (nat_nn _)) ?_
        have s1 : (o : Rl) * rt r * ((o : Rl) * rt r) = ((o * o * r : Nat) : Rl) := by
          rw [nat_mul, nat_mul]
          have := rt_sq r
          grind
        have s2 : (B : Rl) * (q.den : Rl) * ((B : Rl) * (q.den : Rl)) = ((B * B * q.den * q.den : Nat) : Rl) := by
          rw [nat_mul, nat_mul, nat_mul]
          grind
        rw [s1, s2, h2]
        exact nat_le.mpr (Nat.mul_le_mul_right _ hB)
      rw [eqa]
      refine Classical.byContradiction fun hc => ?_
      have := mul_pos D0 (show 0 < ofQ (mkRat (o : Int) q.den) * rt r + 0 - (B : Rl) by grind)
      have e3 : (q.den : Rl) * (ofQ (mkRat (o : Int) q.den) * rt r) = (o : Rl) * rt r := by rw [← e1]; grind
      grind
  · rw [if_neg h]
    exact Nice.nil _ _ _ _
end K0
end
section
set_option Elab.async false
set_option linter.all false
set_option maxRecDepth 100000
set_option maxHeartbeats 4000000
set_option exponentiation.threshold 300000
namespace K0
open PySem PySem.Spec PyProof.Rows L2 DX
set_option autoImplicit false
/-! what is drawn -/
section
variable {X : Cx} {b : Bs} {pos p : Pos} {e1 e2 : Expr} {g : List DV} {a : Addr} {S0 : DS}
theorem ev_taken (T : Tx X.K X.mg) (hK : X.K = b.K) (hr : Room 1 X.A) {R1 : Row} {m : Int} (hR : R1.Ok) (m0 : 0 < m) (mz : Sz 60 m) (ha : EA X b [e1, e2] S0 [.m a, .d (.int m)] ⟨g, [(a, .lst R1.ms)]⟩) (hg : Gl X "_law_taken" := by rfl)
    (he : starEach [e1, e2] X.env = (false, eval e1 X.env) :: starEach [e2] X.env := by rfl) (hpl : (backTo pos (starEach [e2] X.env)).any (·.1) = false := by rfl) :
    EV X b (.Call (.Name "_law_taken" p) [e1, e2] [] pos) S0 (.d (.int (R1.step m).1)) ⟨g, [(a, .lst (R1.step m).2.ms)]⟩ := by
  have h := ev_callM (E := fun _ _ _ => False) (p := p) (pos := pos) (ok_law_taken T) hK hr hg T.d_law_taken.m T.d_law_taken.F.kp T.d_law_taken.b pass0 (ds := [.int m]) (ms := R1.ms) ha (List.mem_singleton.mpr rfl) ⟨R1, m, hR, rfl, rfl, m0, mz, rfl, rfl⟩ (by decide) he hpl
  rw [setm1] at h
  exact h
theorem ev_pick (T : Tx X.K X.mg) (hK : X.K = b.K) (hr : Room 2 X.A) {R1 : Row} {xs : List PyData} (hR : R1.Ok) (x0 : xs ≠ []) (xz : xs.length ≤ 1000) (ha : EA X b [e1, e2] S0 [.m a, .d (.list xs)] ⟨g, [(a, .lst R1.ms)]⟩) (hg : Gl X "_law_pick" := by rfl)
    (he : starEach [e1, e2] X.env = (false, eval e1 X.env) :: starEach [e2] X.env := by rfl) (hpl : (backTo pos (starEach [e2] X.env)).any (·.1) = false := by rfl) :
    EV X b (.Call (.Name "_law_pick" p) [e1, e2] [] pos) S0 (.d (xs.getD (R1.step (xs.length : Int)).1.toNat .none)) ⟨g, [(a, .lst (R1.step (xs.length : Int)).2.ms)]⟩ := by
  have h := ev_callM (E := fun _ _ _ => False) (p := p) (pos := pos) (ok_law_pick T) hK hr hg T.d_law_pick.m T.d_law_pick.F.kp T.d_law_pick.b pass0 (ds := [.list xs]) (ms := R1.ms) ha (List.mem_singleton.mpr rfl) ⟨R1, xs, hR, rfl, rfl, x0, xz, rfl, rfl⟩ (by decide) he hpl
  rw [setm1] at h
  exact h
end
def pickI (R : Row) (ns : List Int) : Int := ns.getD (R.step (ns.length : Int)).1.toNat 0
theorem pick_data {R : Row} (hR : R.Ok) {ns : List Int} (h : ns ≠ []) : (ns.map PyData.int).getD (R.step ((ns.map PyData.int).length : Int)).1.toNat .none = .int (pickI R ns) := by
  have l0 : (0 : Int) < (ns.length : Int) := by
    have := List.length_pos_iff.mpr h
    omega
  rw [List.length_map]
  obtain ⟨_, h1, h2⟩ := Row.step_ok hR l0
  have hlt : (R.step (ns.length : Int)).1.toNat < ns.length := by omega
  unfold pickI
  rw [List.getD_eq_getElem?_getD, List.getD_eq_getElem?_getD, List.getElem?_map, List.getElem?_eq_getElem hlt]
  rfl
theorem pick_mem {R : Row} (hR : R.Ok) {ns : List Int} (h : ns ≠ []) : pickI R ns ∈ ns := by
  have l0 : (0 : Int) < (ns.length : Int) := by
    have := List.length_pos_iff.mpr h
    omega
  obtain ⟨_, h1, h2⟩ := Row.step_ok hR l0
  have hlt : (R.step (ns.length : Int)).1.toNat < ns.length := by omega
  unfold pickI
  rw [List.getD_eq_getElem?_getD, List.getElem?_eq_getElem hlt]
  exact List.getElem_mem hlt
abbrev tops : List Int := [5, 31, 1000]
def rA (R : Row) : Row := (R.step 3).2
def mA (R : Row) : Int := pickI R tops
def rB (R : Row) : Row := ((rA R).step (mA R)).2
def tB (R : Row) : Int := ((rA R).step (mA R)).1
def rC (R : Row) : Row := ((rB R).step 19).2
def xC (R : Row) : Int := ((rB R).step 19).1
def rE (R : Row) : Row := ((rC R).step 6).2
def yE (R : Row) : Int := ((rC R).step 6).1
def rG (R : Row) : Row := ((rE R).step 4).2
def zG (R : Row) : Int := ((rE R).step 4).1
def partR (R : Row) : Rat := mkRat (xC R - 9) (1 + yE R).toNat
def qR (R : Row) : Rat := mkRat (tB R) (1 + zG R).toNat
noncomputable def nextF (R : Row) (F : List Trm) : List Trm := cn (F ++ TS.sc (partR R) (rootL (qR R)))
noncomputable def drawI (R : Row) : Nat → Row × List Trm
  | 0 => (R, [])
  | i + 1 => (rG (drawI R i).1, nextF (drawI R i).1 (drawI R i).2)
noncomputable def drawn (R : Row) : Row × List Trm := drawI (R.step 5).2 (R.step 5).1.toNat
structure Turned (R : Row) : Prop where
  a : (rA R).Ok
  m : 0 < mA R ∧ mA R ≤ 1000
  b : (rB R).Ok
  t : 0 ≤ tB R ∧ tB R < 1000
  c : (rC R).Ok
  x : 0 ≤ xC R ∧ xC R < 19
  e : (rE R).Ok
  y : 0 ≤ yE R ∧ yE R < 6
  g : (rG R).Ok
  z : 0 ≤ zG R ∧ zG R < 4
theorem turned {R : Row} (h : R.Ok) : Turned R := by
  have a := Row.step_ok h (m := 3) (by decide)
  have m : 0 < mA R ∧ mA R ≤ 1000 := by
    have := pick_mem h (ns := tops) (by decide)
    show 0 < pickI R tops ∧ pickI R tops ≤ 1000
    rcases List.mem_cons.mp this with q | q
    · rw [q]; decide
    · rcases List.mem_cons.mp q with q | q
      · rw [q]; decide
      · rw [List.mem_singleton] at q
        rw [q]; decide
  have b := Row.step_ok a.1 (m := mA R) m.1
  have c := Row.step_ok b.1 (m := 19) (by decide)
  have e := Row.step_ok c.1 (m := 6) (by decide)
  have g := Row.step_ok e.1 (m := 4) (by decide)
  exact ⟨a.1, m, b.1, ⟨b.2.1, Int.lt_of_lt_of_le b.2.2 m.2⟩, c.1, c.2, e.1, e.2, g.1, g.2⟩
theorem num_mk {n : Int} {d : Nat} (hd : d ≠ 0) : (mkRat n d).num.natAbs ≤ n.natAbs ∧ (0 ≤ n → 0 ≤ (mkRat n d).num) := by
  rw [Rat.num_mkRat, if_neg hd]
  have g0 : 0 < d.gcd n.natAbs := Nat.gcd_pos_of_pos_left _ (by omega)
  constructor
  · rw [Int.natAbs_ediv_of_dvd (Int.ofNat_dvd_left.mpr (Nat.gcd_dvd_right _ _)), Int.natAbs_natCast]
    exact Nat.div_le_self _ _
  · intro h
    exact Int.ediv_nonneg h (by omega)
theorem qa_le {q : Rat} {C : Nat} (h : q.num.natAbs ≤ C) : TS.qa q ≤ ((C : Nat) : Rat) := by
  have dn := q.den_nz
  have hd : (C : Int) * 1 ≤ (C : Int) * (q.den : Int) := Int.mul_le_mul_of_nonneg_left (by omega) (by omega)
  have key : ∀ p : Rat, p.num ≤ (C : Int) → p.den = q.den → p ≤ ((C : Nat) : Rat) := fun p h1 h2 => by
    refine (Rat.le_iff p ((C : Nat) : Rat)).mpr ?_
    rw [Rat.den_natCast, Rat.num_natCast, h2]
    show p.num * 1 ≤ _
    omega
  unfold TS.qa
  split
  · exact key _ (show -q.num ≤ (C : Int) by omega) rfl
  · exact key _ (by omega) rfl
theorem dvd12 {d : Nat} (h0 : 0 < d) (h : d ≤ 4) : d ∣ 12 := by
  have : d = 1 ∨ d = 2 ∨ d = 3 ∨ d = 4 := by omega
  rcases this with e | e | e | e <;> subst e <;> decide
theorem dvd60 {d : Nat} (h0 : 0 < d) (h : d ≤ 6) : d ∣ 60 := by
  have : d = 1 ∨ d = 2 ∨ d = 3 ∨ d = 4 ∨ d = 5 ∨ d = 6 := by omega
  rcases this with e | e | e | e | e | e <;> subst e <;> decide
theorem qR_facts {R : Row} (h : Turned R) : 0 ≤ (qR R).num ∧ (qR R).num.natAbs ≤ 999 ∧ (qR R).den ≤ 4 ∧ (qR R).den ∣ 12 := by
  obtain ⟨t1, t2⟩ := h.t
  obtain ⟨z1, z2⟩ := h.z
  have d0 : (1 + zG R).toNat ≠ 0 := by omega
  obtain ⟨n1, n2⟩ := num_mk (n := tB R) d0
  have hd := den_mk (tB R) d0
  have hle := Nat.le_of_dvd (by omega) hd
  exact ⟨n2 t1, Nat.le_trans n1 (by omega), by show (mkRat _ _).den ≤ 4; omega, Nat.dvd_trans hd (dvd12 (by omega) (by omega))⟩
theorem partR_facts {R : Row} (h : Turned R) : (partR R).num.natAbs ≤ 9 ∧ (partR R).den ≤ 6 ∧ (partR R).den ∣ 60 := by
  obtain ⟨t1, t2⟩ := h.x
  obtain ⟨z1, z2⟩ := h.y
  have d0 : (1 + yE R).toNat ≠ 0 := by omega
  obtain ⟨n1, _⟩ := num_mk (n := xC R - 9) d0
  have hd := den_mk (xC R - 9) d0
  have hle := Nat.le_of_dvd (by omega) hd
  exact ⟨Nat.le_trans n1 (by omega), by show (mkRat _ _).den ≤ 6; omega, Nat.dvd_trans hd (dvd60 (by omega) (by omega))⟩
theorem root_nice {R : Row} (h : Turned R) : Nice 12 4096 32 1 (rootL (qR R)) := by
  obtain ⟨a1, a2, a3, a4⟩ := qR_facts h
  have dn := (qR R).den_nz
  refine rootL_nice a1 (by decide) a4 ?_ ?_
  · have := Nat.mul_le_mul a2 a3
    omega
  · have := Nat.mul_le_mul_left (32 * 32) (show 1 ≤ (qR R).den by omega)
    omega
theorem turn_pre {R : Row} (h : Turned R) : Pre 720 4096 288 1 (TS.sc (partR R) (rootL (qR R))) := by
  obtain ⟨b1, b2, b3⟩ := partR_facts h
  exact (root_nice h).sc (c := partR R) (C := 9) (E := 60) (by decide) (by decide) (qa_le b1) b3
theorem rootL_len (q : Rat) : (rootL q).length ≤ 1 := by unfold rootL; split <;> simp
theorem next_nice {R : Row} (h : Turned R) {F : List Trm} {i : Nat} (hF : Nice 720 4096 (288 * i) i F) : Nice 720 4096 (288 * (i + 1)) (i + 1) (nextF R F) := by
  have hp := hF.pre.app (turn_pre h) hF.len (by unfold TS.sc; rw [List.length_map]; exact rootL_len _)
  have := hp.nice (by decide) (cn_canon _) (cn_co _)
  exact this
theorem drawI_ok {R : Row} (h : R.Ok) : ∀ i, (drawI R i).1.Ok ∧ Nice 720 4096 (288 * i) i (drawI R i).2
  | 0 => ⟨h, Nice.nil _ _ _ _⟩
  | i + 1 => by
    obtain ⟨h1, h2⟩ := drawI_ok h i
    have t := turned h1
    exact ⟨t.g, next_nice t h2⟩
theorem drawn_ok {R : Row} (h : R.Ok) : (drawn R).1.Ok ∧ Nice 720 4096 1152 4 (drawn R).2 := by
  have a := Row.step_ok h (m := 5) (by decide)
  obtain ⟨h1, h2⟩ := drawI_ok a.1 (R.step 5).1.toNat
  exact ⟨h1, h2.mono (Nat.dvd_refl _) (Nat.le_refl _) (by omega) (by omega)⟩
def r_drawn (ms ds : List PyData) (d : PyData) (ms' : List PyData) : Prop := ∃ R : Row, R.Ok ∧ ms = R.ms ∧ ds = [] ∧ d = sD (drawn R).2 ∧ ms' = (drawn R).1.ms
section
variable {P : Program} {w : World} {K : PySem.W.Frag} {mg : Str → Option Value} {base : Heap}
abbrev gDr (a : Addr) (R : Row) (F : List Trm) (x2 x3 x4 : DV) : DS := ⟨[.m a, .d (sD F), x2, x3, x4], [(a, .lst R.ms)]⟩
theorem ok_law_drawn (T : Tx K mg) : FnOk P w K mg base CX0 4 T.d_law_drawn.fa T.d_law_drawn.fd P_law_drawn (MP K r_drawn) := by
  refine mp_ok T.d_law_drawn.F sc_law_drawn (fun ms ds d ms' h => ?_) fun cdv A outer s H E b a hK hfx hr ms ds d ms' h => ?_
  · obtain ⟨R, _, _, rfl, _⟩ := h
    rfl
  · obtain ⟨R, hR, rfl, rfl, rfl, rfl⟩ := h
    obtain ⟨o5, n0, n5⟩ := Row.step_ok hR (m := 5) (by decide)
    have z5 : ∀ n : Int, 0 < n → n ≤ 1000 → Sz 60 n := fun n h0 h => by unfold Sz; omega
    refine sx_cons (sy_asg (i := 1) (S1 := ⟨gStart N_law_drawn [.m a], [(a, .lst R.ms)]⟩) (ev_tup (ds := []) ea_nil lq) sc_law_drawn.nd rfl (.inl rfl) li ?_)
    refine sx_cons (sy_forR (j := 2) (n := (R.step 5).1) PassesOwn.never rfl rfl T.n_range (S1 := gDr a (R.step 5).2 [] .no .no .no) (ev_taken T hK.symm (hr.mono (by decide)) hR (by decide) (z5 _ (by decide) (by decide)) (ea_cons (S1 := gDr a R [] .no .no .no) (vn 0) (ea_cons ev_int ea_nil))) (by omega) sc_law_drawn.nd rfl (.inl rfl)
      (fun i S' => ∃ x2 x3 x4, S' = gDr a (drawI (R.step 5).2 i).1 (drawI (R.step 5).2 i).2 x2 x3 x4) ⟨_, _, _, rfl⟩ ?_ ?_)
    · rintro i S' hi ⟨x2, x3, x4, rfl⟩
      refine ⟨li, ?_⟩
      obtain ⟨hk, hF⟩ := drawI_ok o5 i
      show SX _ _ _ (gDr a (drawI (R.step 5).2 i).1 (drawI (R.step 5).2 i).2 (.d (.int (i : Int))) x3 x4) { nx := fun S' => ∃ x2 x3 x4, S' = gDr a (rG (drawI (R.step 5).2 i).1) (nextF (drawI (R.step 5).2 i).1 (drawI (R.step 5).2 i).2) x2 x3 x4, rt := _, bk := _, ct := _ }
      generalize (drawI (R.step 5).2 i).1 = Q at *
      generalize (drawI (R.step 5).2 i).2 = F at *
      have t := turned hk
      have hi4 : i ≤ 4 := by omega
      have hF4 : Nice 720 4096 1152 4 F := hF.mono (Nat.dvd_refl _) (Nat.le_refl _) (by omega) hi4
      have qF := hF4.qs (k := 20) (by decide) (by decide) (by decide)
      obtain ⟨y1, y2⟩ := t.y
      obtain ⟨z1, z2⟩ := t.z
      have ey : ((1 + yE Q).toNat : Int) = 1 + yE Q := Int.toNat_of_nonneg (by omega)
      have ez : ((1 + zG Q).toNat : Int) = 1 + zG Q := Int.toNat_of_nonneg (by omega)
      have ep : frD (red (xC Q - 9) (1 + yE Q)) = qD (partR Q) := by
        rw [← ey, red_mk _ _ (by omega)]
        rfl
      have eq : frD (red (tB Q) (1 + zG Q)) = qD (qR Q) := by
        rw [← ez, red_mk _ _ (by omega)]
        rfl
      have zs : ∀ n : Int, 0 < n → n ≤ 1000 → Sz 8000 n := fun n h0 h => (z5 n h0 h).mono (by decide)
      obtain ⟨q1, q2, q3, q4⟩ := qR_facts t
      obtain ⟨p1, p2, p3⟩ := partR_facts t
      -- top
      refine sx_cons (sy_asg (i := 3) (x := .d (.int (tB Q))) (S1 := gDr a (rB Q) F (.d (.int (i : Int))) x3 x4) (ev_taken T hK.symm (hr.mono (by decide)) t.a t.m.1 (z5 _ t.m.1 t.m.2) (ea_cons (S1 := gDr a Q F (.d (.int (i : Int))) x3 x4) (vn 0) (ea_cons (x := .d (.int (mA Q))) (S1 := gDr a (rA Q) F (.d (.int (i : Int))) x3 x4) ?_ ea_nil))) sc_law_drawn.nd rfl (.inl rfl) li ?_)
      · show EV _ _ _ _ (.d (.int (pickI Q tops))) _
        rw [← pick_data hk (by decide)]
        exact ev_pick T hK.symm (hr.mono (by decide)) hk (xs := tops.map .int) (by decide) (by decide) (ea_cons (S1 := gDr a Q F (.d (.int (i : Int))) x3 x4) (vn 0) (ea_cons (ev_lst (ds := tops.map .int) (ea_cons ev_int (ea_cons ev_int (ea_cons ev_int ea_nil))) (by decide)) ea_nil))
      -- part
      show SX _ _ _ (gDr a (rB Q) F (.d (.int (i : Int))) (.d (.int (tB Q))) x4) _
      refine sx_cons (sy_asg (i := 4) (x := .d (qD (partR Q))) (S1 := gDr a (rE Q) F (.d (.int (i : Int))) (.d (.int (tB Q))) x4) (by
        rw [← ep]
        exact ev_call (ok_law_fr T) hK.symm (hr.mono (by decide)) rfl T.d_law_fr.m T.d_law_fr.F.kp T.d_law_fr.b pass0 (ds := [.int (xC Q - 9), .int (1 + yE Q)]) (ea_cons (S1 := gDr a (rC Q) F (.d (.int (i : Int))) (.d (.int (tB Q))) x4) (ev_sub (S1 := gDr a (rC Q) F (.d (.int (i : Int))) (.d (.int (tB Q))) x4) (ev_taken T hK.symm (hr.mono (by decide)) t.b (by decide) (z5 _ (by decide) (by decide)) (ea_cons (S1 := gDr a (rB Q) F (.d (.int (i : Int))) (.d (.int (tB Q))) x4) (vn 0) (ea_cons ev_int ea_nil))) ev_int) (ea_cons (S1 := gDr a (rE Q) F (.d (.int (i : Int))) (.d (.int (tB Q))) x4) (ev_add (S1 := gDr a (rC Q) F (.d (.int (i : Int))) (.d (.int (tB Q))) x4) ev_int (ev_taken T hK.symm (hr.mono (by decide)) t.c (by decide) (z5 _ (by decide) (by decide)) (ea_cons (S1 := gDr a (rC Q) F (.d (.int (i : Int))) (.d (.int (tB Q))) x4) (vn 0) (ea_cons ev_int ea_nil)))) ea_nil)) ⟨_, _, rfl, by omega, zs _ (by omega) (by omega), rfl⟩) sc_law_drawn.nd rfl (.inl rfl) li ?_)
      -- found
      show SX _ _ _ (gDr a (rE Q) F (.d (.int (i : Int))) (.d (.int (tB Q))) (.d (qD (partR Q)))) _
      refine sx_one (sy_asg (i := 1) (x := .d (sD (nextF Q F))) (S1 := gDr a (rG Q) F (.d (.int (i : Int))) (.d (.int (tB Q))) (.d (qD (partR Q)))) (ev_call (ok_law_add T) hK.symm (hr.mono (by decide)) rfl T.d_law_add.m T.d_law_add.F.kp T.d_law_add.b pass0 (ds := [sD F, sD (rootL (qR Q)), qD (partR Q)]) (ea_cons (S1 := gDr a (rE Q) F (.d (.int (i : Int))) (.d (.int (tB Q))) (.d (qD (partR Q)))) (vn 1) (ea_cons (S1 := gDr a (rG Q) F (.d (.int (i : Int))) (.d (.int (tB Q))) (.d (qD (partR Q))))
        (ev_call (ok_law_root T) hK.symm hr rfl T.d_law_root.m T.d_law_root.F.kp T.d_law_root.b pass0 (ds := [qD (qR Q)]) (ea_cons (S1 := gDr a (rG Q) F (.d (.int (i : Int))) (.d (.int (tB Q))) (.d (qD (partR Q)))) (by
          rw [← eq]
          exact ev_call (ok_law_fr T) hK.symm (hr.mono (by decide)) rfl T.d_law_fr.m T.d_law_fr.F.kp T.d_law_fr.b pass0 (ds := [.int (tB Q), .int (1 + zG Q)]) (ea_cons (S1 := gDr a (rE Q) F (.d (.int (i : Int))) (.d (.int (tB Q))) (.d (qD (partR Q)))) (vn 3) (ea_cons (S1 := gDr a (rG Q) F (.d (.int (i : Int))) (.d (.int (tB Q))) (.d (qD (partR Q)))) (ev_add (S1 := gDr a (rE Q) F (.d (.int (i : Int))) (.d (.int (tB Q))) (.d (qD (partR Q)))) ev_int (ev_taken T hK.symm (hr.mono (by decide)) t.e (by decide) (z5 _ (by decide) (by decide)) (ea_cons (S1 := gDr a (rE Q) F (.d (.int (i : Int))) (.d (.int (tB Q))) (.d (qD (partR Q)))) (vn 0) (ea_cons ev_int ea_nil)))) ea_nil)) ⟨_, _, rfl, by omega, zs _ (by omega) (by omega), rfl⟩) ea_nil) ⟨qR Q, rfl, q1, by omega, by omega, rootL_is q1⟩) (ea_cons (vn 4) ea_nil))) ?_) sc_law_drawn.nd rfl (.inl rfl) li ?_)
      · have er : sD (rootL (qR Q)) = .tuple ((raw (rootL (qR Q))).map rD) := by rw [← sR_raw]; rfl
        have esc : scaled (raw (rootL (qR Q))) (qP (partR Q)) = TS.sc (partR Q) (rootL (qR Q)) := by
          unfold scaled raw TS.sc
          rw [List.map_map]
          refine List.map_congr_left fun t _ => ?_
          show (t.1, rv (qP t.2) * rv (qP (partR Q))) = (t.1, t.2 * partR Q)
          rw [rv_qP, rv_qP]
        have hrn := root_nice t
        have qr := hrn.qs (k := 20) (by decide) (by decide) (by decide)
        have qp : QS 20 (partR Q) := ⟨by omega, by omega⟩
        have rl := rootL_len (qR Q)
        refine ⟨F, raw (rootL (qR Q)), qP (partR Q), nextF Q F, by rw [er], hF.ca, by unfold raw; rw [List.length_map]; have := hF4.len; omega, fun u hu => (qF u hu).mono (by decide), fun u hu => ?_, (qp.mono (by decide)).fr, fun k r => ?_, cn_canon _, fun r => ?_, rfl⟩
        · obtain ⟨v, hv, rfl⟩ := List.mem_map.mp hu
          exact ((qr v hv).mono (by decide)).fr
        · rw [esc]
          refine (co_QS (k := 40) (ps := F ++ (TS.sc (partR Q) (rootL (qR Q))).take k) (fun u hu => ?_) r).mono ?_
          · rcases List.mem_append.mp hu with e | e
            · exact (qF u e).mono (by decide)
            · obtain ⟨v, hv, rfl⟩ := List.mem_map.mp (List.mem_of_mem_take e)
              exact (qr v hv).mul qp
          · have h1 : (F ++ (TS.sc (partR Q) (rootL (qR Q))).take k).length ≤ 5 := by
              rw [List.length_append, List.length_take]
              have := hF4.len
              have : (TS.sc (partR Q) (rootL (qR Q))).length ≤ 1 := by unfold TS.sc; rw [List.length_map]; exact rl
              omega
            have := Nat.mul_le_mul_right (40 + 1) h1
            omega
        · rw [esc]
          show co (cn _) r = _
          rw [cn_co, co_app]
      · exact ⟨_, _, _, rfl⟩
    · rintro S' ⟨x2, x3, x4, rfl⟩
      exact sx_one (sy_retM (S1 := gDr a (drawn R).1 (drawn R).2 x2 x3 x4) (vn 1) (List.mem_singleton.mpr rfl))
end
end K0
end
section
set_option Elab.async false
set_option linter.all false
set_option maxRecDepth 100000
set_option maxHeartbeats 4000000
set_option exponentiation.threshold 300000
namespace K0
open PySem PySem.Spec PyProof.Rows L2 DX
set_option autoImplicit false
theorem fold_lcm_dvd {D : Nat} : ∀ (l : List Trm) (a : Nat), a ∣ D → (∀ t ∈ l, t.2.den ∣ D) → l.foldl (fun a t => Nat.lcm a t.2.den) a ∣ D
  | [], _, h, _ => h
  | t :: l, a, h, hd => fold_lcm_dvd l _ (Nat.lcm_dvd h (hd t (List.mem_cons_self ..))) fun u hu => hd u (List.mem_cons_of_mem _ hu)
theorem lcms_dvd {D : Nat} {l : List Trm} (h : ∀ t ∈ l, t.2.den ∣ D) : lcms l ∣ D := fold_lcm_dvd l 1 (Nat.one_dvd _) h
theorem pz_iF (l : List Trm) : pz l = TS.iF (lcms l) l := rfl
theorem pz_sv (l : List Trm) : TS.sv (pz l) = ((lcms l : Nat) : TS.Rl) * TS.vR l := TS.iF_sv fun t ht => den_dvd_lcms ht
theorem pz_sz (l : List Trm) : TS.sz (pz l) = ((lcms l : Nat) : TS.Rl) * TS.aR l := TS.iF_sz fun t ht => den_dvd_lcms ht
open TS in
theorem Nice.sz {D R B n : Nat} {l : List Trm} (h : Nice D R B n l) (hD : 0 < D) : sz (pz l) ≤ ((D * B : Nat) : Rl) := by
  rw [pz_sz, nat_mul]
  have h1 := nat_le.mpr (Nat.le_of_dvd hD (lcms_dvd h.dn))
  have h2 := h.ar
  have h3 := aR_nn l
  have h4 := mul_nonneg (show 0 ≤ (D : Rl) - ((lcms l : Nat) : Rl) by grind) h3
  have h5 := mul_nonneg (nat_nn D) (show 0 ≤ (B : Rl) - aR l by grind)
  grind
theorem Nice.good {D R B n : Nat} {l : List Trm} (h : Nice D R B n l) (hD : 0 < D) (d60 : D < 2 ^ 60) (hn : n ≤ 8) (hb : D * B ≤ 2 ^ 222) (hR : R ≤ 2 ^ 100) : Good l := by
  have hbd : B * D < 2 ^ 1000 := by
    rw [Nat.mul_comm]
    exact Nat.lt_of_le_of_lt hb (Nat.pow_lt_pow_right (by decide) (by decide))
  have qs := h.qs hD hbd (Nat.lt_trans d60 (Nat.pow_lt_pow_right (by decide) (by decide)))
  refine ⟨Nat.lt_of_le_of_lt (Nat.le_of_dvd hD (lcms_dvd h.dn)) d60, fun t ht => ⟨Nat.lt_of_lt_of_le (h.rd t ht) hR, qs t ht⟩, ⟨fun t ht => ?_, ?_, fun t ht => ?_, ?_, Std.le_trans (h.sz hD) (TS.nat_le.mpr hb)⟩⟩
  · obtain ⟨u, hu, rfl⟩ := List.mem_map.mp ht
    exact h.sq u hu
  · exact List.pairwise_map.mpr h.ca.inc
  · obtain ⟨u, hu, rfl⟩ := List.mem_map.mp ht
    exact TS.zD_ne (lcms_pos l) (den_dvd_lcms hu) (h.ca.nz u hu)
  · rw [show (pz l).length = l.length from List.length_map _]
    have := h.len
    omega
theorem vR_ne {l : List Trm} (hc : Canon l) (hs : ∀ t ∈ l, TS.Sqf t.1) (hne : l ≠ []) : TS.vR l ≠ 0 := fun e => by
  have h1 := pz_sv l
  rw [e] at h1
  have h2 : TS.sv (pz l) = 0 := by rw [h1]; grind
  obtain ⟨t, ht⟩ := List.exists_mem_of_ne_nil l hne
  have := TS.indep (pz l) (fun u hu => by obtain ⟨v, hv, rfl⟩ := List.mem_map.mp hu; exact hs v hv) (by rw [pz_iF, TS.iF_rads]; exact hc.ndr) h2 (t.1, TS.zD (lcms l) t) (List.mem_map.mpr ⟨t, ht, rfl⟩)
  exact TS.zD_ne (lcms_pos l) (den_dvd_lcms ht) (hc.nz t ht) this
open TS in
theorem signV_ex {l : List Trm} (hc : Canon l) (hs : ∀ t ∈ l, TS.Sqf t.1) : ∃ s : Int, SignV l s := by
  by_cases hne : l = []
  · exact ⟨0, .inl ⟨hne, rfl⟩⟩
  · have h := vR_ne hc hs hne
    by_cases hp : 0 < vR l
    · exact ⟨1, .inr (.inl ⟨hne, hp, rfl⟩)⟩
    · exact ⟨-1, .inr (.inr ⟨hne, by grind, rfl⟩)⟩
open TS in
theorem SignV.is {l : List Trm} {s : Int} (h : SignV l s) : SignIs (pz l) s := by
  have L0 : (0 : Rl) < ((lcms l : Nat) : Rl) := by
    have := nat_lt.mpr (lcms_pos l)
    rw [nat_zero] at this
    exact this
  rcases h with ⟨rfl, e⟩ | ⟨_, h, e⟩ | ⟨_, h, e⟩
  · exact .inl ⟨rfl, e⟩
  · refine .inr (.inl ⟨?_, e⟩)
    rw [pz_sv]
    exact mul_pos L0 h
  · refine .inr (.inr ⟨?_, e⟩)
    rw [pz_sv]
    have := mul_pos L0 (show 0 < -vR l by grind)
    grind
/-! the part over 1 -/
abbrev off1 (l : List Trm) : List Trm := l.filter fun t => decide (t.1 ≠ 1)
theorem co_off1 (l : List Trm) (r : Nat) : co (off1 l) r = if r = 1 then 0 else co l r := by
  induction l with
  | nil => show (0 : Rat) = _; split <;> rfl
  | cons t l ih =>
    by_cases h : t.1 = 1
    · rw [show off1 (t :: l) = off1 l from List.filter_cons_of_neg (by simp [h]), ih]
      by_cases hr : r = 1
      · rw [if_pos hr, if_pos hr]
      · rw [if_neg hr, if_neg hr]
        show _ = (if t.1 = r then t.2 else 0) + co l r
        rw [if_neg (by omega), Rat.zero_add]
    · rw [show off1 (t :: l) = t :: off1 l from List.filter_cons_of_pos (by simp [h])]
      show (if t.1 = r then t.2 else 0) + co (off1 l) r = _
      rw [ih]
      by_cases hr : r = 1
      · rw [if_pos hr, if_pos hr, if_neg (by omega), Rat.zero_add]
      · rw [if_neg hr, if_neg hr]
        rfl
theorem Canon.off1 {l : List Trm} (h : Canon l) : Canon (off1 l) := ⟨List.Pairwise.sublist List.filter_sublist h.inc, fun t ht => h.nz t (List.mem_filter.mp ht).1⟩
open TS in
theorem aR_off1 (l : List Trm) : aR (off1 l) ≤ aR l := by
  induction l with
  | nil => exact Std.le_refl _
  | cons t l ih =>
    have p := mul_nonneg (show 0 ≤ ofQ (qa t.2) by have := ofQ_le (qa_nn t.2); rw [ofQ_zero] at this; exact this) (rt_nn t.1)
    by_cases h : t.1 = 1
    · rw [show off1 (t :: l) = off1 l from List.filter_cons_of_neg (by simp [h])]
      show _ ≤ ofQ (qa t.2) * rt t.1 + aR l
      grind
    · rw [show off1 (t :: l) = t :: off1 l from List.filter_cons_of_pos (by simp [h])]
      show ofQ (qa t.2) * rt t.1 + aR (off1 l) ≤ ofQ (qa t.2) * rt t.1 + aR l
      grind
open TS in
theorem apart_of {D R B n : Nat} {l : List Trm} (h : Nice D R B n l) (hD : 0 < D) (d1 : D ≤ 2 ^ 212) (d2 : D * B ≤ 2 ^ 224) (hlen : (off1 l).length ≤ 8) : Apart l := by
  intro hne Q hQ
  have hco : (co l 1).den ∣ D := den_co (by omega) h.dn 1
  have hd : ∀ t ∈ off1 l, t.2.den ∣ D := fun t ht => h.dn t (List.mem_filter.mp ht).1
  have ev : vR l = ofQ (co l 1) + vR (off1 l) := by
    have : vR l = vR ((1, co l 1) :: off1 l) := vR_same fun r => by
      show co l r = (if 1 = r then co l 1 else 0) + co (off1 l) r
      rw [co_off1]
      by_cases hr : r = 1
      · subst hr; rw [if_pos rfl, if_pos rfl, Rat.add_zero]
      · rw [if_neg hr, if_neg (by omega), Rat.zero_add]
    rw [this]
    show ofQ (co l 1) * rt 1 + vR (off1 l) = _
    rw [rt_one]; grind
  have ek : ((zD D (1, co l 1) : Int) : Rl) = (D : Rl) * ofQ (co l 1) := zD_R (t := (1, co l 1)) hco
  have eq := iF_sv hd
  have eD : (D : Rl) * vR l = ((zD D (1, co l 1) : Int) : Rl) + sv (iF D (off1 l)) := by rw [ev, ek, eq]; grind
  have D0 : (0 : Rl) < (D : Rl) := by
    have := nat_lt.mpr hD
    rw [nat_zero] at this
    exact this
  have hv := vR_ne h.ca h.sq hne
  have hF : Fine (zD D (1, co l 1)) (iF D (off1 l)) := by
    refine ⟨fun t ht => ?_, ?_, fun t ht => ?_, fun _ t ht => ?_, ?_⟩
    · obtain ⟨u, hu, rfl⟩ := List.mem_map.mp ht
      exact h.sq u (List.mem_filter.mp hu).1
    · rw [iF_rads]
      exact h.ca.off1.ndr
    · obtain ⟨u, hu, rfl⟩ := List.mem_map.mp ht
      exact zD_ne hD (hd u hu) (h.ca.nz u (List.mem_filter.mp hu).1)
    · obtain ⟨u, hu, rfl⟩ := List.mem_map.mp ht
      exact of_decide_eq_true (List.mem_filter.mp hu).2
    · refine Classical.byContradiction fun hc => ?_
      have h1 : zD D (1, co l 1) = 0 := Classical.byContradiction fun q => hc (.inl q)
      have h2 : iF D (off1 l) = [] := Classical.byContradiction fun q => hc (.inr q)
      rw [h1, h2, int_zero] at eD
      have eD : (D : Rl) * vR l = 0 + 0 := eD
      have := mul_eq_zero (a := (D : Rl)) (b := vR l) (by grind)
      rcases this with q | q
      · grind
      · exact hv q
  have hk : (((zD D (1, co l 1)).natAbs : Nat) : Rl) ≤ (D : Rl) * aR l := by
    have e1 := iF_sz (D := D) (l := [(1, co l 1)]) (fun t ht => by rw [List.mem_singleton] at ht; rw [ht]; exact hco)
    have e1 : (((zD D (1, co l 1)).natAbs : Nat) : Rl) * rt 1 + 0 = (D : Rl) * (ofQ (qa (co l 1)) * rt 1 + 0) := e1
    rw [rt_one] at e1
    have e2 : ofQ (qa (co l 1)) ≤ aR l := by
      by_cases hm : ∃ t ∈ l, t.1 = 1
      · obtain ⟨t, ht, e⟩ := hm
        have := aR_mem ht
        rw [e, rt_one] at this
        rw [← e, h.ca.co_mem ht]
        grind
      · rw [co_none fun t ht e => hm ⟨t, ht, e⟩, qa_zero, ofQ_zero]
        exact aR_nn l
    have := mul_nonneg (Std.le_of_lt D0) (show 0 ≤ aR l - ofQ (qa (co l 1)) by grind)
    grind
  have hsz : sz (iF D (off1 l)) ≤ (D : Rl) * aR l := by
    rw [iF_sz hd]
    have := mul_nonneg (Std.le_of_lt D0) (show 0 ≤ aR l - aR (off1 l) by have := aR_off1 l; grind)
    grind
  have hM : (((zD D (1, co l 1)).natAbs : Nat) : Rl) + sz (iF D (off1 l)) ≤ ((2 ^ 225 : Nat) : Rl) := by
    have a1 : (D : Rl) * aR l ≤ ((D * B : Nat) : Rl) := by
      rw [nat_mul]
      have := mul_nonneg (Std.le_of_lt D0) (show 0 ≤ (B : Rl) - aR l by have := h.ar; grind)
      grind
    have a2 := nat_le.mpr d2
    have a3 : ((2 ^ 225 : Nat) : Rl) = ((2 ^ 224 : Nat) : Rl) + ((2 ^ 224 : Nat) : Rl) := by
      rw [← nat_add]
    rw [a3]
    grind
  have hw : Ab ((Q : Rl) * (((zD D (1, co l 1) : Int) : Rl) + sv (iF D (off1 l)))) ((20 * D : Nat) : Rl) := by
    rw [← eD, nat_mul]
    have e : (Q : Rl) * ((D : Rl) * vR l) = (D : Rl) * ((Q : Rl) * vR l) := by grind
    rw [e]
    have := Ab.mul (a := (D : Rl)) (A := (D : Rl)) ⟨by grind, Std.le_refl _⟩ hQ
    have e2 : ((20 : Nat) : Rl) * (D : Rl) = (D : Rl) * ((20 : Nat) : Rl) := by grind
    rw [e2]
    exact this
  have hb := norm_bound hF (2 ^ 225) Q (20 * D) hM hw
  have hl : (iF D (off1 l)).length ≤ 8 := by
    rw [show (iF D (off1 l)).length = (off1 l).length from List.length_map _]
    exact hlen
  have hl2 : 2 ^ (iF D (off1 l)).length ≤ 2 ^ 8 := Nat.pow_le_pow_right (by decide) hl
  have h2 : (2 ^ 225) ^ (2 ^ (iF D (off1 l)).length - 1) ≤ (2 ^ 225) ^ 255 := Nat.pow_le_pow_right (by decide) (by omega)
  have h3 : 20 * D ≤ 2 ^ 217 := by
    have : 20 * D ≤ 2 ^ 5 * 2 ^ 212 := Nat.mul_le_mul (by decide) d1
    rw [← Nat.pow_add] at this
    exact this
  have h4 := Nat.le_trans hb (Nat.mul_le_mul h3 h2)
  rw [← Nat.pow_mul, ← Nat.pow_add] at h4
  exact Nat.lt_of_le_of_lt h4 (Nat.pow_lt_pow_right (by decide) (by decide))
/-! floors -/
theorem least {P : Nat → Prop} : ∀ n, P n → ∃ m, P m ∧ ∀ k, k < m → ¬ P k := by
  intro n
  induction n using Nat.strongRecOn with
  | _ n ih =>
    intro h
    by_cases hx : ∃ k, k < n ∧ P k
    · obtain ⟨k, hk, hp⟩ := hx
      exact ih k hk hp
    · exact ⟨n, h, fun k hk hp => hx ⟨k, hk, hp⟩⟩
open TS in
theorem floor_ex {x : Rl} {N : Nat} (h : Ab x (N : Rl)) : ∃ f : Int, (f : Rl) ≤ x ∧ x < ((f + 1 : Int) : Rl) ∧ f.natAbs ≤ N := by
  obtain ⟨h1, h2⟩ := h
  obtain ⟨m, hm, hl⟩ := least (P := fun k => x < ((-(N : Int) + (k : Int) + 1 : Int) : Rl)) (2 * N) (by
    have : ((N : Int) : Rl) < ((-(N : Int) + ((2 * N : Nat) : Int) + 1 : Int) : Rl) := int_lt.mpr (by omega)
    rw [int_nat] at this
    grind)
  have hm2 : m ≤ 2 * N := by
    refine Nat.le_of_not_lt fun hc => ?_
    refine hl (2 * N) hc ?_
    have : ((N : Int) : Rl) < ((-(N : Int) + ((2 * N : Nat) : Int) + 1 : Int) : Rl) := int_lt.mpr (by omega)
    rw [int_nat] at this
    grind
  refine ⟨-(N : Int) + (m : Int), ?_, hm, by omega⟩
  cases m with
  | zero =>
    have : ((-(N : Int) + ((0 : Nat) : Int) : Int) : Rl) = -(N : Rl) := by rw [show (-(N : Int) + ((0 : Nat) : Int) : Int) = -(N : Int) from by omega, int_neg, int_nat]
    rw [this]
    exact h1
  | succ m =>
    have := hl m (Nat.lt_succ_self m)
    have e : (-(N : Int) + (m : Int) + 1 : Int) = -(N : Int) + ((m + 1 : Nat) : Int) := by omega
    rw [e] at this
    grind
open TS in
theorem vR_ab (l : List Trm) : Ab (vR l) (aR l) := by
  induction l with
  | nil => exact ⟨by show -(0 : Rl) ≤ 0; grind, by show (0 : Rl) ≤ 0; grind⟩
  | cons t l ih =>
    refine Ab.add ?_ ih
    have h1 : Ab (ofQ t.2) (ofQ (qa t.2)) := by
      constructor
      · rw [← ofQ_neg]
        exact ofQ_le (by unfold qa; split <;> grind)
      · exact ofQ_le (by unfold qa; split <;> grind)
    exact h1.mul ⟨by have := rt_nn t.1; grind, Std.le_refl _⟩
open TS in
/-- the figures of a sum within bounds -/
theorem fig_ex {D R B n : Nat} {l : List Trm} (h : Nice D R B n l) (bits : Nat) : ∃ f : Int, (f : Rl) ≤ vR l * ((2 ^ bits : Nat) : Rl) ∧ vR l * ((2 ^ bits : Nat) : Rl) < ((f + 1 : Int) : Rl) ∧ f.natAbs ≤ B * 2 ^ bits ∧ FigIs (pz l) (lcms l) bits f := by
  have hx : Ab (vR l * ((2 ^ bits : Nat) : Rl)) ((B * 2 ^ bits : Nat) : Rl) := by
    rw [nat_mul]
    exact ((vR_ab l).mono h.ar).mul ⟨by have := nat_nn (2 ^ bits); grind, Std.le_refl _⟩
  obtain ⟨f, f1, f2, f3⟩ := floor_ex hx
  have L0 : (0 : Rl) < ((lcms l : Nat) : Rl) := by
    have := nat_lt.mpr (lcms_pos l)
    rw [nat_zero] at this
    exact this
  refine ⟨f, f1, f2, f3, ?_, ?_⟩
  · rw [pz_sv, int_mul, int_nat]
    have := mul_nonneg (Std.le_of_lt L0) (show 0 ≤ vR l * ((2 ^ bits : Nat) : Rl) - (f : Rl) by grind)
    grind
  · rw [pz_sv, int_mul, int_nat]
    have := mul_pos L0 (show 0 < ((f + 1 : Int) : Rl) - vR l * ((2 ^ bits : Nat) : Rl) by grind)
    grind
/-! what is a sum -/
theorem isSum_of {D R B n : Nat} {l : List Trm} (h : Nice D R B n l) (hn : n ≤ 20) (hR : R ≤ 10 ^ 15) : isSum (sD l) = true := by
  have hmap : (l.map tD).map rad0 = l.map fun t => (t.1 : Int) := by rw [List.map_map]; rfl
  show (decide ((l.map tD).length ≤ 20) && (((l.map tD).map isSumPair).all id && (risesB ((l.map tD).map rad0) && ((l.map tD).map sqfB).all id))) = true
  rw [Bool.and_eq_true, Bool.and_eq_true, Bool.and_eq_true]
  refine ⟨decide_eq_true (by rw [List.length_map]; have := h.len; omega), (all_map_id _ _).mpr fun d hd => ?_, ?_, (all_map_id _ _).mpr fun d hd => ?_⟩
  · obtain ⟨t, ht, rfl⟩ := List.mem_map.mp hd
    have r0 := (h.sq t ht).1
    have r1 := h.rd t ht
    have q0 := t.2.den_nz
    have n0 : t.2.num ≠ 0 := fun e => h.ca.nz t ht (Rat.num_eq_zero.mp e)
    have red := t.2.reduced
    show ((decide (1 ≤ (t.1 : Int)) && decide ((t.1 : Int) ≤ 10 ^ 15)) && ((decide (0 < (t.2.den : Int)) && decide (((Nat.gcd t.2.num.natAbs (t.2.den : Int).natAbs : Nat) : Int) = 1)) && !decide (t.2.num = 0))) = true
    rw [decide_eq_true (by omega), decide_eq_true (by
      have e15 : (10 : Int) ^ 15 = ((10 ^ 15 : Nat) : Int) := by decide
      rw [e15]
      omega : (t.1 : Int) ≤ 10 ^ 15), decide_eq_true (show 0 < (t.2.den : Int) by omega), decide_eq_true (show ((Nat.gcd t.2.num.natAbs (t.2.den : Int).natAbs : Nat) : Int) = 1 by rw [Int.natAbs_natCast]; exact congrArg Nat.cast red), decide_eq_false n0]
    rfl
  · rw [hmap]
    have key : ∀ m : List Trm, (m.Pairwise fun a b => a.1 < b.1) → risesB (m.map fun t => (t.1 : Int)) = true := by
      intro m
      induction m with
      | nil => intro _; rfl
      | cons a m ih =>
        intro hp
        obtain ⟨p1, p2⟩ := List.pairwise_cons.mp hp
        cases m with
        | nil => rfl
        | cons b m =>
          show (decide ((a.1 : Int) < (b.1 : Int)) && risesB ((b :: m).map fun t => (t.1 : Int))) = true
          rw [ih p2, decide_eq_true (by have := p1 b (List.mem_cons_self ..); omega)]
          rfl
    exact key l h.ca.inc
  · obtain ⟨t, ht, rfl⟩ := List.mem_map.mp hd
    unfold sqfB
    refine @decide_eq_true _ (Classical.propDecidable _) ?_
    show TS.Sqf ((t.1 : Int).toNat)
    rw [Int.toNat_natCast]
    exact h.sq t ht
end K0
end
section
set_option Elab.async false
set_option linter.all false
set_option maxRecDepth 100000
set_option maxHeartbeats 4000000
set_option exponentiation.threshold 300000
namespace K0
open PySem PySem.Spec PyProof.Rows L2 DX
set_option autoImplicit false
/-! sums of the law: the gap, and the gap with a fraction beside it -/
theorem neg1_facts : TS.qa (-1 : Rat) ≤ ((1 : Nat) : Rat) ∧ (-1 : Rat).den ∣ 1 := ⟨by decide, by decide⟩
noncomputable def negL (l : List Trm) : List Trm := cn (TS.sc (-1) l)
noncomputable def gapL (p q : List Trm) : List Trm := cn (p ++ TS.sc (-1) q)
theorem neg_nice {D R B n : Nat} {l : List Trm} (h : Nice D R B n l) (hD : D ≠ 0) : Nice D R B n (negL l) := by
  have := (h.sc (c := -1) (C := 1) (E := 1) hD (by decide) neg1_facts.1 neg1_facts.2).nice (by omega) (cn_canon _) (cn_co _)
  rw [Nat.mul_one, Nat.mul_one] at this
  exact this
theorem gap_nice {D R B n : Nat} {p q : List Trm} (h : Nice D R B n p) (g : Nice D R B n q) (hD : D ≠ 0) : Nice D R (B + B) (n + n) (gapL p q) := by
  have hs := g.sc (c := -1) (C := 1) (E := 1) hD (by decide) neg1_facts.1 neg1_facts.2
  rw [Nat.mul_one, Nat.mul_one] at hs
  exact (h.pre.app hs h.len (by unfold TS.sc; rw [List.length_map]; exact g.len)).nice hD (cn_canon _) (cn_co _)
theorem gap_co (p q : List Trm) (r : Nat) : co (gapL p q) r = co p r - co q r := by
  unfold gapL
  rw [cn_co, co_app, co_sc]
  grind
theorem vR_gap (p q : List Trm) : TS.vR (gapL p q) = TS.vR p - TS.vR q := by
  have : TS.vR (gapL p q) = TS.vR (p ++ TS.sc (-1) q) := vR_same fun r => by unfold gapL; rw [cn_co]
  rw [this, TS.vR_app, TS.vR_sc]
  have : TS.ofQ (-1) = -1 := rfl
  rw [this]
  grind
/-- a fraction beside a sum -/
structure Beside (g X : List Trm) (e v : Rat) : Prop where
  ca : Canon X
  co : ∀ r, co X r = co g r * e + if r = 1 then v else 0
theorem Beside.list {g X : List Trm} {e v : Rat} (h : Beside g X e v) : ∀ r, K0.co X r = K0.co (TS.sc e g ++ [(1, v)]) r := fun r => by
  rw [h.co, co_app, co_sc]
  show _ = _ + ((if 1 = r then v else 0) + 0)
  by_cases hr : r = 1
  · subst hr; rw [if_pos rfl, Rat.add_zero]
  · rw [if_neg hr, if_neg fun e => hr e.symm, Rat.add_zero, Rat.add_zero, Rat.add_zero]
open TS in
theorem Beside.val {g X : List Trm} {e v : Rat} (h : Beside g X e v) : vR X = ofQ e * vR g + ofQ v := by
  rw [vR_same h.list, vR_app, vR_sc]
  show _ + (ofQ v * rt 1 + 0) = _
  rw [rt_one]
  grind
open TS in
theorem Beside.nice {g X : List Trm} {e v : Rat} (h : Beside g X e v) (he : e = 1 ∨ e = -1) {bits : Nat} (hg : Nice 720 4096 2304 8 g) (hv : v.den ∣ 2 ^ bits) (hq : qa v ≤ ((4096 : Nat) : Rat)) :
    Nice (720 * 2 ^ bits) 4096 6400 9 X ∧ (off1 X).length ≤ 8 := by
  have p0 := Nat.two_pow_pos bits
  have qe : qa e ≤ ((1 : Nat) : Rat) := by rcases he with rfl | rfl <;> decide
  have de : e.den ∣ 1 := by rcases he with rfl | rfl <;> decide
  have hs := (hg.sc (c := e) (C := 1) (E := 1) (by decide) (by decide) qe de).mono (D' := 720 * 2 ^ bits) (R' := 4096) (B' := 2304) (n' := 8) (by rw [Nat.mul_one]; exact Nat.dvd_mul_right _ _) (Nat.le_refl _) (by decide) (Nat.le_refl _)
  have h1 : Pre (720 * 2 ^ bits) 4096 4096 1 [(1, v)] := by
    refine ⟨rds_len _, fun t ht => ?_, fun t ht => ?_, fun t ht => ?_, ?_⟩
    · rw [List.mem_singleton] at ht; rw [ht]; exact sqf_one
    · rw [List.mem_singleton] at ht; rw [ht]; show 1 < 4096; omega
    · rw [List.mem_singleton] at ht; rw [ht]; exact Nat.dvd_trans hv (Nat.dvd_mul_left _ _)
    · show ofQ (qa v) * rt 1 + 0 ≤ _
      rw [rt_one, natCast_def]
      have := ofQ_le hq
      grind
  have hp := hs.app h1 (by unfold TS.sc; rw [List.length_map]; exact hg.len) (Nat.le_refl _)
  refine ⟨hp.nice (Nat.mul_ne_zero (by decide) (by omega)) h.ca h.list, ?_⟩
  have c2 : Canon (TS.sc e (off1 g)) := by
    have := hg.ca.off1
    refine ⟨List.pairwise_map.mpr this.inc, fun t ht => ?_⟩
    obtain ⟨u, hu, rfl⟩ := List.mem_map.mp ht
    have hn := this.nz u hu
    show u.2 * e ≠ 0
    rcases he with rfl | rfl <;> grind
  have e2 : off1 X = TS.sc e (off1 g) := canon_ext h.ca.off1 c2 fun r => by
    rw [co_off1, co_sc, co_off1, h.co]
    by_cases hr : r = 1
    · rw [if_pos hr, if_pos hr, Rat.zero_mul]
    · rw [if_neg hr, if_neg hr, if_neg hr, Rat.add_zero]
  rw [e2]
  unfold TS.sc
  rw [List.length_map]
  exact Nat.le_trans (List.length_filter_le _ _) hg.len
theorem Beside.apart {g X : List Trm} {e v : Rat} (h : Beside g X e v) (he : e = 1 ∨ e = -1) {bits : Nat} (hb : bits ≤ 200) (hg : Nice 720 4096 2304 8 g) (hv : v.den ∣ 2 ^ bits) (hq : TS.qa v ≤ ((4096 : Nat) : Rat)) : Apart X := by
  obtain ⟨h1, h2⟩ := h.nice he hg hv hq
  have p0 := Nat.two_pow_pos bits
  have p1 : 2 ^ bits ≤ 2 ^ 200 := Nat.pow_le_pow_right (by decide) hb
  refine apart_of h1 (by omega) ?_ ?_ h2
  · have := Nat.mul_le_mul (show 720 ≤ 2 ^ 10 by decide) p1
    rw [← Nat.pow_add] at this
    exact Nat.le_trans this (Nat.pow_le_pow_right (by decide) (by decide))
  · have := Nat.mul_le_mul (Nat.mul_le_mul (show 720 ≤ 2 ^ 10 by decide) p1) (show 6400 ≤ 2 ^ 13 by decide)
    rw [← Nat.pow_add, ← Nat.pow_add] at this
    exact Nat.le_trans this (Nat.pow_le_pow_right (by decide) (by decide))
theorem Beside.qs {g X : List Trm} {e v : Rat} (h : Beside g X e v) (he : e = 1 ∨ e = -1) {bits : Nat} (hb : bits ≤ 200) (hg : Nice 720 4096 2304 8 g) (hv : v.den ∣ 2 ^ bits) (hq : TS.qa v ≤ ((4096 : Nat) : Rat)) : ∀ t ∈ X, QS 230 t.2 := by
  obtain ⟨h1, h2⟩ := h.nice he hg hv hq
  have p0 := Nat.two_pow_pos bits
  have p1 : 2 ^ bits ≤ 2 ^ 200 := Nat.pow_le_pow_right (by decide) hb
  have a := Nat.mul_le_mul (show 720 ≤ 2 ^ 10 by decide) p1
  have b := Nat.mul_le_mul (show 6400 ≤ 2 ^ 13 by decide) a
  rw [← Nat.pow_add] at a
  rw [← Nat.pow_add, ← Nat.pow_add] at b
  exact h1.qs (by omega) (Nat.lt_of_le_of_lt b (Nat.pow_lt_pow_right (by decide) (by decide))) (Nat.lt_of_le_of_lt a (Nat.pow_lt_pow_right (by decide) (by decide)))
theorem raw_ok {l : List Trm} {k : Nat} (hl : l.length ≤ 20) (hr : ∀ t ∈ l, t.1 < 2 ^ 100) (hq : ∀ t ∈ l, QS k t.2) (hk : k ≤ 1000) : SpOk (raw l) := by
  refine ⟨by unfold raw; rw [List.length_map]; exact hl, fun t ht => ?_⟩
  obtain ⟨u, hu, rfl⟩ := List.mem_map.mp ht
  exact ⟨hr u hu, ((hq u hu).mono hk).fr⟩
/-! the fraction found by 2 ^ bits -/
theorem rv_den {f : Int} {bits : Nat} : (rv (f, ((2 ^ bits : Nat) : Int))).den ∣ 2 ^ bits := by
  unfold rv
  rw [Int.toNat_natCast]
  exact den_mk _ (by have := Nat.two_pow_pos bits; omega)
open TS in
theorem rv_val {f : Int} {bits : Nat} : ofQ (rv (f, ((2 ^ bits : Nat) : Int))) * ((2 ^ bits : Nat) : Rl) = (f : Rl) := by
  have p0 := Nat.two_pow_pos bits
  rw [natCast_def, intCast_def, ← ofQ_mul]
  congr 1
  have d0 : ((2 ^ bits : Nat) : Rat) ≠ 0 := fun e => by
    have := Rat.natCast_eq_zero_iff.mp e
    omega
  unfold rv
  rw [Int.toNat_natCast, Rat.mkRat_eq_div]
  exact Rat.div_mul_cancel d0
theorem rv_small {f : Int} {bits : Nat} (h : f.natAbs ≤ 4096 * 2 ^ bits) : TS.qa (rv (f, ((2 ^ bits : Nat) : Int))) ≤ ((4096 : Nat) : Rat) := by
  have p0 := Nat.two_pow_pos bits
  have e : rv (f, ((2 ^ bits : Nat) : Int)) = (f : Rat) / ((2 ^ bits : Nat) : Rat) := by
    unfold rv
    rw [Int.toNat_natCast, Rat.mkRat_eq_div]
  have d0 : (0 : Rat) < ((2 ^ bits : Nat) : Rat) := Rat.natCast_pos.mpr p0
  have key : ∀ z : Int, z ≤ ((4096 * 2 ^ bits : Nat) : Int) → (z : Rat) / ((2 ^ bits : Nat) : Rat) ≤ ((4096 : Nat) : Rat) := fun z hz => by
    have h1 : (z : Rat) ≤ (((4096 * 2 ^ bits : Nat) : Int) : Rat) := Rat.intCast_le_intCast.mpr hz
    rw [Rat.intCast_natCast, Rat.natCast_mul] at h1
    refine Rat.le_of_mul_le_mul_right (c := ((2 ^ bits : Nat) : Rat)) ?_ d0
    rw [Rat.div_mul_cancel (by grind)]
    exact h1
  rw [e]
  unfold TS.qa
  split
  · have := key (-f) (by omega)
    have e2 : ((-f : Int) : Rat) / ((2 ^ bits : Nat) : Rat) = -((f : Rat) / ((2 ^ bits : Nat) : Rat)) := by
      rw [Rat.intCast_neg, Rat.div_def, Rat.div_def, Rat.neg_mul]
    rw [e2] at this
    exact this
  · exact key f (by omega)
/-! the two looks at the figures -/
noncomputable def X1 (g : List Trm) (x : Int × Int) : List Trm := cn (g ++ scaled (p1 x) (-1, 1))
theorem rv0 {x : Int × Int} (h : x.1 = 0) : rv x = 0 := by
  unfold rv
  rw [h]
  exact Rat.zero_mkRat _
theorem scaled_p1 (x : Int × Int) (r : Nat) : co (scaled (p1 x) (-1, 1)) r = if r = 1 then -rv x else 0 := by
  have em : rv ((-1 : Int), (1 : Int)) = -1 := rfl
  unfold p1
  by_cases h : x.1 = 0
  · rw [if_pos h, rv0 h]
    show (0 : Rat) = _
    split <;> rfl
  · rw [if_neg h]
    show (if 1 = r then rv x * rv ((-1 : Int), (1 : Int)) else 0) + 0 = _
    rw [em]
    by_cases hr : r = 1
    · rw [if_pos hr, if_pos hr.symm]; grind
    · rw [if_neg hr, if_neg fun e => hr e.symm]; grind
theorem X1_beside (g : List Trm) (x : Int × Int) : Beside g (X1 g x) 1 (-rv x) := ⟨cn_canon _, fun r => by
  unfold X1
  rw [cn_co, co_app, scaled_p1, Rat.mul_one]⟩
theorem gB_val {x : Int × Int} {g : List Trm} (r : Nat) : rv (gB x g.length g r) = co g r * (-1) + if r = 1 then rv x else 0 := by
  unfold gB
  rw [List.take_length]
  have e01 : rv ((0 : Int), (1 : Int)) = 0 := rfl
  by_cases hm : r ∈ g.map (·.1)
  · rw [if_pos hm]
    by_cases h1 : r = 1 ∧ x.1 ≠ 0
    · rw [if_pos h1, rv_qP, if_pos h1.1]; grind
    · rw [if_neg h1, rv_qP]
      by_cases hr : r = 1
      · rw [if_pos hr, rv0 (Classical.byContradiction fun z => h1 ⟨hr, z⟩)]; grind
      · rw [if_neg hr]; grind
  · rw [if_neg hm]
    have c0 : co g r = 0 := co_none fun t ht e => hm (List.mem_map.mpr ⟨t, ht, e⟩)
    rw [c0]
    by_cases h1 : r = 1 ∧ x.1 ≠ 0
    · rw [if_pos h1, if_pos h1.1]; grind
    · rw [if_neg h1, e01]
      by_cases hr : r = 1
      · rw [if_pos hr, rv0 (Classical.byContradiction fun z => h1 ⟨hr, z⟩)]; grind
      · rw [if_neg hr]; grind
theorem gB_pos {x : Int × Int} (hx : 0 < x.2) (i : Nat) (g : List Trm) (r : Nat) : 0 < (gB x i g r).2 := by
  have qp : ∀ q : Rat, (0 : Int) < (qP q).2 := fun q => by
    have := q.den_nz
    show (0 : Int) < (q.den : Int)
    omega
  unfold gB
  split
  · split
    · exact qp _
    · exact qp _
  · split
    · exact hx
    · show (0 : Int) < 1
      decide
theorem rv_zero_iff {x : Int × Int} (hx : 0 < x.2) : rv x = 0 ↔ x.1 = 0 := by
  unfold rv
  exact Rat.mkRat_eq_zero (by omega)
theorem vl_resB {x : Int × Int} (hx : 0 < x.2) (g : List Trm) : vl (resB x g) = mk (srt (rds ((1, 1) :: g))) fun r => rv (gB x g.length g r) := by
  unfold vl resB mk
  rw [List.map_map]
  have e : (fun r => decide ((gB x g.length g r).1 ≠ 0)) = fun r => decide (rv (gB x g.length g r) ≠ 0) := funext fun r => by
    have := rv_zero_iff (gB_pos hx g.length g r)
    by_cases h : (gB x g.length g r).1 = 0
    · rw [decide_eq_false (fun z => z h), decide_eq_false (fun z => z (this.mpr h))]
    · have h' : rv (gB x g.length g r) ≠ 0 := fun z => h (this.mp z)
      rw [decide_eq_true h, decide_eq_true h']
  rw [e]
  rfl
theorem resB_beside {x : Int × Int} (hx : 0 < x.2) (g : List Trm) : Beside g (vl (resB x g)) (-1) (rv x) := by
  rw [vl_resB hx]
  refine ⟨mk_canon (srt_lt (rds_nd _)), fun r => ?_⟩
  rw [mk_co (srt_lt (rds_nd _)), gB_val]
  intro r hr
  have h1 : r ≠ 1 := fun e => hr ((srt_perm _).mem_iff.mpr (by rw [e]; exact rds_mem (t := (1, 1)) (List.mem_cons_self ..)))
  have h2 : co g r = 0 := co_none fun t ht e => hr ((srt_perm _).mem_iff.mpr (by rw [← e]; exact rds_mem (List.mem_cons_of_mem _ ht)))
  rw [gB_val, h2, if_neg h1]
  grind
theorem resB_ok {x : Int × Int} (hx : Fr 500 x) {g : List Trm} {bits : Nat} (hb : bits ≤ 200) (hg : Nice 720 4096 2304 8 g) (hv : (rv x).den ∣ 2 ^ bits) (hq : TS.qa (rv x) ≤ ((4096 : Nat) : Rat)) : SpOk (resB x g) := by
  have B := resB_beside hx.1 g
  obtain ⟨hn, _⟩ := B.nice (.inr rfl) hg hv hq
  have qs := B.qs (.inr rfl) hb hg hv hq
  have hlen : (resB x g).length = (vl (resB x g)).length := by unfold vl; rw [List.length_map]
  refine ⟨by rw [hlen]; have := hn.len; omega, fun t ht => ?_⟩
  have hm : (t.1, rv t.2) ∈ vl (resB x g) := List.mem_map.mpr ⟨t, ht, rfl⟩
  have hr := hn.rd _ hm
  refine ⟨Nat.lt_of_lt_of_le hr (by decide), ?_⟩
  have hqs := qs _ hm
  obtain ⟨r, hr', rfl⟩ := List.mem_map.mp ht
  have hqs : QS 230 (rv (gB x g.length g r)) := hqs
  show Fr 1000 (gB x g.length g r)
  have key : ∀ v : Rat, gB x g.length g r = qP v → Fr 1000 (gB x g.length g r) := fun v e => by
    rw [e] at hqs ⊢
    rw [rv_qP] at hqs
    exact (hqs.mono (by decide)).fr
  have dd : gB x g.length g r = (if r ∈ (g.take g.length).map (·.1) then (if r = 1 ∧ x.1 ≠ 0 then qP (rv x + -co g r) else qP (-co g r)) else if r = 1 ∧ x.1 ≠ 0 then x else (0, 1)) := rfl
  by_cases h1 : r ∈ (g.take g.length).map (·.1)
  · rw [if_pos h1] at dd
    by_cases h2 : r = 1 ∧ x.1 ≠ 0
    · rw [if_pos h2] at dd; exact key _ dd
    · rw [if_neg h2] at dd; exact key _ dd
  · rw [if_neg h1] at dd
    by_cases h2 : r = 1 ∧ x.1 ≠ 0
    · rw [if_pos h2] at dd
      rw [dd]
      exact ⟨hx.1, hx.2.1.mono (by decide), hx.2.2.mono (by decide)⟩
    · rw [if_neg h2] at dd
      exact key 0 dd
open TS in
/-- not below -/
theorem look1 {g : List Trm} {f : Int} {bits : Nat} {s : Int} (h : (f : Rl) ≤ vR g * ((2 ^ bits : Nat) : Rl)) (hs : SignV (X1 g (f, ((2 ^ bits : Nat) : Int))) s) : ¬ s < 0 := by
  have v := (X1_beside g (f, ((2 ^ bits : Nat) : Int))).val
  have p0 : (0 : Rl) < ((2 ^ bits : Nat) : Rl) := by
    have := nat_lt.mpr (Nat.two_pow_pos bits)
    rw [nat_zero] at this
    exact this
  rcases hs with ⟨_, e⟩ | ⟨_, _, e⟩ | ⟨_, hn, e⟩
  · omega
  · omega
  · have h1 := mul_pos p0 (show 0 < -vR (X1 g (f, ((2 ^ bits : Nat) : Int))) by grind)
    rw [v, ofQ_neg, ofQ_one] at h1
    have h2 := rv_val (f := f) (bits := bits)
    exact absurd (show (0 : Rl) < 0 by grind) (by grind)
open TS in
theorem look2 {g : List Trm} {f : Int} {bits : Nat} {s : Int} (h : vR g * ((2 ^ bits : Nat) : Rl) < ((f + 1 : Int) : Rl)) (hs : SignV (vl (resB (f + 1, ((2 ^ bits : Nat) : Int)) g)) s) : ¬ s < 1 := by
  have p0 : (0 : Rl) < ((2 ^ bits : Nat) : Rl) := by
    have := nat_lt.mpr (Nat.two_pow_pos bits)
    rw [nat_zero] at this
    exact this
  have hx : (0 : Int) < ((f + 1, ((2 ^ bits : Nat) : Int)) : Int × Int).2 := by
    show (0 : Int) < ((2 ^ bits : Nat) : Int)
    have := Nat.two_pow_pos bits
    omega
  have v := (resB_beside hx g).val
  have h2 := rv_val (f := f + 1) (bits := bits)
  have hp : 0 < vR (vl (resB (f + 1, ((2 ^ bits : Nat) : Int)) g)) := by
    refine Classical.byContradiction fun hc => ?_
    have := mul_nonneg (Std.le_of_lt p0) (show 0 ≤ -vR (vl (resB (f + 1, ((2 ^ bits : Nat) : Int)) g)) by grind)
    rw [v, show ofQ (-1) = -1 from rfl] at this
    exact absurd (show (0 : Rl) < 0 by grind) (by grind)
  rcases hs with ⟨e, _⟩ | ⟨_, _, e⟩ | ⟨_, hn, e⟩
  · rw [e] at hp
    have hp : (0 : Rl) < 0 := hp
    exact absurd hp (by grind)
  · omega
  · exact absurd (show (0 : Rl) < 0 by grind) (by grind)
end K0
end
section
set_option Elab.async false
set_option linter.all false
set_option maxRecDepth 100000
set_option maxHeartbeats 4000000
set_option exponentiation.threshold 300000
namespace K0
open PySem PySem.Spec PyProof.Rows L2 DX
set_option autoImplicit false
/-! products -/
theorem rad_sqf {s t : Trm} (hs : TS.Sqf s.1) (ht : TS.Sqf t.1) : TS.Sqf (ptm s t).1 := by
  have g0 : 0 < Nat.gcd s.1 t.1 := Nat.gcd_pos_of_pos_left _ hs.1
  exact (hs.dvd (Nat.div_dvd_of_dvd (Nat.gcd_dvd_left _ _))).mul (ht.dvd (Nat.div_dvd_of_dvd (Nat.gcd_dvd_right _ _))) (Nat.coprime_div_gcd_div_gcd g0)
open TS in
theorem rad_rt {s t : Trm} (hs : 0 < s.1) : rt s.1 * rt t.1 = ((Nat.gcd s.1 t.1 : Nat) : Rl) * rt (ptm s t).1 := by
  have e1 : s.1 = Nat.gcd s.1 t.1 * (s.1 / Nat.gcd s.1 t.1) := (Nat.mul_div_cancel' (Nat.gcd_dvd_left _ _)).symm
  have e2 : t.1 = Nat.gcd s.1 t.1 * (t.1 / Nat.gcd s.1 t.1) := (Nat.mul_div_cancel' (Nat.gcd_dvd_right _ _)).symm
  have r1 : rt s.1 = rt (Nat.gcd s.1 t.1) * rt (s.1 / Nat.gcd s.1 t.1) := by rw [← rt_mul, ← e1]
  have r2 : rt t.1 = rt (Nat.gcd s.1 t.1) * rt (t.1 / Nat.gcd s.1 t.1) := by rw [← rt_mul, ← e2]
  have r3 : rt (ptm s t).1 = rt (s.1 / Nat.gcd s.1 t.1) * rt (t.1 / Nat.gcd s.1 t.1) := rt_mul _ _
  have r4 := rt_sq (Nat.gcd s.1 t.1)
  rw [r1, r2, r3, ← r4]
  grind
open TS in
theorem ptm_vR {s t : Trm} (hs : 0 < s.1) : ofQ (ptm s t).2 * rt (ptm s t).1 = ofQ s.2 * rt s.1 * (ofQ t.2 * rt t.1) := by
  have h := rad_rt (t := t) hs
  show ofQ (((Nat.gcd s.1 t.1 : Nat) : Rat) * (s.2 * t.2)) * _ = _
  rw [ofQ_mul, ofQ_mul, ← natCast_def]
  grind
open TS in
theorem ptm_aR {s t : Trm} (hs : 0 < s.1) : ofQ (qa (ptm s t).2) * rt (ptm s t).1 = ofQ (qa s.2) * rt s.1 * (ofQ (qa t.2) * rt t.1) := by
  have h := rad_rt (t := t) hs
  have hg : qa (((Nat.gcd s.1 t.1 : Nat) : Rat)) = ((Nat.gcd s.1 t.1 : Nat) : Rat) := by
    have : (0 : Rat) ≤ ((Nat.gcd s.1 t.1 : Nat) : Rat) := Rat.natCast_nonneg
    unfold qa
    rw [if_neg (by grind)]
  show ofQ (qa (((Nat.gcd s.1 t.1 : Nat) : Rat) * (s.2 * t.2))) * _ = _
  rw [qa_mul, qa_mul, hg, ofQ_mul, ofQ_mul, ← natCast_def]
  grind
open TS in
theorem row_vR {s : Trm} (hs : 0 < s.1) (q : List Trm) : vR (q.map (ptm s)) = ofQ s.2 * rt s.1 * vR q ∧ aR (q.map (ptm s)) = ofQ (qa s.2) * rt s.1 * aR q := by
  induction q with
  | nil => exact ⟨by show (0 : Rl) = _ * 0; grind, by show (0 : Rl) = _ * 0; grind⟩
  | cons t q ih =>
    constructor
    · show ofQ (ptm s t).2 * rt (ptm s t).1 + vR (q.map (ptm s)) = _ * (ofQ t.2 * rt t.1 + vR q)
      rw [ptm_vR hs, ih.1]; grind
    · show ofQ (qa (ptm s t).2) * rt (ptm s t).1 + aR (q.map (ptm s)) = _ * (ofQ (qa t.2) * rt t.1 + aR q)
      rw [ptm_aR hs, ih.2]; grind
open TS in
theorem prods_vR {p : List Trm} (hp : ∀ t ∈ p, 0 < t.1) (q : List Trm) : vR (prods p q) = vR p * vR q ∧ aR (prods p q) = aR p * aR q := by
  induction p with
  | nil => exact ⟨by show (0 : Rl) = 0 * _; grind, by show (0 : Rl) = 0 * _; grind⟩
  | cons s p ih =>
    have e : prods (s :: p) q = q.map (ptm s) ++ prods p q := by unfold prods; rw [List.flatMap_cons]
    obtain ⟨h1, h2⟩ := row_vR (hp s (List.mem_cons_self ..)) q
    obtain ⟨i1, i2⟩ := ih fun t ht => hp t (List.mem_cons_of_mem _ ht)
    constructor
    · rw [e, vR_app, h1, i1]
      show _ = (ofQ s.2 * rt s.1 + vR p) * vR q
      grind
    · rw [e, aR_app, h2, i2]
      show _ = (ofQ (qa s.2) * rt s.1 + aR p) * aR q
      grind
theorem prods_from {p q : List Trm} {u : Trm} (h : u ∈ prods p q) : ∃ s ∈ p, ∃ t ∈ q, u = ptm s t := by
  obtain ⟨s, hs, h⟩ := List.mem_flatMap.mp h
  obtain ⟨t, ht, e⟩ := List.mem_map.mp h
  exact ⟨s, hs, t, ht, e.symm⟩
theorem prods_pre {p q : List Trm} {D R B D' R' B' n n' : Nat} (h : Nice D R B n p) (g : Nice D' R' B' n' q) (hD : D ≠ 0) (hD' : D' ≠ 0) {k : Nat} (hk : (rds (prods p q)).length ≤ k) : Pre (D * D') (R * R') (B * B') k (prods p q) := by
  refine ⟨hk, fun u hu => ?_, fun u hu => ?_, fun u hu => ?_, ?_⟩
  · obtain ⟨s, hs, t, ht, rfl⟩ := prods_from hu
    exact rad_sqf (h.sq s hs) (g.sq t ht)
  · obtain ⟨s, hs, t, ht, rfl⟩ := prods_from hu
    exact Nat.lt_of_le_of_lt (Nat.mul_le_mul (Nat.div_le_self _ _) (Nat.div_le_self _ _)) (Nat.mul_lt_mul'' (h.rd s hs) (g.rd t ht))
  · obtain ⟨s, hs, t, ht, rfl⟩ := prods_from hu
    have := den_mul (p := ((Nat.gcd s.1 t.1 : Nat) : Rat)) (A := 1) (B := D * D') (by decide) (Nat.mul_ne_zero hD hD') (by rw [Rat.den_natCast]; exact Nat.dvd_refl _) (den_mul hD hD' (h.dn s hs) (g.dn t ht))
    rw [Nat.one_mul] at this
    exact this
  · rw [(prods_vR (fun t ht => (h.sq t ht).1) q).2, TS.nat_mul]
    have h1 := h.ar
    have h2 := g.ar
    have h3 := TS.aR_nn p
    have h4 := TS.aR_nn q
    have h5 := TS.mul_nonneg (show 0 ≤ (B : TS.Rl) - TS.aR p by grind) h4
    have h6 := TS.mul_nonneg (TS.nat_nn B) (show 0 ≤ (B' : TS.Rl) - TS.aR q by grind)
    grind
theorem nodup_len {xs ys : List Nat} (nd : xs.Nodup) (h : ∀ x ∈ xs, x ∈ ys) : xs.length ≤ ys.length := by
  induction xs generalizing ys with
  | nil => exact Nat.zero_le _
  | cons x xs ih =>
    obtain ⟨n1, n2⟩ := List.nodup_cons.mp nd
    have hx := h x (List.mem_cons_self ..)
    have := ih (ys := ys.erase x) n2 fun z hz => (List.mem_erase_of_ne (fun e => n1 (by rw [← e]; exact hz))).mpr (h z (List.mem_cons_of_mem _ hz))
    rw [List.length_erase_of_mem hx] at this
    have := List.length_pos_of_mem hx
    rw [List.length_cons]
    omega
def upR : List Trm → List Nat
  | [] => []
  | s :: l => (l.map fun t => (ptm s t).1) ++ upR l
theorem upR_len : ∀ {p : List Trm}, p.length ≤ 4 → (upR p).length ≤ 6
  | [], _ => by decide
  | [_], _ => lq
  | [_, _], _ => lq
  | [_, _, _], _ => lq
  | [_, _, _, _], _ => lq
  | _ :: _ :: _ :: _ :: _ :: _, h => by simp at h
theorem rad_comm (s t : Trm) : (ptm s t).1 = (ptm t s).1 := by
  show s.1 / Nat.gcd s.1 t.1 * (t.1 / Nat.gcd s.1 t.1) = t.1 / Nat.gcd t.1 s.1 * (s.1 / Nat.gcd t.1 s.1)
  rw [Nat.gcd_comm t.1 s.1, Nat.mul_comm]
theorem rad_self {s t : Trm} (h : s.1 = t.1) (h0 : 0 < s.1) : (ptm s t).1 = 1 := by
  show s.1 / Nat.gcd s.1 t.1 * (t.1 / Nat.gcd s.1 t.1) = 1
  rw [← h, Nat.gcd_self, Nat.div_self h0]
theorem upR_mem : ∀ {p : List Trm} {s t : Trm}, (∀ u ∈ p, 0 < u.1) → s ∈ p → t ∈ p → (ptm s t).1 ∈ 1 :: upR p
  | a :: p, s, t, h0, hs, ht => by
    by_cases e : s.1 = t.1
    · rw [rad_self e (h0 s hs)]; exact List.mem_cons_self ..
    · rcases List.mem_cons.mp hs with e1 | e1
      · rcases List.mem_cons.mp ht with e2 | e2
        · rw [e1, e2] at e; exact (e rfl).elim
        · rw [e1]
          exact List.mem_cons_of_mem _ (List.mem_append_left _ (List.mem_map.mpr ⟨t, e2, rfl⟩))
      · rcases List.mem_cons.mp ht with e2 | e2
        · rw [e2, rad_comm]
          exact List.mem_cons_of_mem _ (List.mem_append_left _ (List.mem_map.mpr ⟨s, e1, rfl⟩))
        · have := upR_mem (fun u hu => h0 u (List.mem_cons_of_mem _ hu)) e1 e2
          rcases List.mem_cons.mp this with q | q
          · rw [q]; exact List.mem_cons_self ..
          · exact List.mem_cons_of_mem _ (List.mem_append_right _ q)
theorem sq_rds {p : List Trm} (h0 : ∀ u ∈ p, 0 < u.1) (hl : p.length ≤ 4) : (rds (prods p p)).length ≤ 7 := by
  have := nodup_len (rds_nd (prods p p)) (ys := 1 :: upR p) fun r hr => by
    obtain ⟨u, hu, e⟩ := rds_from hr
    obtain ⟨s, hs, t, ht, e2⟩ := prods_from hu
    rw [← e, e2]
    exact upR_mem h0 hs ht
  rw [List.length_cons] at this
  have := upR_len hl
  omega
/-- drawn sums -/
abbrev Dr (l : List Trm) : Prop := Nice 720 4096 1152 4 l
theorem Dr.small {l : List Trm} (h : Dr l) : ∀ t ∈ l, 0 < t.1 ∧ t.1 < 2 ^ 20 ∧ QS 30 t.2 := fun t ht => ⟨(h.sq t ht).1, Nat.lt_of_lt_of_le (h.rd t ht) (by decide), h.qs (k := 30) (by decide) (by decide) (by decide) t ht⟩
noncomputable def mulL (p q : List Trm) : List Trm := cn (prods p q)
theorem dr_mul {p q : List Trm} (h : Dr p) (g : Dr q) : r_lmul [sD p, sD q] (sD (mulL p q)) := ⟨p, q, mulL p q, rfl, h.len, g.len, h.small, g.small, cn_canon _, cn_co _, rfl⟩
theorem dr_times {p q : List Trm} (h : Dr p) (g : Dr q) : r_sum_times [sD p, sD q] (sD (mulL p q)) := by
  have m80 : ∀ u ∈ prods p q, QS 80 u.2 := fun u hu => by
    obtain ⟨s, hs, t, ht, rfl⟩ := prods_from hu
    exact ptm_QS (h.small s hs) (g.small t ht)
  have l16 : (prods p q).length ≤ 16 := by
    rw [prods_len]
    exact Nat.mul_le_mul h.len g.len
  refine ⟨p, q, mulL p q, rfl, fun s hs => ?_, fun s hs => ?_, by omega, fun u hu => (m80 u hu).mono (by decide), fun i r => ?_, cn_canon _, cn_co _, rfl⟩
  · obtain ⟨a, b, c⟩ := h.small s hs
    exact ⟨a, Nat.lt_of_lt_of_le b (Nat.pow_le_pow_right (by decide) (by decide)), c.mono (by decide)⟩
  · obtain ⟨a, b, c⟩ := g.small s hs
    exact ⟨a, Nat.lt_of_lt_of_le b (Nat.pow_le_pow_right (by decide) (by decide)), c.mono (by decide)⟩
  · exact (co80 (fun u hu => m80 u (List.mem_of_mem_take hu)) (by rw [List.length_take]; omega) r).mono (by decide)
theorem dr_plus {p q l : List Trm} (h : Dr p) (g : Dr q) (hl : Canon l) (e : ∀ r, co l r = co p r + co q r) : r_sum_plus [sD p, sD q] (sD l) :=
  ⟨p, q, l, rfl, by have := h.len; omega, by have := g.len; omega, fun t ht => (h.small t ht).2.2.mono (by decide), fun t ht => (g.small t ht).2.2.mono (by decide), hl, e, rfl⟩
/-- the law's sum of two drawn ones, the second times c -/
theorem dr_add {p q : List Trm} {c : Int} (h : Dr p) (g : Dr q) (hc : c = 1 ∨ c = -1) : r_ladd [sD p, sD q, frD (c, 1)] (sD (cn (p ++ TS.sc (c : Rat) q))) := by
  have esc : scaled (raw q) (c, 1) = TS.sc (c : Rat) q := by
    unfold scaled raw TS.sc
    rw [List.map_map]
    refine List.map_congr_left fun t _ => ?_
    show (t.1, rv (qP t.2) * rv (c, 1)) = (t.1, t.2 * (c : Rat))
    rw [rv_qP, show ((c, 1) : Int × Int) = qP (c : Rat) from rfl, rv_qP]
  have er : sD q = .tuple ((raw q).map rD) := by rw [← sR_raw]; rfl
  have hcc : QS 10 (c : Rat) := by rcases hc with rfl | rfl <;> exact ⟨by decide, by decide⟩
  refine ⟨p, raw q, (c, 1), _, by rw [er], h.ca, by unfold raw; rw [List.length_map]; have := h.len; have := g.len; omega, fun t ht => (h.small t ht).2.2.mono (by decide), fun t ht => ?_, (hcc.mono (by decide)).fr, fun i r => ?_, cn_canon _, fun r => by rw [cn_co, co_app, esc], rfl⟩
  · obtain ⟨u, hu, rfl⟩ := List.mem_map.mp ht
    exact ((g.small u hu).2.2.mono (by decide)).fr
  · rw [esc]
    refine (co_QS (k := 40) (ps := p ++ (TS.sc (c : Rat) q).take i) (fun u hu => ?_) r).mono ?_
    · rcases List.mem_append.mp hu with e | e
      · exact (h.small u e).2.2.mono (by decide)
      · obtain ⟨v, hv, rfl⟩ := List.mem_map.mp (List.mem_of_mem_take e)
        exact (g.small v hv).2.2.mul hcc
    · have h1 : (p ++ (TS.sc (c : Rat) q).take i).length ≤ 8 := by
        rw [List.length_append, List.length_take]
        have := h.len
        have := g.len
        have : (TS.sc (c : Rat) q).length = q.length := List.length_map _
        omega
      have := Nat.mul_le_mul_right (40 + 1) h1
      omega
/-! the square -/
open TS in
theorem sq_sign {p : List Trm} (h : Dr p) : Good (mulL p p) ∧ isSum (sD (mulL p p)) = true ∧ SignIs (pz (mulL p p)) (if (p.length : Int) < 1 then (p.length : Int) else 1) := by
  have h0 : ∀ u ∈ p, 0 < u.1 := fun u hu => (h.sq u hu).1
  have hn : Nice (720 * 720) (4096 * 4096) (1152 * 1152) 7 (mulL p p) := (prods_pre h h (by decide) (by decide) (sq_rds h0 h.len)).nice (by decide) (cn_canon _) (cn_co _)
  refine ⟨hn.good (by decide) (by decide) (by decide) (by decide) (by decide), isSum_of hn (by decide) (by decide), ?_⟩
  have hv : vR (mulL p p) = vR p * vR p := by
    rw [vR_same (l := mulL p p) (m := prods p p) fun r => by unfold mulL; rw [cn_co]]
    exact (prods_vR h0 p).1
  refine SignV.is ?_
  by_cases hp : p = []
  · subst hp
    refine .inl ⟨?_, rfl⟩
    show cn [] = []
    exact cn_nil
  · have hne := vR_ne h.ca h.sq hp
    have hl : ¬ (p.length : Int) < 1 := by
      have := List.length_pos_iff.mpr hp
      omega
    rw [if_neg hl]
    have hpos : 0 < vR (mulL p p) := by
      rw [hv]
      have := mul_self_nn (vR p)
      have h2 : vR p * vR p ≠ 0 := fun e => hne (sq_zero e)
      grind
    refine .inr (.inl ⟨fun e => ?_, hpos, rfl⟩)
    rw [e] at hpos
    have hpos : (0 : Rl) < 0 := hpos
    exact absurd hpos (by grind)
/-! the root of a fraction, squared -/
def lofL (q : Rat) : List Trm := if q.num = 0 then [] else [(1, q)]
theorem lofL_data (q : Rat) : (if (qP q).1 = 0 then PyData.tuple [] else .tuple [.tuple [.int 1, frD (qP q)]]) = sD (lofL q) := by
  unfold lofL
  by_cases h : q.num = 0
  · rw [if_pos h, show (qP q).1 = 0 from h]; rfl
  · rw [if_neg h, if_neg (show ¬ (qP q).1 = 0 from h)]; rfl
theorem root_sq {q : Rat} (h0 : 0 ≤ q.num) (h1 : q.num.natAbs < 2 ^ 20) (h2 : q.den ≤ 1000) : r_sum_times [sD (rootL q), sD (rootL q)] (sD (lofL q)) ∧ isSum (sD (rootL q)) = true ∧ (rootL q).length ≤ 1 := by
  have dn := q.den_nz
  have hn : Nice q.den (2 ^ 31) 2000 1 (rootL q) := by
    refine rootL_nice h0 dn (Nat.dvd_refl _) ?_ ?_
    · have := Nat.mul_le_mul (Nat.le_of_lt h1) h2
      omega
    · have := Nat.mul_le_mul_left (2000 * 2000) (show 1 ≤ q.den by omega)
      omega
  have qs := hn.qs (k := 30) (by omega) (by omega) (by omega)
  refine ⟨?_, isSum_of hn (by decide) (by decide), rootL_len q⟩
  have mem : ∀ s ∈ rootL q, 0 < s.1 ∧ s.1 < 2 ^ 100 ∧ QS 1000 s.2 := fun s hs => ⟨(hn.sq s hs).1, Nat.lt_of_lt_of_le (hn.rd s hs) (Nat.pow_le_pow_right (by decide) (by decide)), (qs s hs).mono (by decide)⟩
  have m80 : ∀ u ∈ prods (rootL q) (rootL q), QS 100 u.2 := fun u hu => by
    obtain ⟨s, hs, t, ht, rfl⟩ := prods_from hu
    have hg : Nat.gcd s.1 t.1 < 2 ^ 31 := Nat.lt_of_le_of_lt (Nat.le_of_dvd (hn.sq s hs).1 (Nat.gcd_dvd_left _ _)) (hn.rd s hs)
    exact ((nat_QS hg (by decide)).mul ((qs s hs).mul (qs t ht))).mono (by decide)
  have l1 : (prods (rootL q) (rootL q)).length ≤ 1 := by
    rw [prods_len]
    have := Nat.mul_le_mul (rootL_len q) (rootL_len q)
    omega
  have hc : Canon (lofL q) := by
    unfold lofL
    by_cases h : q.num = 0
    · rw [if_pos h]; exact ⟨List.Pairwise.nil, fun _ h => by cases h⟩
    · rw [if_neg h]
      refine ⟨List.pairwise_singleton _ _, fun t ht => ?_⟩
      rw [List.mem_singleton] at ht
      rw [ht]
      exact fun e => h (Rat.num_eq_zero.mpr e)
  refine ⟨_, _, lofL q, rfl, mem, mem, by omega, fun u hu => (m80 u hu).mono (by decide), fun i r => ?_, hc, fun r => ?_, rfl⟩
  · refine (co_QS (fun u hu => m80 u (List.mem_of_mem_take hu)) r).mono ?_
    have : ((prods (rootL q) (rootL q)).take i).length ≤ 1 := by rw [List.length_take]; omega
    have := Nat.mul_le_mul_right (100 + 1) this
    omega
  · unfold lofL rootL
    by_cases h : 0 < q.num
    · rw [if_neg (by omega), if_pos h]
      have hp : 0 < q.num.natAbs * q.den := Nat.mul_pos (by omega) (by omega)
      obtain ⟨s1, s2⟩ := ssp_spec hp
      generalize (ssp (q.num.natAbs * q.den)).2 = rr at s1 s2
      generalize (ssp (q.num.natAbs * q.den)).1 = o at s2
      have ep : prods [(rr, mkRat (o : Int) q.den)] [(rr, mkRat (o : Int) q.den)] = [(1, q)] := by
        show [ptm (rr, mkRat (o : Int) q.den) (rr, mkRat (o : Int) q.den)] = [(1, q)]
        congr 1
        refine Prod.ext (rad_self rfl s1.1) ?_
        show ((Nat.gcd rr rr : Nat) : Rat) * (mkRat (o : Int) q.den * mkRat (o : Int) q.den) = q
        have d0 : ((q.den : Nat) : Rat) ≠ 0 := fun e => dn (Rat.natCast_eq_zero_iff.mp e)
        have e1 : mkRat (o : Int) q.den * ((q.den : Nat) : Rat) = ((o : Nat) : Rat) := by
          rw [Rat.mkRat_eq_div]
          exact Rat.div_mul_cancel d0
        have e2 := TS.num_eq q
        have e3 : ((q.num : Int) : Rat) = ((q.num.natAbs : Nat) : Rat) := by
          rw [← Rat.intCast_natCast, show ((q.num.natAbs : Nat) : Int) = q.num from by omega]
        have e4 : ((o : Nat) : Rat) * ((o : Nat) : Rat) * ((rr : Nat) : Rat) = ((q.num.natAbs : Nat) : Rat) * ((q.den : Nat) : Rat) := by
          rw [← Rat.natCast_mul, ← Rat.natCast_mul, ← Rat.natCast_mul, s2]
        rw [Nat.gcd_self]
        have e5 : ((rr : Nat) : Rat) * (mkRat (o : Int) q.den * mkRat (o : Int) q.den) * ((q.den : Nat) : Rat) * ((q.den : Nat) : Rat) = q * ((q.den : Nat) : Rat) * ((q.den : Nat) : Rat) := by
          rw [← e2, e3]
          grind
        have c1 : ∀ a b c : Rat, c ≠ 0 → a * c = b * c → a = b := fun a b c hc h => by
          have := congrArg (fun z => z / c) h
          have this : a * c / c = b * c / c := this
          rw [Rat.mul_div_cancel hc, Rat.mul_div_cancel hc] at this
          exact this
        exact c1 _ _ _ d0 (c1 _ _ _ d0 e5)
      rw [ep]
    · rw [if_pos (by omega), if_neg h]
      rfl
/-! data alike -/
theorem eqv_int (i : Int) : PyData.eqv (.int i) (.int i) = true := by simp [PyData.eqv]
theorem eqv_tD (t : Trm) : PyData.eqv (tD t) (tD t) = true := by
  simp [tD, qD, frD, PyData.eqv, PyData.eqvAll]
theorem eqv_sD (l : List Trm) : PyData.eqv (sD l) (sD l) = true := by
  have : PyData.eqvAll (l.map tD) (l.map tD) = true := by
    induction l with
    | nil => rfl
    | cons t l ih =>
      rw [List.map_cons, PyData.eqvAll, eqv_tD, ih]
      rfl
  show PyData.eqv (.tuple (l.map tD)) (.tuple (l.map tD)) = true
  rw [PyData.eqv]
  exact this
theorem sD_shaped (l : List Trm) : SeqAt.shaped (sD l) = true := by rw [← sR_raw]; exact sR_shaped _
end K0
end
section
set_option Elab.async false
set_option linter.all false
set_option maxRecDepth 100000
set_option maxHeartbeats 4000000
set_option exponentiation.threshold 300000
namespace K0
open PySem PySem.Spec PyProof.Rows L2 DX LamX
set_option autoImplicit false
/-! the def that tells errors -/
structure TxM {K : PySem.W.Frag} {mg : Str → Option Value} (T : Tx K mg) : Prop where
  ss : PySem.W.exmOne K (.ref T.c_BadSum) (.ref T.c_BadSum) = some true
  fs : PySem.W.exmOne K (.ref T.c_BadFraction) (.ref T.c_BadSum) = some false
  ff : PySem.W.exmOne K (.ref T.c_BadFraction) (.ref T.c_BadFraction) = some true
  ns : PySem.W.exmOne K (.ref T.c_BadNumber) (.ref T.c_BadSum) = some false
  nf : PySem.W.exmOne K (.ref T.c_BadNumber) (.ref T.c_BadFraction) = some false
  nn : PySem.W.exmOne K (.ref T.c_BadNumber) (.ref T.c_BadNumber) = some true
def tl3 {K : PySem.W.Frag} {mg : Str → Option Value} (T : Tx K mg) : List (Addr × Str) := [(T.c_BadSum, "BadSum"), (T.c_BadFraction, "BadFraction"), (T.c_BadNumber, "BadNumber")]
theorem told_gives {X : Cx} (T : Tx X.K X.mg) (M : TxM T) (q : Str) (cdv : Value) : GivesTo X N_law_told "_law_told" (defScope s_law_told) T.d_law_told.fa cdv (defBody s_law_told) "work" q (Tell3 (tl3 T)) := by
  intro f c' s H Q tl act hc h
  obtain ⟨Ech, hE, htl⟩ := h
  refine ⟨_, pss_cons (ps_tryA (X := (cxOf C8.CX0 X.prog X.w X.K X.mg X.base N_law_told "_law_told" (defScope s_law_told) T.d_law_told.fa cdv X.A X.stack s H C8.E0).nox)
      (tb := fun W D σ H => ∃ Ec : XK, (∀ cls d σ' H', Ec cls d H' → W cls d σ' H') ∧ σ[0]? = some (some (.ref f)) ∧ H c' = some (CodeO c' q) ∧ tl Ec H fun _ H1 => D.nx σ H1)
      rfl rfl sc_law_told.nd LamX.takes0 (fun W pn xe tk _ => ?_)
      (.cons (c := .ref T.c_BadSum) (i := 1) ⟨rfl, by decide, .inl T.m_BadSum⟩ rfl rfl (fun a pn => pss_one (ps_ret pe_str)) (.cons (c := .ref T.c_BadFraction) (i := 1) ⟨rfl, by decide, .inl T.m_BadFraction⟩ rfl rfl (fun a pn => pss_one (ps_ret pe_str)) (.cons (c := .ref T.c_BadNumber) (i := 1) ⟨rfl, by decide, .inl T.m_BadNumber⟩ rfl rfl (fun a pn => pss_one (ps_ret pe_str)) .nil)))) (pss_one (ps_ret pe_str)), ?_⟩
  · refine ⟨fun pins s' σ H' D I h' => ?_⟩
    obtain ⟨Ec, hW, h1, h2, h3⟩ := h'
    exact (pss_one (ps_expr (act W pn xe Ec _ _ tk hW))).run pins s' σ H' D I ⟨h1, h2, h3⟩
  · refine ⟨Ech, fun cls d σ' H' h1 => ?_, rfl, hc, htl _⟩
    obtain ⟨C, r, hm, rfl, hq⟩ := hE cls d H' h1
    rcases List.mem_cons.mp hm with e | hm
    · cases e
      exact ⟨true, M.ss, fun _ a _ => hq, fun z => by cases z⟩
    · rcases List.mem_cons.mp hm with e | hm
      · cases e
        exact ⟨false, M.fs, (fun z => by cases z), fun _ => ⟨true, M.ff, fun _ a _ => hq, fun z => by cases z⟩⟩
      · rw [List.mem_singleton] at hm
        cases hm
        exact ⟨false, M.ns, (fun z => by cases z), fun _ => ⟨false, M.nf, (fun z => by cases z), fun _ => ⟨true, M.nn, fun _ a _ => hq, fun z => by cases z⟩⟩⟩
end K0
end
section
set_option Elab.async false
set_option linter.all false
set_option maxRecDepth 100000
set_option maxHeartbeats 4000000
set_option exponentiation.threshold 300000
namespace DX
open PySem PySem.Spec PyProof.Rows L2 LamX
set_option autoImplicit false
/-! a def that makes lambdas: its code's table changes -/
def FT (K : PySem.W.Frag) (Pt : Addr) (q : Str) (f : List PyData → PyData → Prop) : Sp := fun vs H Q _ => ∃ (A : List Addr) (ds : List PyData) (d : PyData), Pt ∉ A ∧ (∀ c ∈ A, H c ≠ none) ∧ TabS H Pt q ∧ DpAll K (hide (A ++ [Pt]) H) vs ds ∧ f ds d ∧
  ∀ v H', (∀ c o, H c = some o → c ≠ Pt → H' c = some o) → Dp K (hide (A ++ [Pt]) H') v d → Q v H'
section
variable {P : Program} {w : World} {K : PySem.W.Frag} {mg : Str → Option Value} {base : Heap}
theorem ft_ok {x qual : Str} {st : Stmt} {fa Pt : Addr} {q : Str} {fd : FuncData} {N ps : List Str} {k : Nat} {f : List PyData → PyData → Prop} (F : Fun K x qual st fa fd) (Sc : FnScope N ps (defScope st)) (len : ∀ ds d, f ds d → ds.length = ps.length)
    (hbody : ∀ (A : Around) (outer : List Env) (s : Shared) (H : Hp) (E : XK) (b : Bs), b.K = K → Room k (A.deeper (envOfC qual (defScope st) s.heap.objs.size fa fd.code)) → ∀ ds d, f ds d →
      SX (cxOf CX0 P w K mg base N qual (defScope st) fa fd.code A outer s H E).nox b (defBody st) ⟨gStart N (ds.map .d), [(Pt, .tab q)]⟩ { nx := fun _ => d = .none, rt := fun x S' => x = .d d ∧ ∃ q', (Pt, MO.tab q') ∈ S'.m }) : FnOk P w K mg base CX0 (k + 1) fa fd ps (FT K Pt q f) := by
  obtain ⟨oc, od, kV, doc, pm, an, cdv, ct, osl, rfl, lk, hcd⟩ := F.ex
  refine fn_of lk hcd Sc (fun vs H Q E h => ?_) fun A outer s H vs Q E hr h => ?_
  · obtain ⟨A, ds, d, _, _, _, hd, hf, _⟩ := h
    rw [DpAll.len hd]
    exact len ds d hf
  · obtain ⟨A', ds, d, hP, hA, hT, hd, hf, q'⟩ := h
    refine ⟨wS _ _, (pssW _).nox, ?_⟩
    let b : Bs := ⟨K, H, [Pt], A', fun c hc => ⟨hA c hc, by simp; intro e; exact hP (e ▸ hc)⟩⟩
    have hH : ∀ (g : List DV) o, Hd b ⟨g, [(Pt, o)]⟩ = A' ++ [Pt] := fun g o => by unfold Hd DS.as; simp [b]
    have rm : RelM b ⟨[], [(Pt, .tab q)]⟩ H := by
      refine ⟨fun p hp => ?_, by simp [DS.as], fun c hc => ?_, fun c o e _ => e, fun c hc => by simpa [DS.as, b] using hc⟩
      · have : p = (Pt, MO.tab q) := by simpa using hp
        subst this
        exact hT
      · have : c = Pt := by simpa [DS.as] using hc
        subst this
        exact .inr (by simp [b])
    have r : Rel b ⟨gStart N (ds.map DV.d), [(Pt, .tab q)]⟩ (L2.start N vs) H := rel_start (by rw [hH]; exact vall_of hd) rm
    have fin : ∀ (S' : DS) (v : V) (H' : Hp), (∃ q', (Pt, MO.tab q') ∈ S'.m) → RelM b S' H' → VOk b.K (Hd b S') H' v (.d d) → Q v H' := by
      intro S' v H' ⟨q1, hm⟩ r' vo
      have sub : ∀ c ∈ A' ++ [Pt], c ∈ Hd b S' := fun c hc => by
        rcases List.mem_append.mp hc with q | q
        · exact List.mem_append.mpr (.inl q)
        · rw [List.mem_singleton] at q
          exact List.mem_append.mpr (.inr (List.mem_map.mpr ⟨_, hm, q.symm⟩))
      exact q' v H' (fun c o e ne => r'.ext c o e (by simpa [b] using ne)) (Dp.ex (hide_sub sub) vo)
    have hb := hbody A outer s H E b rfl hr ds d hf
    refine hb _ H r _ ⟨fun S' σ' H' e r' x => ?_, fun y S' v H' e vo r' x => ?_, fun _ _ _ e => e.elim, fun _ _ _ e => e.elim⟩
    · refine q' _ _ (fun c o h ne => r'.rm.ext c o h (by simpa [b] using ne)) ?_
      rw [e]
      exact .non
    · obtain ⟨rfl, hm⟩ := e
      exact fin S' v H' hm r' vo
end
section
variable {X : Cx} {b : Bs} {S S1 : DS} {D : DE} {pos : Pos}
theorem sx_vac {st : List Stmt} (h : ¬ S.as.Nodup) : SX X b st S D := fun σ H r _ _ => (h r.rm.nd).elim
theorem setm2 {g : List DV} {p a : Addr} {t o o' : MO} (h : p ≠ a) : DS.setm ⟨g, [(p, t), (a, o)]⟩ a o' = ⟨g, [(p, t), (a, o')]⟩ := by
  unfold DS.setm setM
  simp [h]
theorem passF {X : Cx} : Passes (L2.CX X.prog X.w) X (fun _ _ _ => False) := fun _ _ _ _ _ _ _ ⟨_, _, _, _, _, _, _, _, _, _, _, _, z⟩ => z.elim
def rCatS (K : PySem.W.Frag) : R2 := fun x y H Q => ∃ l b xs zs, x = .ref l ∧ y = .ref b ∧ SqL K H l xs ∧ SqL K H b zs ∧ xs.length + zs.length ≤ sizeLine ∧ ∀ p, H p = none → Q (.ref p) (upd H p (.lst (xs ++ zs)))
theorem op_catS : OpR X (binaryOp .Add) (rCatS X.K) := by
  intro pins s σ H x y v u Q I rx ry h
  obtain ⟨l, b, xs, zs, rfl, rfl, h1, h2, hz, q⟩ := h
  cases rx
  cases ry
  obtain ⟨its, r, ⟨o, n, e, c, dd, hd⟩, z⟩ := I.list h1
  obtain ⟨its2, r2, ⟨o2, n2, e2, c2, dd2, hd2⟩, z2⟩ := I.list h2
  obtain ⟨cls, dct, data, sl⟩ := o
  obtain ⟨cls2, dct2, data2, sl2⟩ := o2
  simp only at c dd hd c2 dd2 hd2
  subst c dd hd c2 dd2 hd2
  have ea : its.toArray ++ its2.toArray = (its ++ its2).toArray := by simp
  have l1 := r.length
  have l2 := r2.length
  refine concat_meets ⟨_, e, rfl⟩ ⟨_, e2, rfl⟩ noFill_list_add seq_list_add PySem.F.slot_list_add PySem.F.entry_list_add (PySem.F.args_list_add_2 _ _) (list_addW l b its.toArray its2.toArray n n2 none none sl sl2 (by rw [List.size_toArray, List.size_toArray]; omega)) ⟨e, e2, ?_⟩
  rw [ea]
  exact ⟨.ref _, _, I.lnew (t' := s.toks) (r.append r2) (by rw [List.length_append]; omega), rfl, q _ I.fresh⟩
theorem ev_catL {e1 e2 : Expr} {ds es : List PyData} (hK : X.K = b.K) (h1 : EV X b e1 S (.d (.list ds)) S1) {S2 : DS} (h2 : EV X b e2 S1 (.d (.list es)) S2) (hz : ds.length + es.length ≤ 1000) : EV X b (.BinOp e1 .Add e2 pos) S (.d (.list (ds ++ es))) S2 := by
  refine ev_op op_catS h1 h2 ?_
  intro H u v rm hu hv Q q
  cases hu with
  | lst g1 a1 =>
    rename_i c xs
    cases hv with
    | lst g2 a2 =>
      rename_i d ys
      refine ⟨c, d, xs, ys, rfl, rfl, by rw [hK]; exact ex_l hide_ex g1, by rw [hK]; exact ex_l hide_ex g2, by rw [DpAll.len a1, DpAll.len a2]; exact Nat.le_of_lt (small1000 hz), fun p hp => ?_⟩
      obtain ⟨r2, x2⟩ := rm.grow (Ex.new (o := .lst (xs ++ ys)) hp)
      exact q _ _ (.lst (.inl (.inl (hide_new (rm.fresh hp)))) (DpAll.ex x2 (DpAll.append a1 a2))) (fun σ r => (r.grow (Ex.new hp)).1) x2
end
end DX
end
section
set_option Elab.async false
set_option linter.all false
set_option maxRecDepth 100000
set_option maxHeartbeats 4000000
set_option exponentiation.threshold 300000
namespace K0
open PySem PySem.Spec PyProof.Rows L2 DX LamX
set_option autoImplicit false
/-! the law itself -/
def lawQ : Str := "law.<locals>.<lambda>"
abbrev lawDE (Pt : Addr) : DE := { nx := fun _ => PyData.bool true = .none, rt := fun x S' => x = .d (.bool true) ∧ ∃ q', (Pt, MO.tab q') ∈ S'.m }
abbrev gL (Pt a : Addr) (R : Row) (g : List DV) : DS := ⟨g, [(Pt, .tab lawQ), (a, .lst R.ms)]⟩
/-- what every part of the law's proof has at hand -/
structure LawAt (X : Cx) (b : Bs) (T : Tx X.K X.mg) (c Pt a : Addr) : Prop where
  hK : b.K = X.K
  hr : Room 45 X.A
  TE : TxE T
  TM : TxM T
  TB : TabB X.base X.mg c Pt
  code : X.env.code = .ref c
  q : lamQ X = lawQ
  N : X.N = N_law
  sc : X.env.scope = defScope s_law
  seer : X.base.NoSeer
  tree : X.prog.given.tree = none
  calm : X.calm = true
  ne : Pt ≠ a
section
variable {X : Cx} {b : Bs} {pos p : Pos} {e1 e2 : Expr} {g : List DV} {Pt a : Addr} {S0 : DS}
theorem ev_taken2 (T : Tx X.K X.mg) (hK : X.K = b.K) (hr : Room 1 X.A) (ne : Pt ≠ a) {R1 : Row} {m : Int} (hR : R1.Ok) (m0 : 0 < m) (mz : Sz 60 m) (ha : EA X b [e1, e2] S0 [.m a, .d (.int m)] (gL Pt a R1 g)) (hg : Gl X "_law_taken" := by rfl)
    (he : starEach [e1, e2] X.env = (false, eval e1 X.env) :: starEach [e2] X.env := by rfl) (hpl : (backTo pos (starEach [e2] X.env)).any (·.1) = false := by rfl) :
    EV X b (.Call (.Name "_law_taken" p) [e1, e2] [] pos) S0 (.d (.int (R1.step m).1)) (gL Pt a (R1.step m).2 g) := by
  have h := ev_callM (E := fun _ _ _ => False) (p := p) (pos := pos) (ok_law_taken T) hK hr hg T.d_law_taken.m T.d_law_taken.F.kp T.d_law_taken.b pass0 (ds := [.int m]) (ms := R1.ms) ha (List.mem_cons_of_mem _ (List.mem_singleton.mpr rfl)) ⟨R1, m, hR, rfl, rfl, m0, mz, rfl, rfl⟩ (by decide) he hpl
  rw [setm2 ne] at h
  exact h
theorem ev_pick2 (T : Tx X.K X.mg) (hK : X.K = b.K) (hr : Room 2 X.A) (ne : Pt ≠ a) {R1 : Row} {xs : List PyData} (hR : R1.Ok) (x0 : xs ≠ []) (xz : xs.length ≤ 1000) (ha : EA X b [e1, e2] S0 [.m a, .d (.list xs)] (gL Pt a R1 g)) (hg : Gl X "_law_pick" := by rfl)
    (he : starEach [e1, e2] X.env = (false, eval e1 X.env) :: starEach [e2] X.env := by rfl) (hpl : (backTo pos (starEach [e2] X.env)).any (·.1) = false := by rfl) :
    EV X b (.Call (.Name "_law_pick" p) [e1, e2] [] pos) S0 (.d (xs.getD (R1.step (xs.length : Int)).1.toNat .none)) (gL Pt a (R1.step (xs.length : Int)).2 g) := by
  have h := ev_callM (E := fun _ _ _ => False) (p := p) (pos := pos) (ok_law_pick T) hK hr hg T.d_law_pick.m T.d_law_pick.F.kp T.d_law_pick.b pass0 (ds := [.list xs]) (ms := R1.ms) ha (List.mem_cons_of_mem _ (List.mem_singleton.mpr rfl)) ⟨R1, xs, hR, rfl, rfl, x0, xz, rfl, rfl⟩ (by decide) he hpl
  rw [setm2 ne] at h
  exact h
theorem ev_drawn2 (T : Tx X.K X.mg) (hK : X.K = b.K) (hr : Room 4 X.A) (ne : Pt ≠ a) {R1 : Row} (hR : R1.Ok) (ha : EA X b [e1] S0 [.m a] (gL Pt a R1 g)) (hg : Gl X "_law_drawn" := by rfl)
    (he : starEach [e1] X.env = (false, eval e1 X.env) :: starEach [] X.env := by rfl) (hpl : (backTo pos (starEach [] X.env)).any (·.1) = false := by rfl) :
    EV X b (.Call (.Name "_law_drawn" p) [e1] [] pos) S0 (.d (sD (drawn R1).2)) (gL Pt a (drawn R1).1 g) := by
  have h := ev_callM (E := fun _ _ _ => False) (p := p) (pos := pos) (ok_law_drawn T) hK hr hg T.d_law_drawn.m T.d_law_drawn.F.kp T.d_law_drawn.b pass0 (ds := []) (ms := R1.ms) ha (List.mem_cons_of_mem _ (List.mem_singleton.mpr rfl)) ⟨R1, hR, rfl, rfl, rfl, rfl⟩ (by decide) he hpl
  rw [setm2 ne] at h
  exact h
end
theorem pick_in {R : Row} (hR : R.Ok) {xs : List PyData} (h : xs ≠ []) : xs.getD (R.step (xs.length : Int)).1.toNat .none ∈ xs := by
  have l0 : (0 : Int) < (xs.length : Int) := by
    have := List.length_pos_iff.mpr h
    omega
  obtain ⟨_, h1, h2⟩ := Row.step_ok hR l0
  have hlt : (R.step (xs.length : Int)).1.toNat < xs.length := by omega
  rw [List.getD_eq_getElem?_getD, List.getElem?_eq_getElem hlt]
  exact List.getElem_mem hlt
theorem pick_some {R : Row} (hR : R.Ok) {xs : List PyData} (h : xs ≠ []) : ∃ v R', xs.getD (R.step (xs.length : Int)).1.toNat .none = v ∧ (R.step (xs.length : Int)).2 = R' ∧ v ∈ xs ∧ R'.Ok := by
  have l0 : (0 : Int) < (xs.length : Int) := by
    have := List.length_pos_iff.mpr h
    omega
  exact ⟨_, _, rfl, rfl, pick_in hR h, (Row.step_ok hR l0).1⟩
theorem ev_pick3 {X : Cx} {b : Bs} {pos p : Pos} {e1 e2 : Expr} {g : List DV} {Pt a : Addr} {S0 : DS} (T : Tx X.K X.mg) (hK : X.K = b.K) (hr : Room 2 X.A) (ne : Pt ≠ a) {R1 R' : Row} {xs : List PyData} {v : PyData} (hR : R1.Ok) (x0 : xs ≠ []) (xz : xs.length ≤ 1000) (hv : xs.getD (R1.step (xs.length : Int)).1.toNat .none = v) (hR' : (R1.step (xs.length : Int)).2 = R') (ha : EA X b [e1, e2] S0 [.m a, .d (.list xs)] (gL Pt a R1 g)) (hg : Gl X "_law_pick" := by rfl)
    (he : starEach [e1, e2] X.env = (false, eval e1 X.env) :: starEach [e2] X.env := by rfl) (hpl : (backTo pos (starEach [e2] X.env)).any (·.1) = false := by rfl) :
    EV X b (.Call (.Name "_law_pick" p) [e1, e2] [] pos) S0 (.d v) (gL Pt a R' g) := by
  subst hv
  subst hR'
  exact ev_pick2 T hK hr ne hR x0 xz ha hg he hpl
theorem step_some {R : Row} (hR : R.Ok) {m : Int} (hm : 0 < m) : ∃ v R', (R.step m).1 = v ∧ (R.step m).2 = R' ∧ 0 ≤ v ∧ v < m ∧ R'.Ok := ⟨_, _, rfl, rfl, (Row.step_ok hR hm).2.1, (Row.step_ok hR hm).2.2, (Row.step_ok hR hm).1⟩
theorem ev_taken3 {X : Cx} {b : Bs} {pos p : Pos} {e1 e2 : Expr} {g : List DV} {Pt a : Addr} {S0 : DS} (T : Tx X.K X.mg) (hK : X.K = b.K) (hr : Room 1 X.A) (ne : Pt ≠ a) {R1 R' : Row} {m v : Int} (hR : R1.Ok) (m0 : 0 < m) (mz : Sz 60 m) (hv : (R1.step m).1 = v) (hR' : (R1.step m).2 = R') (ha : EA X b [e1, e2] S0 [.m a, .d (.int m)] (gL Pt a R1 g)) (hg : Gl X "_law_taken" := by rfl)
    (he : starEach [e1, e2] X.env = (false, eval e1 X.env) :: starEach [e2] X.env := by rfl) (hpl : (backTo pos (starEach [e2] X.env)).any (·.1) = false := by rfl) :
    EV X b (.Call (.Name "_law_taken" p) [e1, e2] [] pos) S0 (.d (.int v)) (gL Pt a R' g) := by
  subst hv
  subst hR'
  exact ev_taken2 T hK hr ne hR m0 mz ha hg he hpl
theorem ev_pick4 {X : Cx} {b : Bs} {pos p : Pos} {e1 e2 : Expr} {g : List DV} {Pt a : Addr} (T : Tx X.K X.mg) (hK : X.K = b.K) (hr : Room 2 X.A) (ne : Pt ≠ a) {R1 R' : Row} {xs : List PyData} {v : PyData} (hR : R1.Ok) (x0 : xs ≠ []) (xz : xs.length ≤ 1000) (hv : xs.getD (R1.step (xs.length : Int)).1.toNat .none = v) (hR' : (R1.step (xs.length : Int)).2 = R')
    (h1 : EV X b e1 (gL Pt a R1 g) (.m a) (gL Pt a R1 g)) (h2 : EV X b e2 (gL Pt a R1 g) (.d (.list xs)) (gL Pt a R1 g)) (hg : Gl X "_law_pick" := by rfl)
    (he : starEach [e1, e2] X.env = (false, eval e1 X.env) :: starEach [e2] X.env := by rfl) (he2 : starEach [e2] X.env = (false, eval e2 X.env) :: starEach [] X.env := by rfl) (hpl : (backTo pos (starEach [e2] X.env)).any (·.1) = false := by rfl) :
    EV X b (.Call (.Name "_law_pick" p) [e1, e2] [] pos) (gL Pt a R1 g) (.d v) (gL Pt a R' g) :=
  ev_pick3 T hK hr ne hR x0 xz hv hR' (ea_cons h1 (ea_cons h2 ea_nil he2) he) hg he hpl
theorem ev_taken4 {X : Cx} {b : Bs} {pos p : Pos} {e1 e2 : Expr} {g : List DV} {Pt a : Addr} (T : Tx X.K X.mg) (hK : X.K = b.K) (hr : Room 1 X.A) (ne : Pt ≠ a) {R1 R' : Row} {m v : Int} (hR : R1.Ok) (m0 : 0 < m) (mz : Sz 60 m) (hv : (R1.step m).1 = v) (hR' : (R1.step m).2 = R')
    (h1 : EV X b e1 (gL Pt a R1 g) (.m a) (gL Pt a R1 g)) (h2 : EV X b e2 (gL Pt a R1 g) (.d (.int m)) (gL Pt a R1 g)) (hg : Gl X "_law_taken" := by rfl)
    (he : starEach [e1, e2] X.env = (false, eval e1 X.env) :: starEach [e2] X.env := by rfl) (he2 : starEach [e2] X.env = (false, eval e2 X.env) :: starEach [] X.env := by rfl) (hpl : (backTo pos (starEach [e2] X.env)).any (·.1) = false := by rfl) :
    EV X b (.Call (.Name "_law_taken" p) [e1, e2] [] pos) (gL Pt a R1 g) (.d (.int v)) (gL Pt a R' g) :=
  ev_taken3 T hK hr ne hR m0 mz hv hR' (ea_cons h1 (ea_cons h2 ea_nil he2) he) hg he hpl
/-! what is no sum, no fraction for a root, no number of bits -/
theorem bad_pair {xs : List PyData} (h : (xs.map isSumPair).all id = false) : isSum (.tuple xs) = false := by
  show (decide (xs.length ≤ 20) && ((xs.map isSumPair).all id && _)) = false
  rw [h, Bool.false_and, Bool.and_false]
theorem bad_rise {xs : List PyData} (h : risesB (xs.map rad0) = false) : isSum (.tuple xs) = false := by
  show (decide (xs.length ≤ 20) && ((xs.map isSumPair).all id && (risesB (xs.map rad0) && _))) = false
  rw [h, Bool.false_and, Bool.and_false, Bool.and_false]
theorem bad_sq {x : PyData} (h : ¬ TS.Sqf (rad0 x).toNat) : isSum (.tuple [x]) = false := by
  have e : sqfB x = false := by
    unfold sqfB
    exact @decide_eq_false _ (Classical.propDecidable _) h
  show (decide (1 ≤ 20) && ((_ && true) && (true && (sqfB x && true)))) = false
  rw [e, Bool.false_and, Bool.and_false, Bool.and_false, Bool.and_false]
def fr (t l : Int) : PyData := .tuple [.int t, .int l]
def pr (r : Int) (f : PyData) : PyData := .tuple [.int r, f]
def odds1 : List PyData := [.none, .list [], .tuple [pr 4 (fr 1 1)], .tuple [pr 1 (fr 0 1)], .tuple [pr 2 (fr 1 1), pr 1 (fr 1 1)], .tuple [pr 0 (fr 1 1)]]
def odds2 (x : PyData) : List PyData := [x, .tuple [pr 12 (fr 1 1)], .tuple [pr 1 (fr 2 4)], .tuple [pr 2 (fr 1 (-1))], .tuple [fr 1 1], fr 1 1, .str ""]
def bads : List PyData := [.none, .int 2, fr 1 0, fr 2 4, fr (-1) 1, fr (10 ^ 9 + 1) 1, fr 1 1001, .tuple [.bool true, .int 1], .list [.int 1, .int 1]]
def wrongs : List PyData := [.none, .int (-1), .int 201, .bool true, .str "1"]
theorem not_sqf4 : ¬ TS.Sqf 4 := fun h => absurd (h.2 2 ⟨1, rfl⟩) (by decide)
theorem not_sqf12 : ¬ TS.Sqf 12 := fun h => absurd (h.2 2 ⟨3, rfl⟩) (by decide)
theorem odds1_no : ∀ x ∈ odds1, isSum x = false := by
  intro x hx
  unfold odds1 at hx
  rcases List.mem_cons.mp hx with rfl | hx
  · rfl
  rcases List.mem_cons.mp hx with rfl | hx
  · rfl
  rcases List.mem_cons.mp hx with rfl | hx
  · exact bad_sq not_sqf4
  rcases List.mem_cons.mp hx with rfl | hx
  · exact bad_pair (by decide +kernel)
  rcases List.mem_cons.mp hx with rfl | hx
  · exact bad_rise (by decide +kernel)
  rw [List.mem_singleton] at hx
  subst hx
  exact bad_pair (by decide +kernel)
theorem odds2_no {y : PyData} (hy : isSum y = false) : ∀ x ∈ odds2 y, isSum x = false := by
  intro x hx
  unfold odds2 at hx
  rcases List.mem_cons.mp hx with rfl | hx
  · exact hy
  rcases List.mem_cons.mp hx with rfl | hx
  · exact bad_sq not_sqf12
  rcases List.mem_cons.mp hx with rfl | hx
  · exact bad_pair (by decide +kernel)
  rcases List.mem_cons.mp hx with rfl | hx
  · exact bad_pair (by decide +kernel)
  rcases List.mem_cons.mp hx with rfl | hx
  · exact bad_pair (by decide +kernel)
  rcases List.mem_cons.mp hx with rfl | hx
  · exact bad_pair (by decide +kernel)
  rw [List.mem_singleton] at hx
  subst hx
  rfl
theorem bads_no : ∀ x ∈ bads, isRootArg x = false := by
  intro x hx
  unfold bads at hx
  rcases List.mem_cons.mp hx with rfl | hx
  · rfl
  rcases List.mem_cons.mp hx with rfl | hx
  · rfl
  rcases List.mem_cons.mp hx with rfl | hx
  · decide +kernel
  rcases List.mem_cons.mp hx with rfl | hx
  · decide +kernel
  rcases List.mem_cons.mp hx with rfl | hx
  · decide +kernel
  rcases List.mem_cons.mp hx with rfl | hx
  · decide +kernel
  rcases List.mem_cons.mp hx with rfl | hx
  · decide +kernel
  rcases List.mem_cons.mp hx with rfl | hx
  · rfl
  rw [List.mem_singleton] at hx
  subst hx
  rfl
theorem wrongs_no : ∀ x ∈ wrongs, isBits x = false := by
  intro x hx
  unfold wrongs at hx
  rcases List.mem_cons.mp hx with rfl | hx
  · rfl
  rcases List.mem_cons.mp hx with rfl | hx
  · decide +kernel
  rcases List.mem_cons.mp hx with rfl | hx
  · decide +kernel
  rcases List.mem_cons.mp hx with rfl | hx
  · rfl
  rw [List.mem_singleton] at hx
  subst hx
  rfl
end K0
end
section
set_option Elab.async false
set_option linter.all false
set_option maxRecDepth 100000
set_option maxHeartbeats 4000000
set_option exponentiation.threshold 300000
namespace K0
open PySem PySem.Spec PyProof.Rows L2 DX LamX
set_option autoImplicit false
section
variable {P : Program} {w : World} {K : PySem.W.Frag} {mg : Str → Option Value} {base : Heap}
abbrev XL (P : Program) (w : World) (K : PySem.W.Frag) (mg : Str → Option Value) (base : Heap) (T : Tx K mg) (A : Around) (outer : List Env) (s : Shared) (H : Hp) (E : XK) : Cx := (cxOf CX0 P w K mg base N_law "law" (defScope s_law) T.d_law.fa T.d_law.fd.code A outer s H E).nox
abbrev Xl (X : Cx) (A : Around) (outer : List Env) (s : Shared) (H : Hp) (E : XK) (scope : Scope) (f c' : Addr) : Cx := lamCx X A outer s H E scope f c'
theorem shS (x : Str) (h : PyData.strOk x = true := by decide +kernel) : SeqAt.shaped (.str x) = true := by
  show (PyData.canLay0 (.str x) && decide (PyData.depth (.str x) ≤ 64)) = true
  simp [PyData.canLay0, PyData.depth, h]
theorem eqvS (x : Str) : PyData.eqv (.str x) (.str x) = true := by simp [PyData.eqv]
theorem lawQ_is (T : Tx K mg) (A : Around) (outer : List Env) (s : Shared) (H : Hp) (E : XK) : lamQ (XL P w K mg base T A outer s H E) = lawQ := by rfl
theorem ev_fr {X : Cx} {b : Bs} {S : DS} {t l : Int} {e1 e2 : Expr} {kk : Nat} {pp : Pos} (h1 : EV X b e1 S (.d (.int t)) S) (h2 : EV X b e2 S (.d (.int l)) S) (s1 : starEach [e1, e2] X.env = (false, eval e1 X.env) :: starEach [e2] X.env := by rfl) (s2 : starEach [e2] X.env = (false, eval e2 X.env) :: starEach [] X.env := by rfl) :
    EV X b (.Tuple [e1, e2] kk pp) S (.d (fr t l)) S := ev_tup (ds := [_, _]) (ea_cons h1 (ea_cons h2 ea_nil s2) s1) lq
theorem seg18 (T : Tx K mg) (TE : TxE T) (TM : TxM T) (c Pt a : Addr) (TB : TabB base mg c Pt) (hcode : T.d_law.fd.code = .ref c) (hNS : base.NoSeer) (htr : P.given.tree = none) (ne : Pt ≠ a) (A : Around) (outer : List Env) (s : Shared) (H : Hp) (E : XK) (b : Bs) (hK : b.K = K)
    (hr : Room 45 (XL P w K mg base T A outer s H E).A) (R : Row) (hR : R.Ok) (f : List Trm) (hf : Dr f) (odd : PyData) (hodd : isSum odd = false) (x0 x2 x3 x4 x6 x7 x8 x9 x10 x11 x13 x14 x15 : DV) :
    SX (XL P w K mg base T A outer s H E) b ((defBody s_law).drop 18) (gL Pt a R [x0, .m a, x2, x3, x4, .d (sD f), x6, x7, x8, x9, x10, x11, .d odd, x13, x14, x15]) (lawDE Pt) := by
  have hsf : isSum (sD f) = true := isSum_of hf (by decide) (by decide)
  have hin : ∀ {R g}, (Pt, MO.tab (lamQ (XL P w K mg base T A outer s H E))) ∈ (gL Pt a R g).m := List.mem_cons_self ..
  have nf : ∀ {X : Cx}, X.prog = P → True := fun _ => trivial
  refine sx_cons (sy_if (t := !PyData.eqv (.str "BadSum") (.str "BadSum") || !PyData.eqv (.str "BadSum") (.str "BadSum")) (et_w (ew_or (et_ne hK.symm (Nat.lt_of_le_of_lt (Nat.le_refl _) hr.units) (ev_tell (l := tl3 T) (C := T.c_BadSum) (r := "BadSum") (k := 43) (P := Pt) hin T.d_law_told.m T.d_law_told.F T.d_law_told.b sc_law_told rfl (.inl rfl) (told_gives (X := XL P w K mg base T A outer s H E) T TM _) (lamMk0 TB hcode (lamA_by (N := N_law) (sc := defScope s_law) (by decide +kernel)) rfl fun _ _ _ _ _ => rfl) hr (lamA_by (N := N_law) (sc := defScope s_law) (by decide +kernel)) (List.mem_cons_self ..) ?_) ev_str (shS _) (shS _)) fun _ => et_or1 (et_ne hK.symm (Nat.lt_of_le_of_lt (Nat.le_refl _) hr.units) (ev_tell (l := tl3 T) (C := T.c_BadSum) (r := "BadSum") (k := 43) (P := Pt) hin T.d_law_told.m T.d_law_told.F T.d_law_told.b sc_law_told rfl (.inl rfl) (told_gives (X := XL P w K mg base T A outer s H E) T TM _) (lamMk1 TB hcode (lamA_by (N := N_law) (sc := defScope s_law) (by decide +kernel)) rfl rfl rfl fun _ _ _ _ _ _ => ⟨_, rfl, fun _ => rfl⟩) hr (lamA_by (N := N_law) (sc := defScope s_law) (by decide +kernel)) (List.mem_cons_self ..) ?_) ev_str (shS _) (shS _)))) (fun h => by rw [eqvS] at h; cases h) fun _ => sx_nil ?_)
  · intro σ H1 E1 rl hE Q A1 outer1 s1 H2 f1 c1 hr1
    exact wE_err (X := lamCx (XL P w K mg base T A outer s H E) A1 outer1 s1 H2 E1 _ f1 c1) (ok_plus T TE) hK.symm (hr1.mono (by decide)) T.d_plus.m T.d_plus.F.kp T.d_plus.b (passes_call (takes_of rfl rfl rfl rfl) fun _ _ _ _ h => h) (ds := [odd, sD f]) (ea_cons (vn 12) (ea_cons (vn 5) ea_nil)) ⟨_, _, rfl, .inl ⟨hodd, rfl⟩⟩ rl hE
  · intro σ H1 E1 rl hE Q A1 outer1 s1 H2 f1 c1 hr1
    exact wE_err (X := lamCx (XL P w K mg base T A outer s H E) A1 outer1 s1 H2 E1 _ f1 c1) (ok_sign T TE hNS htr) hK.symm hr1 T.d_sign.m T.d_sign.F.kp T.d_sign.b (passes_call (takes_of rfl rfl rfl rfl) fun _ _ _ _ h => h) (ds := [odd]) (ea_cons (vn 12) ea_nil) ⟨_, rfl, .inl ⟨hodd, rfl⟩⟩ rl hE
  · obtain ⟨bad, R1, v1, q1, m1, o1⟩ := pick_some hR (xs := bads) (by decide)
    have hbad := bads_no _ m1
    refine sx_cons (sy_asg (i := 13) (x := .d bad) (S1 := gL Pt a R1 [x0, .m a, x2, x3, x4, .d (sD f), x6, x7, x8, x9, x10, x11, .d odd, x13, x14, x15]) (ev_pick4 T hK.symm (hr.mono (by decide)) ne hR (xs := bads) (by decide) (by decide) v1 q1 (vn 1) (by exact ev_lst (ds := bads) (ea_cons ev_non (ea_cons ev_int (ea_cons (ev_fr ev_int ev_int) (ea_cons (ev_fr ev_int ev_int) (ea_cons (ev_fr (ev_neg ev_int) ev_int) (ea_cons (ev_fr (ev_add (ev_pow ev_int ev_int ⟨by decide, by decide, by decide⟩) ev_int) ev_int) (ea_cons (ev_fr ev_int ev_int) (ea_cons (ev_tup (ds := [.bool true, .int 1]) (ea_cons ev_bl (ea_cons ev_int ea_nil)) lq) (ea_cons (ev_lst (ds := [.int 1, .int 1]) (ea_cons ev_int (ea_cons ev_int ea_nil)) lq) ea_nil))))))))) lq)) sc_law.nd rfl (.inr rfl) li ?_)
    show SX _ _ _ (gL Pt a R1 [x0, .m a, x2, x3, x4, .d (sD f), x6, x7, x8, x9, x10, x11, .d odd, .d bad, x14, x15]) _
    obtain ⟨wrong, R2, v2, q2, m2, o2⟩ := pick_some o1 (xs := wrongs) (by decide)
    have hwr := wrongs_no _ m2
    refine sx_cons (sy_asg (i := 14) (x := .d wrong) (S1 := gL Pt a R2 [x0, .m a, x2, x3, x4, .d (sD f), x6, x7, x8, x9, x10, x11, .d odd, .d bad, x14, x15]) (ev_pick4 T hK.symm (hr.mono (by decide)) ne o1 (xs := wrongs) (by decide) (by decide) v2 q2 (vn 1) (by exact ev_lst (ds := wrongs) (ea_cons ev_non (ea_cons (ev_neg ev_int) (ea_cons ev_int (ea_cons ev_bl (ea_cons ev_str ea_nil))))) lq)) sc_law.nd rfl (.inr rfl) li ?_)
    show SX _ _ _ (gL Pt a R2 [x0, .m a, x2, x3, x4, .d (sD f), x6, x7, x8, x9, x10, x11, .d odd, .d bad, .d wrong, x15]) _
    refine sx_cons (sy_asg (i := 15) (S1 := gL Pt a R2 [x0, .m a, x2, x3, x4, .d (sD f), x6, x7, x8, x9, x10, x11, .d odd, .d bad, .d wrong, x15]) (x := .d (.list [.str "BadFraction", .str "BadSum"])) (ev_lst (ds := [.str "BadFraction", .str "BadSum"]) (ea_cons (ev_tell (l := tl3 T) (C := T.c_BadFraction) (r := "BadFraction") (k := 43) (P := Pt) hin T.d_law_told.m T.d_law_told.F T.d_law_told.b sc_law_told rfl (.inl rfl) (told_gives (X := XL P w K mg base T A outer s H E) T TM _) (lamMk1 TB hcode (lamA_by (N := N_law) (sc := defScope s_law) (by decide +kernel)) rfl rfl rfl fun _ _ _ _ _ _ => ⟨_, rfl, fun _ => rfl⟩) hr (lamA_by (N := N_law) (sc := defScope s_law) (by decide +kernel)) (List.mem_cons_of_mem _ (List.mem_cons_self ..)) (fun σ H1 E1 rl hE Q A1 outer1 s1 H2 f1 c1 hr1 => wE_err (X := lamCx (XL P w K mg base T A outer s H E) A1 outer1 s1 H2 E1 _ f1 c1) (ok_root T TE) hK.symm (hr1.mono (by decide)) T.d_root.m T.d_root.F.kp T.d_root.b (passes_call (takes_of rfl rfl rfl rfl) fun _ _ _ _ h => h) (ds := [bad]) (ea_cons (vn 13) ea_nil) ⟨_, rfl, .inl ⟨hbad, rfl⟩⟩ rl hE)) (ea_cons (ev_tell (l := tl3 T) (C := T.c_BadSum) (r := "BadSum") (k := 43) (P := Pt) hin T.d_law_told.m T.d_law_told.F T.d_law_told.b sc_law_told rfl (.inl rfl) (told_gives (X := XL P w K mg base T A outer s H E) T TM _) (lamMk1 TB hcode (lamA_by (N := N_law) (sc := defScope s_law) (by decide +kernel)) rfl rfl rfl fun _ _ _ _ _ _ => ⟨_, rfl, fun _ => rfl⟩) hr (lamA_by (N := N_law) (sc := defScope s_law) (by decide +kernel)) (List.mem_cons_self ..) (fun σ H1 E1 rl hE Q A1 outer1 s1 H2 f1 c1 hr1 => wE_err (X := lamCx (XL P w K mg base T A outer s H E) A1 outer1 s1 H2 E1 _ f1 c1) (ok_times T TE) hK.symm (hr1.mono (by decide)) T.d_times.m T.d_times.F.kp T.d_times.b (passes_call (takes_of rfl rfl rfl rfl) fun _ _ _ _ h => h) (ds := [sD f, odd]) (ea_cons (vn 5) (ea_cons (vn 12) ea_nil)) ⟨_, _, rfl, .inr (.inl ⟨hsf, hodd, rfl⟩)⟩ rl hE)) ea_nil)) lq) sc_law.nd rfl (.inl rfl) li ?_)
    show SX _ _ _ (gL Pt a R2 [x0, .m a, x2, x3, x4, .d (sD f), x6, x7, x8, x9, x10, x11, .d odd, .d bad, .d wrong, .d (.list [.str "BadFraction", .str "BadSum"])]) _
    refine sx_cons (sy_asg (i := 15) (S1 := gL Pt a R2 [x0, .m a, x2, x3, x4, .d (sD f), x6, x7, x8, x9, x10, x11, .d odd, .d bad, .d wrong, .d (.list [.str "BadFraction", .str "BadSum"])]) (x := .d (.list ([.str "BadFraction", .str "BadSum"] ++ [.str "BadSum", .str "BadNumber"]))) (ev_catL hK.symm (vn 15) (ev_lst (ds := [.str "BadSum", .str "BadNumber"]) (ea_cons (ev_tell (l := tl3 T) (C := T.c_BadSum) (r := "BadSum") (k := 43) (P := Pt) hin T.d_law_told.m T.d_law_told.F T.d_law_told.b sc_law_told rfl (.inl rfl) (told_gives (X := XL P w K mg base T A outer s H E) T TM _) (lamMk1 TB hcode (lamA_by (N := N_law) (sc := defScope s_law) (by decide +kernel)) rfl rfl rfl fun _ _ _ _ _ _ => ⟨_, rfl, fun _ => rfl⟩) hr (lamA_by (N := N_law) (sc := defScope s_law) (by decide +kernel)) (List.mem_cons_self ..) (fun σ H1 E1 rl hE Q A1 outer1 s1 H2 f1 c1 hr1 => wE_err (X := lamCx (XL P w K mg base T A outer s H E) A1 outer1 s1 H2 E1 _ f1 c1) (ok_figures T TE hNS htr) hK.symm hr1 T.d_figures.m T.d_figures.F.kp T.d_figures.b (passes_call (takes_of rfl rfl rfl rfl) fun _ _ _ _ h => h) (ds := [odd, wrong]) (ea_cons (vn 12) (ea_cons (vn 14) ea_nil)) ⟨_, _, rfl, .inl ⟨hodd, rfl⟩⟩ rl hE)) (ea_cons (ev_tell (l := tl3 T) (C := T.c_BadNumber) (r := "BadNumber") (k := 43) (P := Pt) hin T.d_law_told.m T.d_law_told.F T.d_law_told.b sc_law_told rfl (.inl rfl) (told_gives (X := XL P w K mg base T A outer s H E) T TM _) (lamMk1 TB hcode (lamA_by (N := N_law) (sc := defScope s_law) (by decide +kernel)) rfl rfl rfl fun _ _ _ _ _ _ => ⟨_, rfl, fun _ => rfl⟩) hr (lamA_by (N := N_law) (sc := defScope s_law) (by decide +kernel)) (List.mem_cons_of_mem _ (List.mem_cons_of_mem _ (List.mem_cons_self ..))) (fun σ H1 E1 rl hE Q A1 outer1 s1 H2 f1 c1 hr1 => wE_err (X := lamCx (XL P w K mg base T A outer s H E) A1 outer1 s1 H2 E1 _ f1 c1) (ok_figures T TE hNS htr) hK.symm hr1 T.d_figures.m T.d_figures.F.kp T.d_figures.b (passes_call (takes_of rfl rfl rfl rfl) fun _ _ _ _ h => h) (ds := [sD f, wrong]) (ea_cons (vn 5) (ea_cons (vn 14) ea_nil)) ⟨_, _, rfl, .inr (.inl ⟨hsf, hwr, rfl⟩)⟩ rl hE)) ea_nil)) lq) (by decide)) sc_law.nd rfl (.inl rfl) li ?_)
    show SX _ _ _ (gL Pt a R2 [x0, .m a, x2, x3, x4, .d (sD f), x6, x7, x8, x9, x10, x11, .d odd, .d bad, .d wrong, .d (.list [.str "BadFraction", .str "BadSum", .str "BadSum", .str "BadNumber"])]) _
    refine sx_one (sy_ret (S1 := gL Pt a R2 [x0, .m a, x2, x3, x4, .d (sD f), x6, x7, x8, x9, x10, x11, .d odd, .d bad, .d wrong, .d (.list [.str "BadFraction", .str "BadSum", .str "BadSum", .str "BadNumber"])]) (ev_eq hK.symm (Nat.lt_of_le_of_lt (Nat.le_refl _) hr.units) (vn 15) (ev_lst (ds := [.str "BadFraction", .str "BadSum", .str "BadSum", .str "BadNumber"]) (ea_cons ev_str (ea_cons ev_str (ea_cons ev_str (ea_cons ev_str ea_nil)))) lq) (by decide +kernel) (by decide +kernel)) ⟨?_, lawQ, List.mem_cons_self ..⟩)
    show DV.d (.bool _) = .d (.bool true)
    simp [PyData.eqv, PyData.eqvAll]
end
end K0
end
section
set_option Elab.async false
set_option linter.all false
set_option maxRecDepth 100000
set_option maxHeartbeats 4000000
set_option exponentiation.threshold 300000
namespace K0
open PySem PySem.Spec PyProof.Rows L2 DX LamX
set_option autoImplicit false
section
variable {P : Program} {w : World} {K : PySem.W.Frag} {mg : Str → Option Value} {base : Heap}
theorem st_T {es rest : List Expr} {k : Nat} {p : Pos} {env : Env} : starEach (.Tuple es k p :: rest) env = (false, eval (.Tuple es k p) env) :: starEach rest env := by rfl
theorem st_L {es rest : List Expr} {p : Pos} {env : Env} : starEach (.List es p :: rest) env = (false, eval (.List es p) env) :: starEach rest env := by rfl
theorem st_N {n : Str} {rest : List Expr} {p : Pos} {env : Env} : starEach (.Name n p :: rest) env = (false, eval (.Name n p) env) :: starEach rest env := by rfl
theorem hpl_L {es : List Expr} {p pos : Pos} {env : Env} : (backTo pos (starEach [.List es p] env)).any (·.1) = false := by rfl
theorem ev_pr {X : Cx} {b : Bs} {S : DS} {r : Int} {f : PyData} {e1 e2 : Expr} {kk : Nat} {pp : Pos} (h1 : EV X b e1 S (.d (.int r)) S) (h2 : EV X b e2 S (.d f) S) (s1 : starEach [e1, e2] X.env = (false, eval e1 X.env) :: starEach [e2] X.env := by rfl) (s2 : starEach [e2] X.env = (false, eval e2 X.env) :: starEach [] X.env := by rfl) :
    EV X b (.Tuple [e1, e2] kk pp) S (.d (pr r f)) S := ev_tup (ds := [_, _]) (ea_cons h1 (ea_cons h2 ea_nil s2) s1) lq
theorem ev_t1 {X : Cx} {b : Bs} {S : DS} {f : PyData} {e1 : Expr} {kk : Nat} {pp : Pos} (h1 : EV X b e1 S (.d f) S) (s1 : starEach [e1] X.env = (false, eval e1 X.env) :: starEach [] X.env := by rfl) :
    EV X b (.Tuple [e1] kk pp) S (.d (.tuple [f])) S := ev_tup (ds := [_]) (ea_cons h1 ea_nil s1) lq
mutual
inductive Lit : Expr → PyData → Prop
  | int (i : Int) (j : Nat) (p : Pos) : Lit (.Constant (.int i) j p) (.int i)
  | non (j : Nat) (p : Pos) : Lit (.Constant .none j p) .none
  | str (c : Str) (j : Nat) (p : Pos) : Lit (.Constant (.str c) j p) (.str c)
  | neg (i : Int) (j : Nat) (p q : Pos) : Lit (.UnaryOp .USub (.Constant (.int i) j p) q) (.int (-i))
  | tup {es : List Expr} {ds : List PyData} (k : Nat) (p : Pos) : LitAll es ds → ds.length ≤ 1000 → Lit (.Tuple es k p) (.tuple ds)
  | lst {es : List Expr} {ds : List PyData} (p : Pos) : LitAll es ds → ds.length ≤ 1000 → Lit (.List es p) (.list ds)
inductive LitAll : List Expr → List PyData → Prop
  | nil : LitAll [] []
  | cons {e : Expr} {d : PyData} {es : List Expr} {ds : List PyData} : Lit e d → LitAll es ds → LitAll (e :: es) (d :: ds)
end
theorem Lit.star {e : Expr} {d : PyData} {rest : List Expr} {env : Env} (h : Lit e d) : starEach (e :: rest) env = (false, eval e env) :: starEach rest env := by
  cases h <;> rfl
mutual
theorem Lit.ev {X : Cx} {b : Bs} {S : DS} : ∀ {e : Expr} {d : PyData}, Lit e d → EV X b e S (.d d) S
  | _, _, .int _ _ _ => ev_int
  | _, _, .non _ _ => ev_non
  | _, _, .str _ _ _ => ev_str
  | _, _, .neg _ _ _ _ => ev_neg ev_int
  | _, _, .tup _ _ h z => ev_tup (LitAll.ea h) z
  | _, _, .lst _ h z => ev_lst (LitAll.ea h) z
theorem LitAll.ea {X : Cx} {b : Bs} {S : DS} : ∀ {es : List Expr} {ds : List PyData}, LitAll es ds → EA X b es S (ds.map .d) S
  | _, _, .nil => ea_nil
  | _, _, .cons h hs => ea_cons (Lit.ev h) (LitAll.ea hs) h.star
end
theorem EA.head {X : Cx} {b : Bs} {S : DS} {e : Expr} {es : List Expr} {x : PyData} (h : EV X b e S (.d x) S) (hs : EA X b es S ([PyData.tuple [pr 12 (fr 1 1)], .tuple [pr 1 (fr 2 4)], .tuple [pr 2 (fr 1 (-1))], .tuple [fr 1 1], fr 1 1, .str ""].map .d) S) (he : starEach (e :: es) X.env = (false, eval e X.env) :: starEach es X.env) : EA X b (e :: es) S ((odds2 x).map .d) S := ea_cons h hs he
theorem seg16 (T : Tx K mg) (TE : TxE T) (TM : TxM T) (c Pt a : Addr) (TB : TabB base mg c Pt) (hcode : T.d_law.fd.code = .ref c) (hNS : base.NoSeer) (htr : P.given.tree = none) (ne : Pt ≠ a) (A : Around) (outer : List Env) (s : Shared) (H : Hp) (E : XK) (b : Bs) (hK : b.K = K)
    (hr : Room 45 (XL P w K mg base T A outer s H E).A) (R : Row) (hR : R.Ok) (f : List Trm) (hf : Dr f) (x0 x2 x3 x4 x6 x7 x8 x9 x10 x11 x12 x13 x14 x15 : DV) :
    SX (XL P w K mg base T A outer s H E) b ((defBody s_law).drop 16) (gL Pt a R [x0, .m a, x2, x3, x4, .d (sD f), x6, x7, x8, x9, x10, x11, x12, x13, x14, x15]) (lawDE Pt) := by
  obtain ⟨odd, R1, v1, q1, m1, o1⟩ := pick_some hR (xs := odds1) (by decide)
  have h1 := odds1_no _ m1
  refine sx_cons (sy_asg (i := 12) (x := .d odd) (S1 := gL Pt a R1 [x0, .m a, x2, x3, x4, .d (sD f), x6, x7, x8, x9, x10, x11, x12, x13, x14, x15]) (ev_pick4 T hK.symm (hr.mono (by decide)) ne hR (xs := odds1) (by decide) (by decide) v1 q1 (vn 1) ?_ (by rfl) st_N st_L hpl_L) sc_law.nd rfl (.inr rfl) li ?_)
  · refine Lit.ev (d := .list odds1) ?_
    unfold odds1 pr fr
    repeat' (first | constructor | decide)
  show SX _ _ _ (gL Pt a R1 [x0, .m a, x2, x3, x4, .d (sD f), x6, x7, x8, x9, x10, x11, .d odd, x13, x14, x15]) _
  obtain ⟨odd2, R2, v2, q2, m2, o2⟩ := pick_some o1 (xs := odds2 odd) (fun e => by cases e)
  have h2 := odds2_no h1 _ m2
  refine sx_cons (sy_asg (i := 12) (x := .d odd2) (S1 := gL Pt a R2 [x0, .m a, x2, x3, x4, .d (sD f), x6, x7, x8, x9, x10, x11, .d odd, x13, x14, x15]) (ev_pick4 T hK.symm (hr.mono (by decide)) ne o1 (xs := odds2 odd) (fun e => by cases e) lq v2 q2 (vn 1) ?_ (by rfl) st_N st_L hpl_L) sc_law.nd rfl (.inr rfl) li ?_)
  · refine ev_lst (ds := odds2 odd) ?_ ?_
    · refine EA.head (vn 12) (LitAll.ea ?_) st_N
      unfold pr fr
      repeat' (first | constructor | decide)
    · show 7 ≤ 1000
      decide
  exact seg18 T TE TM c Pt a TB hcode hNS htr ne A outer s H E b hK hr R2 o2 f hf odd2 h2 x0 x2 x3 x4 x6 x7 x8 x9 x10 x11 x13 x14 x15
end
end K0
end
section
set_option Elab.async false
set_option linter.all false
set_option maxRecDepth 100000
set_option maxHeartbeats 4000000
set_option exponentiation.threshold 300000
namespace K0
open PySem PySem.Spec PyProof.Rows L2 DX LamX
set_option autoImplicit false
open TS in
/-- what is at hand when the figures of a gap were found -/
structure Found (g : List Trm) (bits : Nat) (f : Int) : Prop where
  n : Nice 720 4096 2304 8 g
  b : bits ≤ 200
  lo : (f : Rl) ≤ vR g * ((2 ^ bits : Nat) : Rl)
  hi : vR g * ((2 ^ bits : Nat) : Rl) < ((f + 1 : Int) : Rl)
  sz : f.natAbs ≤ 2304 * 2 ^ bits
abbrev pw (bits : Nat) : Int := ((2 ^ bits : Nat) : Int)
theorem qa_neg (q : Rat) : TS.qa (-q) = TS.qa q := by unfold TS.qa; (repeat' split) <;> grind
theorem fr_pw {f : Int} {bits : Nat} (hb : bits ≤ 200) (h : f.natAbs ≤ 4096 * 2 ^ bits) : Fr 213 (f, pw bits) := by
  have p0 := Nat.two_pow_pos bits
  have p1 : 2 ^ bits ≤ 2 ^ 200 := Nat.pow_le_pow_right (by decide) hb
  have p2 : 4096 * 2 ^ 200 < 2 ^ 213 := by decide
  refine ⟨by show (0 : Int) < ((2 ^ bits : Nat) : Int); omega, ?_, ?_⟩
  · show f.natAbs < 2 ^ 213
    omega
  · show (((2 ^ bits : Nat) : Int)).natAbs < 2 ^ 213
    omega
theorem Fr.mono {n m : Nat} {x : Int × Int} (h : Fr n x) (k : n ≤ m) : Fr m x := ⟨h.1, h.2.1.mono k, h.2.2.mono k⟩
theorem of_p1 (x : Int × Int) : (if x.1 = 0 then PyData.tuple [] else .tuple [.tuple [.int 1, frD x]]) = sR (p1 x) := by
  unfold p1
  split <;> rfl
theorem lof_p1 (x : Int × Int) : r_lof [frD x] (sR (p1 x)) := ⟨x, rfl, (of_p1 x).symm⟩
theorem QS.neg1 : QS 1 (rv ((-1 : Int), (1 : Int))) := by
  rw [show rv ((-1 : Int), (1 : Int)) = -1 from rfl]
  exact ⟨by decide, by decide⟩
section
variable {g : List Trm} {bits : Nat} {f : Int} (h : Found g bits f)
include h
theorem Found.sz1 : (f + 1).natAbs ≤ 4096 * 2 ^ bits := by
  have := h.sz
  have p0 := Nat.two_pow_pos bits
  omega
theorem Found.sz0 : f.natAbs ≤ 4096 * 2 ^ bits := by
  have := h.sz
  omega
theorem Found.qs : ∀ t ∈ g, QS 30 t.2 := h.n.qs (k := 30) (by decide) (by decide) (by decide)
theorem Found.addB : r_laddB [sR (p1 (f + 1, pw bits)), sD g, frD (-1, 1)] (sR (resB (f + 1, pw bits) g)) :=
  ⟨_, g, rfl, h.n.ca, Nat.le_trans h.n.len (by decide), fun t ht => (h.qs t ht).mono (by decide), (fr_pw h.b h.sz1).mono (by decide), rfl⟩
theorem Found.signB : ∃ s : Int, r_lsign [sR (resB (f + 1, pw bits) g)] (.int s) ∧ ¬ s < 1 := by
  have hx := fr_pw h.b h.sz1
  have hv : (rv (f + 1, pw bits)).den ∣ 2 ^ bits := rv_den
  have hq := rv_small h.sz1
  have B := resB_beside hx.1 g
  obtain ⟨hn, _⟩ := B.nice (.inr rfl) h.n hv hq
  obtain ⟨s, hs⟩ := signV_ex hn.ca hn.sq
  exact ⟨s, ⟨_, s, rfl, resB_ok (hx.mono (by decide)) h.b h.n hv hq, B.apart (.inr rfl) h.b h.n hv hq, hs, rfl⟩, look2 h.hi hs⟩
theorem Found.addA : r_ladd [sD g, sR (p1 (f, pw bits)), frD (-1, 1)] (sD (X1 g (f, pw bits))) := by
  have hx := fr_pw h.b h.sz0
  have l1 : (p1 (f, pw bits)).length ≤ 1 := by unfold p1; split <;> simp
  refine ⟨g, p1 (f, pw bits), (-1, 1), _, rfl, h.n.ca, ?_, fun t ht => (h.qs t ht).mono (by decide), fun t ht => ?_, ?_, fun i r => ?_, cn_canon _, fun r => by rw [cn_co, co_app], rfl⟩
  · have := h.n.len
    omega
  · unfold p1 at ht
    split at ht
    · cases ht
    · rw [List.mem_singleton.mp ht]
      exact hx.mono (by decide)
  · exact ⟨by decide, by unfold Sz; decide, by unfold Sz; decide⟩
  · refine (co_QS (k := 214) (ps := g ++ (scaled (p1 (f, pw bits)) (-1, 1)).take i) (fun u hu => ?_) r).mono ?_
    · rcases List.mem_append.mp hu with e | e
      · exact (h.qs u e).mono (by decide)
      · have e1 := List.mem_of_mem_take e
        unfold scaled p1 at e1
        obtain ⟨v, hv, rfl⟩ := List.mem_map.mp e1
        split at hv
        · cases hv
        · rw [List.mem_singleton.mp hv]
          exact ((rv_QS hx).mul (QS.neg1)).mono (by decide)
    · have l2 : ((scaled (p1 (f, pw bits)) (-1, 1)).take i).length ≤ 1 := Nat.le_trans (List.length_take_le' _ _) (by unfold scaled; rw [List.length_map]; exact l1)
      rw [List.length_append]
      have := h.n.len
      omega
theorem Found.signA : ∃ s : Int, r_lsign [sD (X1 g (f, pw bits))] (.int s) ∧ ¬ s < 0 := by
  have hx := fr_pw h.b h.sz0
  have hv : (-rv (f, pw bits)).den ∣ 2 ^ bits := by rw [Rat.neg_den]; exact rv_den
  have hq : TS.qa (-rv (f, pw bits)) ≤ ((4096 : Nat) : Rat) := by rw [qa_neg]; exact rv_small h.sz0
  have B := X1_beside g (f, pw bits)
  obtain ⟨hn, _⟩ := B.nice (.inl rfl) h.n hv hq
  obtain ⟨s, hs⟩ := signV_ex hn.ca hn.sq
  exact ⟨s, ⟨raw _, s, by rw [sR_raw], raw_ok (Nat.le_trans hn.len (by decide)) (fun t ht => Nat.lt_of_lt_of_le (hn.rd t ht) (by decide)) (B.qs (.inl rfl) h.b h.n hv hq) (by decide), by rw [vl_raw]; exact B.apart (.inl rfl) h.b h.n hv hq, by rw [vl_raw]; exact hs, rfl⟩, look1 h.lo hs⟩
end
end K0
end
section
set_option Elab.async false
set_option linter.all false
set_option maxRecDepth 100000
set_option maxHeartbeats 4000000
set_option exponentiation.threshold 300000
namespace K0
open PySem PySem.Spec PyProof.Rows L2 DX LamX
set_option autoImplicit false
section
variable {P : Program} {w : World} {K : PySem.W.Frag} {mg : Str → Option Value} {base : Heap}
theorem seg15 (T : Tx K mg) (TE : TxE T) (TM : TxM T) (c Pt a : Addr) (TB : TabB base mg c Pt) (hcode : T.d_law.fd.code = .ref c) (hNS : base.NoSeer) (htr : P.given.tree = none) (ne : Pt ≠ a) (A : Around) (outer : List Env) (s : Shared) (H : Hp) (E : XK) (b : Bs) (hK : b.K = K)
    (hr : Room 45 (XL P w K mg base T A outer s H E).A) (R : Row) (hR : R.Ok) (f : List Trm) (hf : Dr f) (g : List Trm) (bits : Nat) (fo : Int) (hF : Found g bits fo) (x0 x2 x3 x4 x6 x11 x12 x13 x14 x15 : DV) :
    SX (XL P w K mg base T A outer s H E) b ((defBody s_law).drop 15) (gL Pt a R [x0, .m a, x2, x3, x4, .d (sD f), x6, .d (sD g), .d (.int (bits : Int)), .d (.int fo), .d (.int (pw bits)), x11, x12, x13, x14, x15]) (lawDE Pt) := by
  obtain ⟨s2, hs, hl⟩ := hF.signB
  refine sx_cons (sy_if (t := decide (s2 < 1)) (et_lt (ev_call (ok_law_sign T) hK.symm (hr.mono (by decide)) rfl T.d_law_sign.m T.d_law_sign.F.kp T.d_law_sign.b pass0 (ds := [_]) (ea_cons (ev_call (ok_law_addB T) hK.symm (hr.mono (by decide)) rfl T.d_law_add.m T.d_law_add.F.kp T.d_law_add.b pass0 (ds := [_, _, _]) (ea_cons (ev_call (ok_law_of T) hK.symm (hr.mono (by decide)) rfl T.d_law_of.m T.d_law_of.F.kp T.d_law_of.b pass0 (ds := [_]) (ea_cons (ev_tup (ds := [.int _, .int _]) (ea_cons (ev_add (vn 9) ev_int) (ea_cons (vn 10) ea_nil)) lq) ea_nil) (lof_p1 (fo + 1, pw bits))) (ea_cons (vn 7) (ea_cons (ev_tup (ds := [.int _, .int _]) (ea_cons (ev_neg ev_int) (ea_cons ev_int ea_nil)) lq) ea_nil))) hF.addB) ea_nil) hs) ev_int) (fun h => absurd (of_decide_eq_true h) hl) fun _ => sx_nil ?_)
  exact seg16 T TE TM c Pt a TB hcode hNS htr ne A outer s H E b hK hr R hR f hf x0 x2 x3 x4 x6 (.d (sD g)) (.d (.int (bits : Int))) (.d (.int fo)) (.d (.int (pw bits))) x11 x12 x13 x14 x15
end
end K0
end
section
set_option Elab.async false
set_option linter.all false
set_option maxRecDepth 100000
set_option maxHeartbeats 4000000
set_option exponentiation.threshold 300000
namespace K0
open PySem PySem.Spec PyProof.Rows L2 DX LamX
set_option autoImplicit false
section
variable {P : Program} {w : World} {K : PySem.W.Frag} {mg : Str → Option Value} {base : Heap}
theorem seg14 (T : Tx K mg) (TE : TxE T) (TM : TxM T) (c Pt a : Addr) (TB : TabB base mg c Pt) (hcode : T.d_law.fd.code = .ref c) (hNS : base.NoSeer) (htr : P.given.tree = none) (ne : Pt ≠ a) (A : Around) (outer : List Env) (s : Shared) (H : Hp) (E : XK) (b : Bs) (hK : b.K = K)
    (hr : Room 45 (XL P w K mg base T A outer s H E).A) (R : Row) (hR : R.Ok) (f : List Trm) (hf : Dr f) (g : List Trm) (bits : Nat) (fo : Int) (hF : Found g bits fo) (x0 x2 x3 x4 x6 x11 x12 x13 x14 x15 : DV) :
    SX (XL P w K mg base T A outer s H E) b ((defBody s_law).drop 14) (gL Pt a R [x0, .m a, x2, x3, x4, .d (sD f), x6, .d (sD g), .d (.int (bits : Int)), .d (.int fo), .d (.int (pw bits)), x11, x12, x13, x14, x15]) (lawDE Pt) := by
  obtain ⟨s1, hs, hl⟩ := hF.signA
  refine sx_cons (sy_if (t := !isInst (.int fo) "int" || decide (s1 < 0)) (et_w (ew_or (et_not (et_val (ev_isi hK.symm rfl T.n_isinstance rfl T.n_int Str.isInt (.inl rfl) (vn 9)))) fun _ => et_or1 (et_lt (ev_call (ok_law_sign T) hK.symm (hr.mono (by decide)) rfl T.d_law_sign.m T.d_law_sign.F.kp T.d_law_sign.b pass0 (ds := [_]) (ea_cons (ev_call (ok_law_add T) hK.symm (hr.mono (by decide)) rfl T.d_law_add.m T.d_law_add.F.kp T.d_law_add.b pass0 (ds := [_, _, _]) (ea_cons (vn 7) (ea_cons (ev_call (ok_law_of T) hK.symm (hr.mono (by decide)) rfl T.d_law_of.m T.d_law_of.F.kp T.d_law_of.b pass0 (ds := [_]) (ea_cons (ev_tup (ds := [.int _, .int _]) (ea_cons (vn 9) (ea_cons (vn 10) ea_nil)) lq) ea_nil) (lof_p1 (fo, pw bits))) (ea_cons (ev_tup (ds := [.int _, .int _]) (ea_cons (ev_neg ev_int) (ea_cons ev_int ea_nil)) lq) ea_nil))) hF.addA) ea_nil) hs) ev_int))) (fun h => by
      have h2 : (false || decide (s1 < 0)) = true := h
      rw [Bool.false_or] at h2
      exact absurd (of_decide_eq_true h2) hl) fun _ => sx_nil ?_)
  exact seg15 T TE TM c Pt a TB hcode hNS htr ne A outer s H E b hK hr R hR f hf g bits fo hF x0 x2 x3 x4 x6 x11 x12 x13 x14 x15
theorem seg13 (T : Tx K mg) (TE : TxE T) (TM : TxM T) (c Pt a : Addr) (TB : TabB base mg c Pt) (hcode : T.d_law.fd.code = .ref c) (hNS : base.NoSeer) (htr : P.given.tree = none) (ne : Pt ≠ a) (A : Around) (outer : List Env) (s : Shared) (H : Hp) (E : XK) (b : Bs) (hK : b.K = K)
    (hr : Room 45 (XL P w K mg base T A outer s H E).A) (R : Row) (hR : R.Ok) (f : List Trm) (hf : Dr f) (g : List Trm) (bits : Nat) (fo : Int) (hF : Found g bits fo) (x0 x2 x3 x4 x6 x11 x12 x13 x14 x15 : DV) :
    SX (XL P w K mg base T A outer s H E) b ((defBody s_law).drop 13) (gL Pt a R [x0, .m a, x2, x3, x4, .d (sD f), x6, .d (sD g), .d (.int (bits : Int)), .d (.int fo), .d (.int 1), x11, x12, x13, x14, x15]) (lawDE Pt) := by
  have hb := hF.b
  refine sx_cons (sy_forR (j := 11) (n := (bits : Int)) PassesOwn.never rfl rfl T.n_range (S1 := gL Pt a R [x0, .m a, x2, x3, x4, .d (sD f), x6, .d (sD g), .d (.int (bits : Int)), .d (.int fo), .d (.int 1), x11, x12, x13, x14, x15]) (vn 8) (by omega) sc_law.nd rfl (.inl rfl)
    (fun i S' => ∃ y, S' = gL Pt a R [x0, .m a, x2, x3, x4, .d (sD f), x6, .d (sD g), .d (.int (bits : Int)), .d (.int fo), .d (.int (pw i)), y, x12, x13, x14, x15]) ⟨x11, rfl⟩ ?_ ?_)
  · rintro i S' hi ⟨y, rfl⟩
    refine ⟨li, sx_one (sy_asg (i := 10) (x := .d (.int (pw i * 2))) (S1 := gL Pt a R [x0, .m a, x2, x3, x4, .d (sD f), x6, .d (sD g), .d (.int (bits : Int)), .d (.int fo), .d (.int (pw i)), .d (.int (i : Int)), x12, x13, x14, x15]) (ev_mul (vn 10) ev_int ?_) sc_law.nd rfl (.inl rfl) li ⟨.d (.int (i : Int)), ?_⟩)⟩
    · have z : Sz 201 (pw i) := Sz.nat (Nat.pow_lt_pow_right (by decide) (by omega))
      exact z.cm (show Sz 60 (2 : Int) by unfold Sz; decide) (by decide)
    · show gL Pt a R [x0, .m a, x2, x3, x4, .d (sD f), x6, .d (sD g), .d (.int (bits : Int)), .d (.int fo), .d (.int (pw i * 2)), .d (.int (i : Int)), x12, x13, x14, x15] = _
      have e : pw (i + 1) = pw i * 2 := by
        show ((2 ^ (i + 1) : Nat) : Int) = ((2 ^ i : Nat) : Int) * 2
        rw [Nat.pow_succ]
        rfl
      rw [e]
  · rintro S' ⟨y, rfl⟩
    rw [Int.toNat_natCast]
    exact seg14 T TE TM c Pt a TB hcode hNS htr ne A outer s H E b hK hr R hR f hf g bits fo hF x0 x2 x3 x4 x6 y x12 x13 x14 x15
theorem seg11 (T : Tx K mg) (TE : TxE T) (TM : TxM T) (c Pt a : Addr) (TB : TabB base mg c Pt) (hcode : T.d_law.fd.code = .ref c) (hNS : base.NoSeer) (htr : P.given.tree = none) (ne : Pt ≠ a) (A : Around) (outer : List Env) (s : Shared) (H : Hp) (E : XK) (b : Bs) (hK : b.K = K)
    (hr : Room 45 (XL P w K mg base T A outer s H E).A) (R : Row) (hR : R.Ok) (f : List Trm) (hf : Dr f) (g : List Trm) (hg : Nice 720 4096 2304 8 g) (x0 x2 x3 x4 x6 x8 x9 x10 x11 x12 x13 x14 x15 : DV) :
    SX (XL P w K mg base T A outer s H E) b ((defBody s_law).drop 11) (gL Pt a R [x0, .m a, x2, x3, x4, .d (sD f), x6, .d (sD g), x8, x9, x10, x11, x12, x13, x14, x15]) (lawDE Pt) := by
  obtain ⟨v, R1, v1, q1, m1, m2, o1⟩ := step_some hR (m := 201) (by decide)
  refine sx_cons (sy_asg (i := 8) (x := .d (.int v)) (S1 := gL Pt a R1 [x0, .m a, x2, x3, x4, .d (sD f), x6, .d (sD g), x8, x9, x10, x11, x12, x13, x14, x15]) (ev_taken4 T hK.symm (hr.mono (by decide)) ne hR (m := 201) (by decide) (by unfold Sz; decide) v1 q1 (vn 1) ev_int) sc_law.nd rfl (.inl rfl) li ?_)
  obtain ⟨bits, rfl⟩ : ∃ n : Nat, v = (n : Int) := ⟨v.toNat, by omega⟩
  have hb : bits ≤ 200 := by omega
  show SX _ _ _ (gL Pt a R1 [x0, .m a, x2, x3, x4, .d (sD f), x6, .d (sD g), .d (.int (bits : Int)), x9, x10, x11, x12, x13, x14, x15]) _
  obtain ⟨fo, hlo, hhi, hsz, hfi⟩ := fig_ex hg bits
  have hF : Found g bits fo := ⟨hg, hb, hlo, hhi, hsz⟩
  have hB : isBits (.int (bits : Int)) = true := by
    show (decide ((0 : Int) ≤ (bits : Int)) && decide ((bits : Int) ≤ 200)) = true
    rw [decide_eq_true (by omega), decide_eq_true (by omega)]
    rfl
  have hres : r_figX T.c_BadSum T.c_BadNumber [sD g, .int (bits : Int)] (.val (.int fo)) :=
    ⟨_, _, rfl, .inr (.inr ⟨isSum_of hg (by decide) (by decide), hB, _, ⟨g, bits, fo, rfl, hg.good (by decide) (by decide) (by decide) (by decide) (by decide), Std.IsPreorder.le_trans _ _ _ (hg.sz (by decide)) (TS.nat_le.mpr (by decide)), hb, hfi, rfl⟩, rfl⟩)⟩
  refine sx_cons (sy_par (S1 := gL Pt a R1 [x0, .m a, x2, x3, x4, .d (sD f), x6, .d (sD g), .d (.int (bits : Int)), x9, x10, x11, x12, x13, x14, x15]) (i := 9) (j := 10) (u := .d (.int fo)) (w := .d (.int 1)) rfl sc_law.nd rfl rfl (by decide) rfl rfl (ea_cons (S1 := gL Pt a R1 [x0, .m a, x2, x3, x4, .d (sD f), x6, .d (sD g), .d (.int (bits : Int)), x9, x10, x11, x12, x13, x14, x15]) (ev_callX (ok_figures T TE hNS htr) hK.symm (hr.mono (by decide)) rfl T.d_figures.m T.d_figures.F.kp T.d_figures.b passF (ds := [_, _]) (ea_cons (vn 7) (ea_cons (vn 8) ea_nil)) hres) (ea_cons ev_int ea_nil)) li li ?_)
  exact seg13 T TE TM c Pt a TB hcode hNS htr ne A outer s H E b hK hr R1 o1 f hf g bits fo hF x0 x2 x3 x4 x6 x11 x12 x13 x14 x15
end
end K0
end
section
set_option Elab.async false
set_option linter.all false
set_option maxRecDepth 100000
set_option maxHeartbeats 4000000
set_option exponentiation.threshold 300000
namespace K0
open PySem PySem.Spec PyProof.Rows L2 DX LamX
set_option autoImplicit false
theorem dr_gap {p q : List Trm} (h : Dr p) (g : Dr q) : r_ladd [sD p, sD q, frD (-1, 1)] (sD (gapL p q)) := by
  have := dr_add (c := -1) h g (.inr rfl)
  rw [show (((-1 : Int)) : Rat) = -1 from rfl] at this
  exact this
theorem dr_sum {p q : List Trm} (h : Dr p) (g : Dr q) : ∃ l : List Trm, l.length ≤ 1000 ∧ r_ladd [sD p, sD q, frD (1, 1)] (sD l) ∧ r_sum_plus [sD p, sD q] (sD l) := by
  refine ⟨cn (p ++ TS.sc (((1 : Int)) : Rat) q), ?_, dr_add (c := 1) h g (.inl rfl), dr_plus h g (cn_canon _) fun r => ?_⟩
  · have a := cn_len (p ++ TS.sc (((1 : Int)) : Rat) q)
    have b := rds_len (p ++ TS.sc (((1 : Int)) : Rat) q)
    have c : (TS.sc (((1 : Int)) : Rat) q).length = q.length := by unfold TS.sc; rw [List.length_map]
    rw [List.length_append, c] at b
    have := h.len
    have := g.len
    omega
  · rw [cn_co, co_app, co_sc, show (((1 : Int)) : Rat) = 1 from rfl, Rat.mul_one]
theorem mulL_len {p q : List Trm} (h : Dr p) (g : Dr q) : (mulL p q).length ≤ 1000 := by
  have a := cn_len (prods p q)
  have b := rds_len (prods p q)
  have c := Nat.mul_le_mul h.len g.len
  rw [prods_len] at b
  show (cn (prods p q)).length ≤ 1000
  omega
theorem gap_lsign {g : List Trm} (hg : Nice 720 4096 2304 8 g) : ∃ s : Int, r_lsign [sD g] (.int s) ∧ r_sum_sign [sD g] (.int s) := by
  obtain ⟨s, hs⟩ := signV_ex hg.ca hg.sq
  have hl := hg.len
  refine ⟨s, ⟨raw g, s, by rw [sR_raw], raw_ok (Nat.le_trans hl (by decide)) (fun t ht => Nat.lt_of_lt_of_le (hg.rd t ht) (by decide)) (hg.qs (k := 30) (by decide) (by decide) (by decide)) (by decide), ?_, by rw [vl_raw]; exact hs, rfl⟩, ⟨g, s, rfl, hg.good (by decide) (by decide) (by decide) (by decide) (by decide), hs.is, rfl⟩⟩
  rw [vl_raw]
  exact apart_of hg (by decide) (by decide) (by decide) (Nat.le_trans (List.length_filter_le _ _) hl)
section
variable {P : Program} {w : World} {K : PySem.W.Frag} {mg : Str → Option Value} {base : Heap}
theorem seg10 (T : Tx K mg) (TE : TxE T) (TM : TxM T) (c Pt a : Addr) (TB : TabB base mg c Pt) (hcode : T.d_law.fd.code = .ref c) (hNS : base.NoSeer) (htr : P.given.tree = none) (ne : Pt ≠ a) (A : Around) (outer : List Env) (s : Shared) (H : Hp) (E : XK) (b : Bs) (hK : b.K = K)
    (hr : Room 45 (XL P w K mg base T A outer s H E).A) (R : Row) (hR : R.Ok) (f : List Trm) (hf : Dr f) (g : List Trm) (hg : Nice 720 4096 2304 8 g) (x0 x2 x3 x4 x6 x8 x9 x10 x11 x12 x13 x14 x15 : DV) :
    SX (XL P w K mg base T A outer s H E) b ((defBody s_law).drop 10) (gL Pt a R [x0, .m a, x2, x3, x4, .d (sD f), x6, .d (sD g), x8, x9, x10, x11, x12, x13, x14, x15]) (lawDE Pt) := by
  obtain ⟨s0, hs, hq⟩ := gap_lsign hg
  obtain ⟨m1, m2, m3⟩ := sq_sign hf
  have hsg : isSum (sD g) = true := isSum_of hg (by decide) (by decide)
  refine sx_cons (sy_if (t := !true || !decide ((if (f.length : Int) < 1 then (f.length : Int) else 1) = (if (f.length : Int) < 1 then (f.length : Int) else 1))) (et_w (ew_or (et_not (et_val (ev_call (ok_law_alike T 0) hK.symm (hr.mono (by decide)) rfl T.d_law_alike.m T.d_law_alike.F.kp T.d_law_alike.b pass0 (ds := [.int s0, .int s0]) (ea_cons (ev_callX (ok_sign T TE hNS htr) hK.symm (hr.mono (by decide)) rfl T.d_sign.m T.d_sign.F.kp T.d_sign.b passF (ds := [_]) (ea_cons (vn 7) ea_nil) ⟨_, rfl, .inr ⟨hsg, _, hq, rfl⟩⟩) (ea_cons (ev_call (ok_law_sign T) hK.symm (hr.mono (by decide)) rfl T.d_law_sign.m T.d_law_sign.F.kp T.d_law_sign.b pass0 (ds := [_]) (ea_cons (vn 7) ea_nil) hs) ea_nil)) ⟨_, rfl, .int 0 s0, rfl⟩))) fun _ => et_or1 (et_neI (ev_callX (ok_sign T TE hNS htr) hK.symm (hr.mono (by decide)) rfl T.d_sign.m T.d_sign.F.kp T.d_sign.b passF (ds := [_]) (ea_cons (ev_call (ok_law_multiply T) hK.symm (hr.mono (by decide)) rfl T.d_law_multiply.m T.d_law_multiply.F.kp T.d_law_multiply.b pass0 (ds := [_, _]) (ea_cons (vn 5) (ea_cons (vn 5) ea_nil)) (dr_mul hf hf)) ea_nil) ⟨_, rfl, .inr ⟨m2, _, ⟨_, _, rfl, m1, m3, rfl⟩, rfl⟩⟩) (ev_callB (call_min2 rfl) rfl T.n_min (by decide +kernel) (ea_cons ev_int (ea_cons (ev_callB call_len_seq rfl T.n_len PySem.boot_len (ea_cons (vn 5) ea_nil) (by have h0 := @rc_lenT; exact (by simpa [sD] using h0 (ds := f.map tD) hK.symm))) ea_nil)) rc_min2)))) (fun h => by simp at h) fun _ => sx_nil ?_)
  exact seg11 T TE TM c Pt a TB hcode hNS htr ne A outer s H E b hK hr R hR f hf g hg x0 x2 x3 x4 x6 x8 x9 x10 x11 x12 x13 x14 x15
theorem seg7 (T : Tx K mg) (TE : TxE T) (TM : TxM T) (c Pt a : Addr) (TB : TabB base mg c Pt) (hcode : T.d_law.fd.code = .ref c) (hNS : base.NoSeer) (htr : P.given.tree = none) (ne : Pt ≠ a) (A : Around) (outer : List Env) (s : Shared) (H : Hp) (E : XK) (b : Bs) (hK : b.K = K)
    (hr : Room 45 (XL P w K mg base T A outer s H E).A) (R : Row) (hR : R.Ok) (f q : List Trm) (hf : Dr f) (hq : Dr q) (x0 x2 x3 x4 x7 x8 x9 x10 x11 x12 x13 x14 x15 : DV) :
    SX (XL P w K mg base T A outer s H E) b ((defBody s_law).drop 7) (gL Pt a R [x0, .m a, x2, x3, x4, .d (sD f), .d (sD q), x7, x8, x9, x10, x11, x12, x13, x14, x15]) (lawDE Pt) := by
  have sf : isSum (sD f) = true := isSum_of hf (by decide) (by decide)
  have sq : isSum (sD q) = true := isSum_of hq (by decide) (by decide)
  obtain ⟨l, ll, l1, l2⟩ := dr_sum hf hq
  refine sx_cons (sy_if (t := !true) (et_not (et_val (ev_call (ok_law_alike T 3) hK.symm (hr.mono (by decide)) rfl T.d_law_alike.m T.d_law_alike.F.kp T.d_law_alike.b pass0 (ds := [sD l, sD l]) (ea_cons (ev_callX (ok_plus T TE) hK.symm (hr.mono (by decide)) rfl T.d_plus.m T.d_plus.F.kp T.d_plus.b passF (ds := [_, _]) (ea_cons (vn 5) (ea_cons (vn 6) ea_nil)) ⟨_, _, rfl, .inr (.inr ⟨sf, sq, _, l2, rfl⟩)⟩) (ea_cons (ev_call (ok_law_add T) hK.symm (hr.mono (by decide)) rfl T.d_law_add.m T.d_law_add.F.kp T.d_law_add.b pass0 (ds := [_, _, _]) (ea_cons (vn 5) (ea_cons (vn 6) (ea_cons (ev_tup (ds := [.int _, .int _]) (ea_cons ev_int (ea_cons ev_int ea_nil)) lq) ea_nil))) l1) ea_nil)) ⟨_, rfl, alk_sD ll, rfl⟩))) (fun h => by cases h) fun _ => sx_nil ?_)
  refine sx_cons (sy_if (t := !true) (et_not (et_val (ev_call (ok_law_alike T 3) hK.symm (hr.mono (by decide)) rfl T.d_law_alike.m T.d_law_alike.F.kp T.d_law_alike.b pass0 (ds := [sD (mulL f q), sD (mulL f q)]) (ea_cons (ev_callX (ok_times T TE) hK.symm (hr.mono (by decide)) rfl T.d_times.m T.d_times.F.kp T.d_times.b passF (ds := [_, _]) (ea_cons (vn 5) (ea_cons (vn 6) ea_nil)) ⟨_, _, rfl, .inr (.inr ⟨sf, sq, _, dr_times hf hq, rfl⟩)⟩) (ea_cons (ev_call (ok_law_multiply T) hK.symm (hr.mono (by decide)) rfl T.d_law_multiply.m T.d_law_multiply.F.kp T.d_law_multiply.b pass0 (ds := [_, _]) (ea_cons (vn 5) (ea_cons (vn 6) ea_nil)) (dr_mul hf hq)) ea_nil)) ⟨_, rfl, alk_sD (mulL_len hf hq), rfl⟩))) (fun h => by cases h) fun _ => sx_nil ?_)
  refine sx_cons (sy_asg (i := 7) (x := .d (sD (gapL f q))) (S1 := gL Pt a R [x0, .m a, x2, x3, x4, .d (sD f), .d (sD q), x7, x8, x9, x10, x11, x12, x13, x14, x15]) (ev_call (ok_law_add T) hK.symm (hr.mono (by decide)) rfl T.d_law_add.m T.d_law_add.F.kp T.d_law_add.b pass0 (ds := [_, _, _]) (ea_cons (vn 5) (ea_cons (vn 6) (ea_cons (ev_tup (ds := [.int _, .int _]) (ea_cons (ev_neg ev_int) (ea_cons ev_int ea_nil)) lq) ea_nil))) (dr_gap hf hq)) sc_law.nd rfl (.inl rfl) li ?_)
  exact seg10 T TE TM c Pt a TB hcode hNS htr ne A outer s H E b hK hr R hR f hf (gapL f q) (gap_nice hf hq (by decide)) x0 x2 x3 x4 (.d (sD q)) x8 x9 x10 x11 x12 x13 x14 x15
end
end K0
end
section
set_option Elab.async false
set_option linter.all false
set_option maxRecDepth 100000
set_option maxHeartbeats 4000000
set_option exponentiation.threshold 300000
namespace K0
open PySem PySem.Spec PyProof.Rows L2 DX LamX
set_option autoImplicit false
theorem dr_neg {q : List Trm} (g : Dr q) : r_ladd [sD [], sD q, frD (-1, 1)] (sD (negL q)) := by
  have := dr_add (c := -1) (Nice.nil 720 4096 1152 4) g (.inr rfl)
  rw [show (((-1 : Int)) : Rat) = -1 from rfl] at this
  exact this
theorem drawn_some {R : Row} (h : R.Ok) : ∃ (f : List Trm) (R' : Row), (drawn R).2 = f ∧ (drawn R).1 = R' ∧ Dr f ∧ R'.Ok := ⟨_, _, rfl, rfl, (drawn_ok h).2, (drawn_ok h).1⟩
section
variable {P : Program} {w : World} {K : PySem.W.Frag} {mg : Str → Option Value} {base : Heap}
theorem ev_drawn4 {X : Cx} {b : Bs} {pos p : Pos} {e1 : Expr} {g : List DV} {Pt a : Addr} (T : Tx X.K X.mg) (hK : X.K = b.K) (hr : Room 4 X.A) (ne : Pt ≠ a) {R1 R' : Row} {f : List Trm} (hR : R1.Ok) (hv : (drawn R1).2 = f) (hR' : (drawn R1).1 = R') (h1 : EV X b e1 (gL Pt a R1 g) (.m a) (gL Pt a R1 g)) (hg : Gl X "_law_drawn" := by rfl)
    (he : starEach [e1] X.env = (false, eval e1 X.env) :: starEach [] X.env := by rfl) (hpl : (backTo pos (starEach [] X.env)).any (·.1) = false := by rfl) :
    EV X b (.Call (.Name "_law_drawn" p) [e1] [] pos) (gL Pt a R1 g) (.d (sD f)) (gL Pt a R' g) := by
  subst hv
  subst hR'
  exact ev_drawn2 T hK hr ne hR (ea_cons h1 ea_nil he) hg he hpl
theorem seg6 (T : Tx K mg) (TE : TxE T) (TM : TxM T) (c Pt a : Addr) (TB : TabB base mg c Pt) (hcode : T.d_law.fd.code = .ref c) (hNS : base.NoSeer) (htr : P.given.tree = none) (ne : Pt ≠ a) (A : Around) (outer : List Env) (s : Shared) (H : Hp) (E : XK) (b : Bs) (hK : b.K = K)
    (hr : Room 45 (XL P w K mg base T A outer s H E).A) (R : Row) (hR : R.Ok) (f q : List Trm) (hf : Dr f) (hq : Dr q) (x0 x2 x3 x4 x7 x8 x9 x10 x11 x12 x13 x14 x15 : DV) :
    SX (XL P w K mg base T A outer s H E) b ((defBody s_law).drop 6) (gL Pt a R [x0, .m a, x2, x3, x4, .d (sD f), .d (sD q), x7, x8, x9, x10, x11, x12, x13, x14, x15]) (lawDE Pt) := by
  obtain ⟨v, R1, v1, q1, m1, m2, o1⟩ := step_some hR (m := 4) (by decide)
  refine sx_cons (sy_if (t := decide (v = 0)) (S1 := gL Pt a R1 [x0, .m a, x2, x3, x4, .d (sD f), .d (sD q), x7, x8, x9, x10, x11, x12, x13, x14, x15]) (et_eqI (ev_taken4 T hK.symm (hr.mono (by decide)) ne hR (m := 4) (by decide) (by unfold Sz; decide) v1 q1 (vn 1) ev_int) ev_int) (fun _ => ?_) fun _ => sx_nil ?_)
  · refine sx_one (sy_asg (i := 6) (x := .d (sD (negL f))) (S1 := gL Pt a R1 [x0, .m a, x2, x3, x4, .d (sD f), .d (sD q), x7, x8, x9, x10, x11, x12, x13, x14, x15]) (ev_call (ok_law_add T) hK.symm (hr.mono (by decide)) rfl T.d_law_add.m T.d_law_add.F.kp T.d_law_add.b pass0 (ds := [_, _, _]) (ea_cons (ev_tup (ds := []) ea_nil lq) (ea_cons (vn 5) (ea_cons (ev_tup (ds := [.int _, .int _]) (ea_cons (ev_neg ev_int) (ea_cons ev_int ea_nil)) lq) ea_nil))) (dr_neg hf)) sc_law.nd rfl (.inl rfl) li ?_)
    exact seg7 T TE TM c Pt a TB hcode hNS htr ne A outer s H E b hK hr R1 o1 f (negL f) hf (neg_nice hf (by decide)) x0 x2 x3 x4 x7 x8 x9 x10 x11 x12 x13 x14 x15
  · exact seg7 T TE TM c Pt a TB hcode hNS htr ne A outer s H E b hK hr R1 o1 f q hf hq x0 x2 x3 x4 x7 x8 x9 x10 x11 x12 x13 x14 x15
theorem seg5 (T : Tx K mg) (TE : TxE T) (TM : TxM T) (c Pt a : Addr) (TB : TabB base mg c Pt) (hcode : T.d_law.fd.code = .ref c) (hNS : base.NoSeer) (htr : P.given.tree = none) (ne : Pt ≠ a) (A : Around) (outer : List Env) (s : Shared) (H : Hp) (E : XK) (b : Bs) (hK : b.K = K)
    (hr : Room 45 (XL P w K mg base T A outer s H E).A) (R : Row) (hR : R.Ok) (x0 x2 x3 x4 x5 x6 x7 x8 x9 x10 x11 x12 x13 x14 x15 : DV) :
    SX (XL P w K mg base T A outer s H E) b ((defBody s_law).drop 5) (gL Pt a R [x0, .m a, x2, x3, x4, x5, x6, x7, x8, x9, x10, x11, x12, x13, x14, x15]) (lawDE Pt) := by
  obtain ⟨f, R1, v1, q1, hf, o1⟩ := drawn_some hR
  obtain ⟨q, R2, v2, q2, hq, o2⟩ := drawn_some o1
  refine sx_cons (sy_unpack (x := .d (.tuple [sD f, sD q])) (S1 := gL Pt a R2 [x0, .m a, x2, x3, x4, x5, x6, x7, x8, x9, x10, x11, x12, x13, x14, x15]) (ev_tup (ds := [sD f, sD q]) (ea_cons (S1 := gL Pt a R1 [x0, .m a, x2, x3, x4, x5, x6, x7, x8, x9, x10, x11, x12, x13, x14, x15]) (ev_drawn4 T hK.symm (hr.mono (by decide)) ne hR v1 q1 (vn 1)) (ea_cons (S1 := gL Pt a R2 [x0, .m a, x2, x3, x4, x5, x6, x7, x8, x9, x10, x11, x12, x13, x14, x15]) (ev_drawn4 T hK.symm (hr.mono (by decide)) ne o1 v2 q2 (vn 1)) ea_nil)) lq) (pg_tup rfl (pgs_cons (pg_name (i := 5) sc_law.nd rfl (.inr rfl)) (pgs_cons (pg_name (i := 6) sc_law.nd rfl (.inl rfl)) pgs_nil))) (tg_tup hK.symm rfl (.cons (tg_name li) rfl (.cons (tg_name li) rfl .nil))) rfl ?_)
  exact seg6 T TE TM c Pt a TB hcode hNS htr ne A outer s H E b hK hr R2 o2 f q hf hq x0 x2 x3 x4 x7 x8 x9 x10 x11 x12 x13 x14 x15
end
end K0
end
section
set_option Elab.async false
set_option linter.all false
set_option maxRecDepth 100000
set_option maxHeartbeats 4000000
set_option exponentiation.threshold 300000
namespace K0
open PySem PySem.Spec PyProof.Rows L2 DX LamX
set_option autoImplicit false
theorem frac_q (q : Rat) : isFrac (qD q) = true := by
  have h1 := q.den_nz
  have h2 := q.reduced
  unfold Nat.Coprime at h2
  show (true && (true && (decide ((0 : Int) < (q.den : Int)) && decide (((Nat.gcd q.num.natAbs ((q.den : Int)).natAbs : Nat) : Int) = 1)))) = true
  rw [decide_eq_true (by omega), decide_eq_true (by rw [Int.natAbs_natCast]; omega)]
  rfl
theorem rootArg_q {q : Rat} (h0 : 0 ≤ q.num) (h1 : q.num.natAbs < 2 ^ 20) (h2 : q.den ≤ 1000) : isRootArg (qD q) = true := by
  have dn := q.den_nz
  show (isFrac (qD q) && (decide ((q.den : Int) ≤ 1000) && (decide (0 ≤ q.num) && decide (q.num ≤ 10 ^ 9 * (q.den : Int))))) = true
  rw [frac_q, decide_eq_true (by omega), decide_eq_true h0, decide_eq_true (by omega)]
  rfl
theorem root_val {q : Rat} (C : Addr) (h0 : 0 ≤ q.num) (h1 : q.num.natAbs < 2 ^ 20) (h2 : q.den ≤ 1000) : r_root C [qD q] (.val (sD (rootL q))) :=
  ⟨_, rfl, .inr ⟨rootArg_q h0 h1 h2, _, ⟨q, rfl, h0, Nat.lt_of_lt_of_le h1 (by decide), Nat.lt_of_le_of_lt h2 (by decide), rootL_is h0⟩, rfl⟩⟩
theorem lroot_val {q : Rat} (h0 : 0 ≤ q.num) (h1 : q.num.natAbs < 2 ^ 20) (h2 : q.den ≤ 1000) : r_lroot [qD q] (sD (rootL q)) :=
  ⟨q, rfl, h0, Nat.lt_of_lt_of_le h1 (by decide), Nat.lt_of_le_of_lt h2 (by decide), rootL_is h0⟩
theorem lof_q (q : Rat) : r_lof [qD q] (sD (lofL q)) := ⟨qP q, rfl, (lofL_data q).symm⟩
def lawTops : List PyData := [.int 10, .int 1000, .int ((10 : Int) ^ (6 : Int).toNat)]
def lawLows : List PyData := [.int 2, .int 12, .int 1000]
theorem lawTops_in {v : PyData} (h : v ∈ lawTops) : ∃ m : Int, v = .int m ∧ 0 < m ∧ m ≤ 1000000 := by
  rcases List.mem_cons.mp h with rfl | h
  · exact ⟨_, rfl, by decide, by decide⟩
  rcases List.mem_cons.mp h with rfl | h
  · exact ⟨_, rfl, by decide, by decide⟩
  rcases List.mem_cons.mp h with rfl | h
  · exact ⟨_, rfl, by decide, by decide⟩
  · cases h
theorem lawLows_in {v : PyData} (h : v ∈ lawLows) : ∃ m : Int, v = .int m ∧ 0 < m ∧ m ≤ 1000 := by
  rcases List.mem_cons.mp h with rfl | h
  · exact ⟨_, rfl, by decide, by decide⟩
  rcases List.mem_cons.mp h with rfl | h
  · exact ⟨_, rfl, by decide, by decide⟩
  rcases List.mem_cons.mp h with rfl | h
  · exact ⟨_, rfl, by decide, by decide⟩
  · cases h
section
variable {P : Program} {w : World} {K : PySem.W.Frag} {mg : Str → Option Value} {base : Heap}
theorem ev_taken5 {X : Cx} {b : Bs} {pos p : Pos} {e1 e2 : Expr} {g : List DV} {Pt a : Addr} (T : Tx X.K X.mg) (hK : X.K = b.K) (hr : Room 1 X.A) (ne : Pt ≠ a) {R0 R1 R' : Row} {m v : Int} (hR : R1.Ok) (m0 : 0 < m) (mz : Sz 60 m) (hv : (R1.step m).1 = v) (hR' : (R1.step m).2 = R')
    (h1 : EV X b e1 (gL Pt a R0 g) (.m a) (gL Pt a R0 g)) (h2 : EV X b e2 (gL Pt a R0 g) (.d (.int m)) (gL Pt a R1 g)) (hg : Gl X "_law_taken" := by rfl)
    (he : starEach [e1, e2] X.env = (false, eval e1 X.env) :: starEach [e2] X.env := by rfl) (he2 : starEach [e2] X.env = (false, eval e2 X.env) :: starEach [] X.env := by rfl) (hpl : (backTo pos (starEach [e2] X.env)).any (·.1) = false := by rfl) :
    EV X b (.Call (.Name "_law_taken" p) [e1, e2] [] pos) (gL Pt a R0 g) (.d (.int v)) (gL Pt a R' g) :=
  ev_taken3 T hK hr ne hR m0 mz hv hR' (ea_cons h1 (ea_cons h2 ea_nil he2) he) hg he hpl
theorem seg3 (T : Tx K mg) (TE : TxE T) (TM : TxM T) (c Pt a : Addr) (TB : TabB base mg c Pt) (hcode : T.d_law.fd.code = .ref c) (hNS : base.NoSeer) (htr : P.given.tree = none) (ne : Pt ≠ a) (A : Around) (outer : List Env) (s : Shared) (H : Hp) (E : XK) (b : Bs) (hK : b.K = K)
    (hr : Room 45 (XL P w K mg base T A outer s H E).A) (R : Row) (hR : R.Ok) (top : Int) (low : Nat) (t0 : 0 ≤ top) (t1 : top < 1000000) (l0 : 0 < low) (l1 : low ≤ 1000) (x0 x4 x5 x6 x7 x8 x9 x10 x11 x12 x13 x14 x15 : DV) :
    SX (XL P w K mg base T A outer s H E) b ((defBody s_law).drop 3) (gL Pt a R [x0, .m a, .d (.int top), .d (.int (low : Int)), x4, x5, x6, x7, x8, x9, x10, x11, x12, x13, x14, x15]) (lawDE Pt) := by
  obtain ⟨q, hq, n0, n1, n2⟩ : ∃ q : Rat, frD (red top (low : Int)) = qD q ∧ 0 ≤ q.num ∧ q.num.natAbs < 2 ^ 20 ∧ q.den ≤ 1000 := by
    obtain ⟨a1, a2⟩ := num_mk (n := top) (d := low) (by omega)
    have a3 := Nat.le_of_dvd (by omega) (den_mk top (D := low) (by omega))
    exact ⟨mkRat top low, by rw [red_mk _ _ (by omega)], a2 t0, by omega, by omega⟩
  obtain ⟨k1, k2, k3⟩ := root_sq n0 n1 n2
  refine sx_cons (sy_asg (i := 4) (x := .d (qD q)) (S1 := gL Pt a R [x0, .m a, .d (.int top), .d (.int (low : Int)), x4, x5, x6, x7, x8, x9, x10, x11, x12, x13, x14, x15]) (ev_call (ok_law_fr T) hK.symm (hr.mono (by decide)) rfl T.d_law_fr.m T.d_law_fr.F.kp T.d_law_fr.b pass0 (ds := [.int top, .int (low : Int)]) (ea_cons (vn 2) (ea_cons (vn 3) ea_nil)) ⟨_, _, rfl, by omega, (Sz.nat (a := 10) (by omega)).mono (by decide), hq.symm⟩) sc_law.nd rfl (.inl rfl) li ?_)
  refine sx_cons (sy_if (S1 := gL Pt a R [x0, .m a, .d (.int top), .d (.int (low : Int)), .d (qD q), x5, x6, x7, x8, x9, x10, x11, x12, x13, x14, x15]) (t := !true || !PyData.eqv (sD (lofL q)) (sD (lofL q))) (et_w (ew_or (et_not (et_val (ev_call (ok_law_alike T 3) hK.symm (hr.mono (by decide)) rfl T.d_law_alike.m T.d_law_alike.F.kp T.d_law_alike.b pass0 (ds := [sD (rootL q), sD (rootL q)]) (ea_cons (ev_callX (ok_root T TE) hK.symm (hr.mono (by decide)) rfl T.d_root.m T.d_root.F.kp T.d_root.b passF (ds := [_]) (ea_cons (vn 4) ea_nil) (root_val _ n0 n1 n2)) (ea_cons (ev_call (ok_law_root T) hK.symm (hr.mono (by decide)) rfl T.d_law_root.m T.d_law_root.F.kp T.d_law_root.b pass0 (ds := [_]) (ea_cons (vn 4) ea_nil) (lroot_val n0 n1 n2)) ea_nil)) ⟨_, rfl, alk_sD (by omega), rfl⟩))) fun _ => et_or1 (et_ne hK.symm (Nat.lt_of_le_of_lt (Nat.le_refl _) hr.units) (ev_callX (ok_times T TE) hK.symm (hr.mono (by decide)) rfl T.d_times.m T.d_times.F.kp T.d_times.b passF (ds := [_, _]) (ea_cons (ev_callX (ok_root T TE) hK.symm (hr.mono (by decide)) rfl T.d_root.m T.d_root.F.kp T.d_root.b passF (ds := [_]) (ea_cons (vn 4) ea_nil) (root_val _ n0 n1 n2)) (ea_cons (ev_callX (ok_root T TE) hK.symm (hr.mono (by decide)) rfl T.d_root.m T.d_root.F.kp T.d_root.b passF (ds := [_]) (ea_cons (vn 4) ea_nil) (root_val _ n0 n1 n2)) ea_nil)) ⟨_, _, rfl, .inr (.inr ⟨k2, k2, _, k1, rfl⟩)⟩) (ev_call (ok_law_of T) hK.symm (hr.mono (by decide)) rfl T.d_law_of.m T.d_law_of.F.kp T.d_law_of.b pass0 (ds := [_]) (ea_cons (vn 4) ea_nil) (lof_q q)) (sD_shaped _) (sD_shaped _)))) (fun h => by rw [eqv_sD] at h; cases h) fun _ => sx_nil ?_)
  exact seg5 T TE TM c Pt a TB hcode hNS htr ne A outer s H E b hK hr R hR x0 (.d (.int top)) (.d (.int (low : Int))) (.d (qD q)) x5 x6 x7 x8 x9 x10 x11 x12 x13 x14 x15
theorem seg1 (T : Tx K mg) (TE : TxE T) (TM : TxM T) (c Pt a : Addr) (TB : TabB base mg c Pt) (hcode : T.d_law.fd.code = .ref c) (hNS : base.NoSeer) (htr : P.given.tree = none) (ne : Pt ≠ a) (A : Around) (outer : List Env) (s : Shared) (H : Hp) (E : XK) (b : Bs) (hK : b.K = K)
    (hr : Room 45 (XL P w K mg base T A outer s H E).A) (R : Row) (hR : R.Ok) (x0 x2 x3 x4 x5 x6 x7 x8 x9 x10 x11 x12 x13 x14 x15 : DV) :
    SX (XL P w K mg base T A outer s H E) b ((defBody s_law).drop 1) (gL Pt a R [x0, .m a, x2, x3, x4, x5, x6, x7, x8, x9, x10, x11, x12, x13, x14, x15]) (lawDE Pt) := by
  obtain ⟨d1, R1, v1, q1, m1, o1⟩ := pick_some hR (xs := lawTops) (by decide)
  obtain ⟨n1, rfl, p1, z1⟩ := lawTops_in m1
  obtain ⟨top, R2, v2, q2, t0, t1, o2⟩ := step_some o1 p1
  refine sx_cons (sy_asg (i := 2) (x := .d (.int top)) (S1 := gL Pt a R2 [x0, .m a, x2, x3, x4, x5, x6, x7, x8, x9, x10, x11, x12, x13, x14, x15]) (ev_taken5 T hK.symm (hr.mono (by decide)) ne o1 p1 (by unfold Sz; omega) v2 q2 (vn 1) (ev_pick4 T hK.symm (hr.mono (by decide)) ne hR (xs := lawTops) (by decide) (by decide) v1 q1 (vn 1) (ev_lst (ds := lawTops) (ea_cons ev_int (ea_cons ev_int (ea_cons (ev_pow ev_int ev_int ⟨by decide, by decide, by decide⟩) ea_nil))) lq) (by rfl) st_N st_L hpl_L)) sc_law.nd rfl (.inl rfl) li ?_)
  show SX _ _ _ (gL Pt a R2 [x0, .m a, .d (.int top), x3, x4, x5, x6, x7, x8, x9, x10, x11, x12, x13, x14, x15]) _
  obtain ⟨d3, R3, v3, q3, m3, o3⟩ := pick_some o2 (xs := lawLows) (by decide)
  obtain ⟨n3, rfl, p3, z3⟩ := lawLows_in m3
  obtain ⟨lo, R4, v4, q4, l0, l1, o4⟩ := step_some o3 p3
  refine sx_cons (sy_asg (i := 3) (x := .d (.int (1 + lo))) (S1 := gL Pt a R4 [x0, .m a, .d (.int top), x3, x4, x5, x6, x7, x8, x9, x10, x11, x12, x13, x14, x15]) (ev_add ev_int (ev_taken5 T hK.symm (hr.mono (by decide)) ne o3 p3 (by unfold Sz; omega) v4 q4 (vn 1) (ev_pick4 T hK.symm (hr.mono (by decide)) ne o2 (xs := lawLows) (by decide) (by decide) v3 q3 (vn 1) (ev_lst (ds := lawLows) (ea_cons ev_int (ea_cons ev_int (ea_cons ev_int ea_nil))) lq) (by rfl) st_N st_L hpl_L))) sc_law.nd rfl (.inl rfl) li ?_)
  obtain ⟨low, e⟩ : ∃ n : Nat, 1 + lo = (n : Int) := ⟨(1 + lo).toNat, by omega⟩
  rw [e]
  exact seg3 T TE TM c Pt a TB hcode hNS htr ne A outer s H E b hK hr R4 o4 top low t0 (by omega) (by omega) (by omega) x0 x4 x5 x6 x7 x8 x9 x10 x11 x12 x13 x14 x15
end
end K0
end
section
set_option Elab.async false
set_option linter.all false
set_option maxRecDepth 100000
set_option maxHeartbeats 4000000
set_option exponentiation.threshold 300000
namespace K0
open PySem PySem.Spec PyProof.Rows L2 DX LamX
set_option autoImplicit false
def r_law (ds : List PyData) (d : PyData) : Prop := ∃ sc : List Int, ds = [.list (sc.map .int)] ∧ d = .bool true
section
variable {P : Program} {w : World} {K : PySem.W.Frag} {mg : Str → Option Value} {base : Heap}
theorem ok_law (T : Tx K mg) (TE : TxE T) (TM : TxM T) (c Pt : Addr) (TB : TabB base mg c Pt) (hcode : T.d_law.fd.code = .ref c) (hNS : base.NoSeer) (htr : P.given.tree = none) :
    FnOk P w K mg base CX0 46 T.d_law.fa T.d_law.fd P_law (FT K Pt lawQ r_law) := by
  refine ft_ok T.d_law.F sc_law (fun ds d h => ?_) fun A outer s H E b hK hr ds d h => ?_
  · obtain ⟨sc, rfl, _⟩ := h
    rfl
  · obtain ⟨sc, rfl, rfl⟩ := h
    refine sx_cons (sy_newL (i := 1) (ds := [.list (sc.map .int), .int 0, .int 6000, .int 0]) (S1 := ⟨gStart N_law [.d (.list (sc.map .int))], [(Pt, .tab lawQ)]⟩) (ea_cons (vn 0) (ea_cons ev_int (ea_cons ev_int (ea_cons ev_int ea_nil)))) lq sc_law.nd rfl (.inl rfl) li fun a => ?_)
    by_cases ne : Pt = a
    · refine sx_vac ?_
      subst ne
      intro h
      have h2 : [Pt, Pt].Nodup := h
      simp at h2
    · exact seg1 T TE TM c Pt a TB hcode hNS htr ne A outer s H E b hK hr ⟨sc, 0, 6000, 0⟩ ⟨show (0 : Int) ≤ 6000 by decide, show (6000 : Int) < 2147483647 by decide, show (0 : Int) ≤ 0 by decide⟩ (.d (.list (sc.map .int))) .no .no .no .no .no .no .no .no .no .no .no .no .no .no
end
end K0
end
section
set_option Elab.async false
set_option linter.all false
set_option maxRecDepth 100000
set_option maxHeartbeats 0
namespace K0
open PySem PySem.Spec PyProof.Rows L2 DX LamX
set_option autoImplicit false
/-! the head: facts by names -/
def dOf (x : Str) (st : Stmt) : He.FnD := ⟨(x, none), x, x, defArgs st, defBody st, defScope st⟩
def fnA : List He.FnD := [dOf "is_whole" s_is_whole, dOf "is_pair" s_is_pair, dOf "is_fraction" s_is_fraction, dOf "rises" s_rises, dOf "reduced" s_reduced, dOf "fraction_plus" s_fraction_plus, dOf "fraction_times" s_fraction_times, dOf "square_split" s_square_split, dOf "collected" s_collected, dOf "root_sum" s_root_sum, dOf "sum_plus" s_sum_plus, dOf "pair_times" s_pair_times, dOf "sum_times" s_sum_times, dOf "over_one_low" s_over_one_low, dOf "between" s_between, dOf "sum_sign" s_sum_sign, dOf "sum_figures" s_sum_figures, dOf "is_sum_pair" s_is_sum_pair, dOf "is_sum" s_is_sum, dOf "check_sum" s_check_sum, dOf "root" s_root]
def fnB : List He.FnD := [dOf "plus" s_plus, dOf "times" s_times, dOf "sign" s_sign, dOf "figures" s_figures, dOf "_law_taken" s_law_taken, dOf "_law_pick" s_law_pick, dOf "_law_alike" s_law_alike, dOf "_law_fr" s_law_fr, dOf "_law_plus" s_law_plus, dOf "_law_times" s_law_times, dOf "_law_floor_root" s_law_floor_root, dOf "_law_side" s_law_side, dOf "_law_root" s_law_root, dOf "_law_of" s_law_of, dOf "_law_add" s_law_add, dOf "_law_multiply" s_law_multiply, dOf "_law_span" s_law_span, dOf "_law_sign" s_law_sign, dOf "_law_drawn" s_law_drawn, dOf "_law_told" s_law_told, dOf "law" s_law]
def fnL : List He.FnD := fnA ++ fnB
def defNames : List Str := fnL.map (·.name)
def faO : List He.Fa := [.glo "TreeError", .glo "BadFraction", .glo "BadSum", .glo "BadNumber", .exc "BadFraction", .exc "BadSum", .exc "BadNumber", .exm "BadSum" "BadSum" true, .exm "BadFraction" "BadSum" false, .exm "BadFraction" "BadFraction" true, .exm "BadNumber" "BadSum" false, .exm "BadNumber" "BadFraction" false, .exm "BadNumber" "BadNumber" true, .int "ROOT_MOST" (10 ^ 9), .int "ROOT_MOST_LOW" (1000), .int "SUM_MOST_PAIRS" (20), .int "SUM_MOST_RADICAND" (10 ^ 15), .int "FIGURES_MOST_BITS" (200)]
def faF : List He.Fa := [.free "ValueError", .free "all", .free "bool", .free "int", .free "isinstance", .free "len", .free "list", .free "max", .free "min", .free "range", .free "sorted", .free "str", .free "tuple", .free "zip"]
def faL : List He.Fa := defNames.map He.Fa.glo ++ defNames.map He.Fa.keep ++ (faO ++ faF)
def isTab (o : Obj) : Bool := match o.cls, o.data with
  | .none, .fields vs => vs.isEmpty
  | _, _ => false
def sysOk (K : PySem.W.Frag) : Bool := (K.lookup cStatics).isSome && ((K.lookup sysModules).isSome && ((K.lookup builtinsNs).isSome && (K.all (fun p => !isTab p.2) && (He.eqO (PySem.W.nsIn K mainGlobals "gcd") (some (some (.builtin "math.gcd"))) && (He.eqO (PySem.W.nsIn K mainGlobals "isqrt") (some (some (.builtin "math.isqrt"))) && He.eqO (PySem.W.nsIn K mainGlobals "lcm") (some (some (.builtin "math.lcm"))))))))
abbrev AlS : Type := Bool × He.Al
def obsK (K : PySem.W.Frag) : AlS := (sysOk K, He.obsE faL fnL K)
def obsS (g : Addr → Option Obj) : AlS := obsK (He.frG g (cStatics :: sysModules :: builtinsNs :: He.asG g 2))
def hkS : PySem.W.Hook where
  α := AlS
  obs := fun s => obsS s.heap.get?
  val := fun _ => (true, He.valE fnL)
  says := fun _ h => ∃ K : PySem.W.Frag, K.In h ∧ sysOk K = true ∧ He.SaysE faL fnL K
  of := fun _ _ e => ⟨_, He.frG_in, congrArg (fun z : AlS => z.1) e, congrArg (fun z : AlS => z.2) e⟩
  keeps := fun _ _ _ ⟨K, hK, c⟩ k => ⟨K, PySem.W.Frag.In.keeps hK k, c⟩
abbrev RR : PySem.W.OpenRow := PySem.W.OpenLaw.row PySem.Challenge.rw_treespace_k00_whole_sums
def obT (s : PySem.W.SharedT) : hkS.α := obsS (HandSHeadRun.getT s)
theorem obT_eq (s : PySem.W.SharedT) : obT s = hkS.obs s.abs := by
  show obsS (HandSHeadRun.getT s) = obsS s.abs.heap.get?
  rw [show HandSHeadRun.getT s = s.abs.heap.get? from funext (HandSHeadRun.getT_eq s)]
def looseA : List Str := ["__name__", "is_whole", "is_pair", "is_fraction", "rises", "TreeError", "BadFraction", "BadSum", "BadNumber", "reduced", "fraction_plus", "fraction_times", "square_split", "collected", "root_sum", "sum_plus", "pair_times", "sum_times", "over_one_low", "between", "sum_sign", "sum_figures", "ROOT_MOST", "ROOT_MOST_LOW", "SUM_MOST_PAIRS"]
def looseB : List Str := ["SUM_MOST_RADICAND", "FIGURES_MOST_BITS", "is_sum_pair", "is_sum", "check_sum", "root", "plus", "times", "sign", "figures", "_law_taken", "_law_pick", "_law_alike", "_law_fr", "_law_plus", "_law_times", "_law_floor_root", "_law_side", "_law_root", "_law_of", "_law_add", "_law_multiply", "_law_span", "_law_sign", "_law_drawn", "_law_told"]
theorem runK (w : World) : HandSHeadRun.RunEqI RR (PySem.W.view RR.prog [0, 56]) hkS obT 6000 (looseA ++ looseB) w := by
  unfold HandSHeadRun.RunEqI
  kernel_rfl
end K0
end
section
set_option Elab.async false
set_option linter.all false
set_option maxRecDepth 100000
set_option maxHeartbeats 4000000
namespace K0
open PySem PySem.Spec PyProof.Rows L2 DX LamX
set_option autoImplicit false
section
variable {K : PySem.W.Frag} {h : Heap} {mg : Str → Option Value}
def BindOk (x : Str) (st : Stmt) (ps : List Str) : Prop := ∀ (kV doc pm : Value) (an : Option Addr) (cdv ct : Value) (us : List Value), us.length = ps.length → bindArgs (PySem.W.fnOf x x (defArgs st) (defBody st) (defScope st) .none kV doc pm an cdv ct) ⟨us, []⟩ = pure (ps.zip us)
theorem mkDef (X : K.In h) (G : h.Ns mainGlobals mg) (c : He.SaysE faL fnL K) (i : Nat) {x : Str} {st : Stmt} {ps : List Str} (hb : BindOk x st ps) (hi : fnL[i]? = some (dOf x st) := by rfl) (hg : faL[i]? = some (.glo x) := by rfl) (hk : faL[42 + i]? = some (.keep x) := by rfl) : Nonempty (Def1 K mg x st ps) := by
  obtain ⟨oc, od, osl, kV, doc, pm, an, cdv, ct, l, hc⟩ := c.def_ i hi
  have kp := He.keep_ok (c.fact (42 + i) hk)
  have hm := He.glo_ok X G (c.fact i hg)
  have F : Fun K x x st (He.ga K x) _ := fun_mk l hc kp
  exact ⟨⟨He.ga K x, _, F, hm, F.binds hb⟩⟩
theorem law_binds {K : PySem.W.Frag} {x : Str} {st : Stmt} {ps : List Str} {f : Addr} {fd : FuncData} (F : Fun K x x st f fd) (hb : BindOk x st ps) (s : Shared) (us : List Value) (hl : us.length = ps.length) : BindsTo s fd ⟨us, []⟩ (ps.zip us) := by
  obtain ⟨oc, od, kV, doc, pm, an, cdv, ct, osl, rfl, lk, hcd⟩ := F.ex
  exact .of_eq (hb kV doc pm an cdv ct us hl)
theorem excK {x : Str} (c : (He.Fa.exc x).ok K = true) : ExcK K (He.ga K x) := by
  obtain ⟨a, b, d, e⟩ := He.exc_ok c
  exact ⟨a, b, d, e⟩
theorem b_is_whole : BindOk "is_whole" s_is_whole P_is_whole := fun _ _ _ _ _ _ us hl => match us, hl with
  | [_], _ => rfl
theorem b_is_pair : BindOk "is_pair" s_is_pair P_is_pair := fun _ _ _ _ _ _ us hl => match us, hl with
  | [_], _ => rfl
theorem b_is_fraction : BindOk "is_fraction" s_is_fraction P_is_fraction := fun _ _ _ _ _ _ us hl => match us, hl with
  | [_], _ => rfl
theorem b_rises : BindOk "rises" s_rises P_rises := fun _ _ _ _ _ _ us hl => match us, hl with
  | [_], _ => rfl
theorem b_reduced : BindOk "reduced" s_reduced P_reduced := fun _ _ _ _ _ _ us hl => match us, hl with
  | [_, _], _ => rfl
theorem b_fraction_plus : BindOk "fraction_plus" s_fraction_plus P_fraction_plus := fun _ _ _ _ _ _ us hl => match us, hl with
  | [_, _], _ => rfl
theorem b_fraction_times : BindOk "fraction_times" s_fraction_times P_fraction_times := fun _ _ _ _ _ _ us hl => match us, hl with
  | [_, _], _ => rfl
theorem b_square_split : BindOk "square_split" s_square_split P_square_split := fun _ _ _ _ _ _ us hl => match us, hl with
  | [_], _ => rfl
theorem b_collected : BindOk "collected" s_collected P_collected := fun _ _ _ _ _ _ us hl => match us, hl with
  | [_], _ => rfl
theorem b_root_sum : BindOk "root_sum" s_root_sum P_root_sum := fun _ _ _ _ _ _ us hl => match us, hl with
  | [_], _ => rfl
theorem b_sum_plus : BindOk "sum_plus" s_sum_plus P_sum_plus := fun _ _ _ _ _ _ us hl => match us, hl with
  | [_, _], _ => rfl
theorem b_pair_times : BindOk "pair_times" s_pair_times P_pair_times := fun _ _ _ _ _ _ us hl => match us, hl with
  | [_, _], _ => rfl
theorem b_sum_times : BindOk "sum_times" s_sum_times P_sum_times := fun _ _ _ _ _ _ us hl => match us, hl with
  | [_, _], _ => rfl
theorem b_over_one_low : BindOk "over_one_low" s_over_one_low P_over_one_low := fun _ _ _ _ _ _ us hl => match us, hl with
  | [_], _ => rfl
theorem b_between : BindOk "between" s_between P_between := fun _ _ _ _ _ _ us hl => match us, hl with
  | [_, _], _ => rfl
theorem b_sum_sign : BindOk "sum_sign" s_sum_sign P_sum_sign := fun _ _ _ _ _ _ us hl => match us, hl with
  | [_], _ => rfl
theorem b_sum_figures : BindOk "sum_figures" s_sum_figures P_sum_figures := fun _ _ _ _ _ _ us hl => match us, hl with
  | [_, _], _ => rfl
theorem b_is_sum_pair : BindOk "is_sum_pair" s_is_sum_pair P_is_sum_pair := fun _ _ _ _ _ _ us hl => match us, hl with
  | [_], _ => rfl
theorem b_is_sum : BindOk "is_sum" s_is_sum P_is_sum := fun _ _ _ _ _ _ us hl => match us, hl with
  | [_], _ => rfl
theorem b_check_sum : BindOk "check_sum" s_check_sum P_check_sum := fun _ _ _ _ _ _ us hl => match us, hl with
  | [_], _ => rfl
theorem b_root : BindOk "root" s_root P_root := fun _ _ _ _ _ _ us hl => match us, hl with
  | [_], _ => rfl
theorem b_plus : BindOk "plus" s_plus P_plus := fun _ _ _ _ _ _ us hl => match us, hl with
  | [_, _], _ => rfl
theorem b_times : BindOk "times" s_times P_times := fun _ _ _ _ _ _ us hl => match us, hl with
  | [_, _], _ => rfl
theorem b_sign : BindOk "sign" s_sign P_sign := fun _ _ _ _ _ _ us hl => match us, hl with
  | [_], _ => rfl
theorem b_figures : BindOk "figures" s_figures P_figures := fun _ _ _ _ _ _ us hl => match us, hl with
  | [_, _], _ => rfl
theorem b_law_taken : BindOk "_law_taken" s_law_taken P_law_taken := fun _ _ _ _ _ _ us hl => match us, hl with
  | [_, _], _ => rfl
theorem b_law_pick : BindOk "_law_pick" s_law_pick P_law_pick := fun _ _ _ _ _ _ us hl => match us, hl with
  | [_, _], _ => rfl
theorem b_law_alike : BindOk "_law_alike" s_law_alike P_law_alike := fun _ _ _ _ _ _ us hl => match us, hl with
  | [_, _], _ => rfl
theorem b_law_fr : BindOk "_law_fr" s_law_fr P_law_fr := fun _ _ _ _ _ _ us hl => match us, hl with
  | [_, _], _ => rfl
theorem b_law_plus : BindOk "_law_plus" s_law_plus P_law_plus := fun _ _ _ _ _ _ us hl => match us, hl with
  | [_, _], _ => rfl
theorem b_law_times : BindOk "_law_times" s_law_times P_law_times := fun _ _ _ _ _ _ us hl => match us, hl with
  | [_, _], _ => rfl
theorem b_law_floor_root : BindOk "_law_floor_root" s_law_floor_root P_law_floor_root := fun _ _ _ _ _ _ us hl => match us, hl with
  | [_], _ => rfl
theorem b_law_side : BindOk "_law_side" s_law_side P_law_side := fun _ _ _ _ _ _ us hl => match us, hl with
  | [_], _ => rfl
theorem b_law_root : BindOk "_law_root" s_law_root P_law_root := fun _ _ _ _ _ _ us hl => match us, hl with
  | [_], _ => rfl
theorem b_law_of : BindOk "_law_of" s_law_of P_law_of := fun _ _ _ _ _ _ us hl => match us, hl with
  | [_], _ => rfl
theorem b_law_add : BindOk "_law_add" s_law_add P_law_add := fun _ _ _ _ _ _ us hl => match us, hl with
  | [_, _, _], _ => rfl
theorem b_law_multiply : BindOk "_law_multiply" s_law_multiply P_law_multiply := fun _ _ _ _ _ _ us hl => match us, hl with
  | [_, _], _ => rfl
theorem b_law_span : BindOk "_law_span" s_law_span P_law_span := fun _ _ _ _ _ _ us hl => match us, hl with
  | [_, _], _ => rfl
theorem b_law_sign : BindOk "_law_sign" s_law_sign P_law_sign := fun _ _ _ _ _ _ us hl => match us, hl with
  | [_], _ => rfl
theorem b_law_drawn : BindOk "_law_drawn" s_law_drawn P_law_drawn := fun _ _ _ _ _ _ us hl => match us, hl with
  | [_], _ => rfl
theorem b_law_told : BindOk "_law_told" s_law_told P_law_told := fun _ _ _ _ _ _ us hl => match us, hl with
  | [_], _ => rfl
theorem b_law : BindOk "law" s_law P_law := fun _ _ _ _ _ _ us hl => match us, hl with
  | [_], _ => rfl
theorem mkTx (X : K.In h) (G : h.Ns mainGlobals mg) (c : He.SaysE faL fnL K) (y : sysOk K = true) : ∃ T : Tx K mg, TxE T ∧ TxM T := by
  have y1 := (He.ba (He.ba (He.ba (He.ba y).2).2).2).2
  obtain ⟨y2, y3⟩ := He.ba y1
  obtain ⟨y4, y5⟩ := He.ba y3
  obtain ⟨d_is_whole⟩ := mkDef X G c 0 b_is_whole
  obtain ⟨d_is_pair⟩ := mkDef X G c 1 b_is_pair
  obtain ⟨d_is_fraction⟩ := mkDef X G c 2 b_is_fraction
  obtain ⟨d_rises⟩ := mkDef X G c 3 b_rises
  obtain ⟨d_reduced⟩ := mkDef X G c 4 b_reduced
  obtain ⟨d_fraction_plus⟩ := mkDef X G c 5 b_fraction_plus
  obtain ⟨d_fraction_times⟩ := mkDef X G c 6 b_fraction_times
  obtain ⟨d_square_split⟩ := mkDef X G c 7 b_square_split
  obtain ⟨d_collected⟩ := mkDef X G c 8 b_collected
  obtain ⟨d_root_sum⟩ := mkDef X G c 9 b_root_sum
  obtain ⟨d_sum_plus⟩ := mkDef X G c 10 b_sum_plus
  obtain ⟨d_pair_times⟩ := mkDef X G c 11 b_pair_times
  obtain ⟨d_sum_times⟩ := mkDef X G c 12 b_sum_times
  obtain ⟨d_over_one_low⟩ := mkDef X G c 13 b_over_one_low
  obtain ⟨d_between⟩ := mkDef X G c 14 b_between
  obtain ⟨d_sum_sign⟩ := mkDef X G c 15 b_sum_sign
  obtain ⟨d_sum_figures⟩ := mkDef X G c 16 b_sum_figures
  obtain ⟨d_is_sum_pair⟩ := mkDef X G c 17 b_is_sum_pair
  obtain ⟨d_is_sum⟩ := mkDef X G c 18 b_is_sum
  obtain ⟨d_check_sum⟩ := mkDef X G c 19 b_check_sum
  obtain ⟨d_root⟩ := mkDef X G c 20 b_root
  obtain ⟨d_plus⟩ := mkDef X G c 21 b_plus
  obtain ⟨d_times⟩ := mkDef X G c 22 b_times
  obtain ⟨d_sign⟩ := mkDef X G c 23 b_sign
  obtain ⟨d_figures⟩ := mkDef X G c 24 b_figures
  obtain ⟨d_law_taken⟩ := mkDef X G c 25 b_law_taken
  obtain ⟨d_law_pick⟩ := mkDef X G c 26 b_law_pick
  obtain ⟨d_law_alike⟩ := mkDef X G c 27 b_law_alike
  obtain ⟨d_law_fr⟩ := mkDef X G c 28 b_law_fr
  obtain ⟨d_law_plus⟩ := mkDef X G c 29 b_law_plus
  obtain ⟨d_law_times⟩ := mkDef X G c 30 b_law_times
  obtain ⟨d_law_floor_root⟩ := mkDef X G c 31 b_law_floor_root
  obtain ⟨d_law_side⟩ := mkDef X G c 32 b_law_side
  obtain ⟨d_law_root⟩ := mkDef X G c 33 b_law_root
  obtain ⟨d_law_of⟩ := mkDef X G c 34 b_law_of
  obtain ⟨d_law_add⟩ := mkDef X G c 35 b_law_add
  obtain ⟨d_law_multiply⟩ := mkDef X G c 36 b_law_multiply
  obtain ⟨d_law_span⟩ := mkDef X G c 37 b_law_span
  obtain ⟨d_law_sign⟩ := mkDef X G c 38 b_law_sign
  obtain ⟨d_law_drawn⟩ := mkDef X G c 39 b_law_drawn
  obtain ⟨d_law_told⟩ := mkDef X G c 40 b_law_told
  obtain ⟨d_law⟩ := mkDef X G c 41 b_law
  refine ⟨{ d_is_whole := d_is_whole, d_is_pair := d_is_pair, d_is_fraction := d_is_fraction, d_rises := d_rises, d_reduced := d_reduced, d_fraction_plus := d_fraction_plus, d_fraction_times := d_fraction_times, d_square_split := d_square_split, d_collected := d_collected, d_root_sum := d_root_sum, d_sum_plus := d_sum_plus, d_pair_times := d_pair_times, d_sum_times := d_sum_times, d_over_one_low := d_over_one_low, d_between := d_between, d_sum_sign := d_sum_sign, d_sum_figures := d_sum_figures, d_is_sum_pair := d_is_sum_pair, d_is_sum := d_is_sum, d_check_sum := d_check_sum, d_root := d_root, d_plus := d_plus, d_times := d_times, d_sign := d_sign, d_figures := d_figures, d_law_taken := d_law_taken, d_law_pick := d_law_pick, d_law_alike := d_law_alike, d_law_fr := d_law_fr, d_law_plus := d_law_plus, d_law_times := d_law_times, d_law_floor_root := d_law_floor_root, d_law_side := d_law_side, d_law_root := d_law_root, d_law_of := d_law_of, d_law_add := d_law_add, d_law_multiply := d_law_multiply, d_law_span := d_law_span, d_law_sign := d_law_sign, d_law_drawn := d_law_drawn, d_law_told := d_law_told, d_law := d_law, c_TreeError := He.ga K "TreeError", m_TreeError := He.glo_ok X G (c.fact 84 (f := .glo "TreeError") rfl), c_BadFraction := He.ga K "BadFraction", m_BadFraction := He.glo_ok X G (c.fact 85 (f := .glo "BadFraction") rfl), c_BadSum := He.ga K "BadSum", m_BadSum := He.glo_ok X G (c.fact 86 (f := .glo "BadSum") rfl), c_BadNumber := He.ga K "BadNumber", m_BadNumber := He.glo_ok X G (c.fact 87 (f := .glo "BadNumber") rfl), i_gcd := PySem.W.mg_of X G (He.eqO_ok y2), i_isqrt := PySem.W.mg_of X G (He.eqO_ok y4), i_lcm := PySem.W.mg_of X G (He.eqO_ok y5), g_ROOT_MOST := He.int_ok X G (c.fact 97 (f := .int "ROOT_MOST" (10 ^ 9)) rfl), g_ROOT_MOST_LOW := He.int_ok X G (c.fact 98 (f := .int "ROOT_MOST_LOW" (1000)) rfl), g_SUM_MOST_PAIRS := He.int_ok X G (c.fact 99 (f := .int "SUM_MOST_PAIRS" (20)) rfl), g_SUM_MOST_RADICAND := He.int_ok X G (c.fact 100 (f := .int "SUM_MOST_RADICAND" (10 ^ 15)) rfl), g_FIGURES_MOST_BITS := He.int_ok X G (c.fact 101 (f := .int "FIGURES_MOST_BITS" (200)) rfl), n_ValueError := He.free_ok X G (c.fact 102 (f := .free "ValueError") rfl), n_all := He.free_ok X G (c.fact 103 (f := .free "all") rfl), n_bool := He.free_ok X G (c.fact 104 (f := .free "bool") rfl), n_int := He.free_ok X G (c.fact 105 (f := .free "int") rfl), n_isinstance := He.free_ok X G (c.fact 106 (f := .free "isinstance") rfl), n_len := He.free_ok X G (c.fact 107 (f := .free "len") rfl), n_list := He.free_ok X G (c.fact 108 (f := .free "list") rfl), n_max := He.free_ok X G (c.fact 109 (f := .free "max") rfl), n_min := He.free_ok X G (c.fact 110 (f := .free "min") rfl), n_range := He.free_ok X G (c.fact 111 (f := .free "range") rfl), n_sorted := He.free_ok X G (c.fact 112 (f := .free "sorted") rfl), n_str := He.free_ok X G (c.fact 113 (f := .free "str") rfl), n_tuple := He.free_ok X G (c.fact 114 (f := .free "tuple") rfl), n_zip := He.free_ok X G (c.fact 115 (f := .free "zip") rfl) }, ⟨?_, ?_, ?_⟩, ⟨?_, ?_, ?_, ?_, ?_, ?_⟩⟩
  · exact excK (c.fact 89 (f := .exc "BadSum") rfl)
  · exact excK (c.fact 88 (f := .exc "BadFraction") rfl)
  · exact excK (c.fact 90 (f := .exc "BadNumber") rfl)
  · exact He.exm_ok (c.fact 91 (f := .exm "BadSum" "BadSum" true) rfl)
  · exact He.exm_ok (c.fact 92 (f := .exm "BadFraction" "BadSum" false) rfl)
  · exact He.exm_ok (c.fact 93 (f := .exm "BadFraction" "BadFraction" true) rfl)
  · exact He.exm_ok (c.fact 94 (f := .exm "BadNumber" "BadSum" false) rfl)
  · exact He.exm_ok (c.fact 95 (f := .exm "BadNumber" "BadFraction" false) rfl)
  · exact He.exm_ok (c.fact 96 (f := .exm "BadNumber" "BadNumber" true) rfl)
end
end K0
end
section
set_option Elab.async false
set_option linter.all false
set_option maxRecDepth 100000
set_option maxHeartbeats 4000000
namespace K0
open PySem PySem.Spec PyProof.Rows L2 DX LamX
set_option autoImplicit false
theorem ns_to {K : PySem.W.Frag} {h base : Heap} {a : Addr} {m : Str → Option Value} (X : K.In h) (Xb : K.In base) (e : (K.lookup a).isSome = true) (n : h.Ns a m) : base.Ns a m := by
  obtain ⟨o, es, ep, ho, r⟩ := n
  cases q : K.lookup a with
  | none => rw [q] at e; cases e
  | some o' =>
    have h1 := X a o' q
    rw [ho] at h1
    cases h1
    exact ⟨o, es, ep, Xb a o q, r⟩
theorem seer_base {K : PySem.W.Frag} {h base : Heap} {mg : Str → Option Value} {c P : Addr} (X : K.In h) (Xb : K.In base) (N : h.NoSeer) (y : sysOk K = true) (G : base.Ns mainGlobals mg) (B : TabB base mg c P) : base.NoSeer := by
  obtain ⟨y1, z⟩ := He.ba y
  obtain ⟨y2, z⟩ := He.ba z
  obtain ⟨y3, _⟩ := He.ba z
  obtain ⟨bm, ob, b1, _, _, _, b3, b4, b5, _⟩ := B.bm
  exact ⟨let ⟨mc, n, r⟩ := N.statics; ⟨mc, ns_to X Xb y1 n, r⟩, let ⟨mc, n, r⟩ := N.mods; ⟨mc, ns_to X Xb y2 n, r⟩, let ⟨mc, n, r⟩ := N.imp; ⟨mc, ns_to X Xb y3 n, r⟩, ⟨mg, bm, ob, G, b1, b3, b4, b5⟩⟩
theorem lookup_all {f : Obj → Bool} {a : Addr} {o : Obj} : ∀ {K : PySem.W.Frag}, K.all (fun p => f p.2) = true → K.lookup a = some o → f o = true
  | [], _, e => by cases e
  | (b, u) :: r, h, e => by
    rw [List.all_cons] at h
    obtain ⟨h1, h2⟩ := He.ba h
    have e2 : (match a == b with | true => some u | false => List.lookup a r) = some o := e
    cases q : (a == b) with
    | true =>
      rw [q] at e2
      cases e2
      exact h1
    | false =>
      rw [q] at e2
      exact lookup_all h2 e2
theorem noTab {K : PySem.W.Frag} {h : Heap} {P : Addr} (X : K.In h) (y : sysOk K = true) (t : h.get? P = some { cls := .none, data := .fields #[] }) : K.lookup P = none := by
  obtain ⟨_, z⟩ := He.ba y
  obtain ⟨_, z⟩ := He.ba z
  obtain ⟨_, z⟩ := He.ba z
  obtain ⟨y4, _⟩ := He.ba z
  cases q : K.lookup P with
  | none => rfl
  | some o =>
    have h1 := X P o q
    rw [t] at h1
    cases h1
    have := lookup_all (f := fun o => !isTab o) y4 q
    cases this
theorem ft_start {K : PySem.W.Frag} {H : Hp} {P a : Addr} {ns : List Int} (hP : H P = some (.tbl #[])) (hS : SqL K H a (ns.map V.int)) : FT K P lawQ r_law [.ref a] H (fun v _ => v = .bl true) (fun _ _ _ => False) := by
  refine ⟨[], [.list (ns.map .int)], .bool true, by simp, by simp, ⟨#[], hP, by first | exact .nil | trivial | simp [TriplesOk], fun pos cv h => by cases h⟩, .cons (.lst (xs := ns.map V.int) ?_ (DpAll.ints ns)) .nil, ⟨ns, rfl, rfl⟩, fun v H' _ h => by cases h; rfl⟩
  rcases hS with h | h
  · refine .inl ?_
    have ne : a ≠ P := fun e => by
      subst e
      rcases h with h | ⟨ob, h⟩ <;> · rw [hP] at h; cases h
    have e : hide ([] ++ [P]) H a = H a := hide_out (by simpa using ne)
    rcases h with h | ⟨ob, h⟩
    · exact .inl (by rw [e]; exact h)
    · exact .inr ⟨ob, by rw [e]; exact h⟩
  · exact .inr h
abbrev QV : Program := PySem.W.view RR.prog [0, 56]
abbrev dLaw : DefRec := HandSHeadRun.topDef RR.prog 56
theorem law_rec : dLaw ∈ recsOf QV := by
  have e : recsOf QV = [dLaw] := by kernel_rfl
  rw [e]
  exact List.mem_singleton.mpr rfl
theorem walkK : PySem.W.WalkO QV (looseA ++ looseB) (PySem.W.XL QV []) hkS.says (PySem.W.OpenLaw.row PySem.Challenge.rw_treespace_k00_whole_sums).toRowW dLaw [] (fun f vs => PySem.call f vs) := by
  refine Att.attach_callB (l := PySem.Challenge.rw_treespace_k00_whole_sums) (n := 63) rfl (by kernel_rfl) fun w s₀ s₁ mg mb fa o pm cd doc a vs ns G Y ho hd hcd hmg hobj hints hlen hbits hg => ?_
  obtain ⟨K, KX, y, c⟩ := Y
  obtain ⟨T, TE, TM⟩ := mkTx KX G.T.g c y
  have hnm : dLaw.name = ("law" : Str) := by kernel_rfl
  obtain ⟨a1, o1, fd1, c1, P1, t1, t2, t3, t4, t5, t6⟩ := G.T.tab dLaw law_rec
  have hm : mg "law" = some (.ref fa) := by
    rw [← hnm]
    exact hmg
  have e1 : fa = a1 := by
    rw [hmg] at t1
    cases t1
    rfl
  have e2 : fa = T.d_law.fa := by
    have := hm.symm.trans T.d_law.m
    cases this
    rfl
  subst e1
  obtain ⟨oc, od, kV, doc', pm', an, cdv, ct, osl, efd, lk, hcd'⟩ := T.d_law.F.ex
  have hk := KX _ _ lk
  rw [← e2, t2] at hk
  cases hk
  cases t3
  have NS : s₁.heap.NoSeer := G.T.seer (by kernel_rfl)
  have h6 := t6.2
  have mem : ∀ p ∈ [(c1, P1)], p = (c1, P1) := fun p hp => List.mem_singleton.mp hp
  refine law_callTs (cs := [(c1, P1)]) (k := 46) (fd := T.d_law.fd) (sp := FT K P1 lawQ r_law) (CX := L2.CX0) (x := "script") KX G.T.g G.T.b G.T.builtins G.T.nolimit hg (fun p hp => by rw [mem p hp]; exact h6) (fun p hp => by rw [mem p hp]; exact noTab KX y h6) (fun p hp => by rw [mem p hp]; exact PySem.W.CodeHd.of t5 t6) G.T.bmain hobj hints (Nat.le_trans hlen (by decide)) ⟨rfl, by decide, by decide⟩ (fun base Xb Gb tb => ?_) (fun s u => law_binds T.d_law.F b_law s [u] rfl) (fun H hH hS => ft_start (hH _ (List.mem_singleton.mpr rfl)) hS) fun _ _ _ z => z
  have B := tb _ (List.mem_singleton.mpr rfl)
  rw [e2]
  exact ok_law T TE TM c1 P1 B t4 (seer_base KX Xb NS y Gb B) rfl
end K0
open PySem PySem.W PySem.Calls PyProof.Rows in
theorem PySem.Challenge.cw_treespace_k00_whole_sums_holds : PySem.Challenge.rw_treespace_k00_whole_sums.Holds := by
  w_on; o_law
  refine HandSHeadRun.head_imp (r := OpenLaw.row PySem.Challenge.rw_treespace_k00_whole_sums) (q := K0.QV) (H := K0.hkS) (ob := K0.obT) (M := 6000) (loose := K0.looseA ++ K0.looseB) (d := K0.dLaw) (kwd := []) K0.obT_eq
    K0.runK (by kernel_rfl) (by kernel_rfl) (by kernel_rfl) (by rfl) (by first | assumption | decide +kernel) (by decide +kernel) ⟨rfl, rfl, rfl, rfl, rfl, by decide +kernel⟩ ?hw K0.walkK
  case hw => w_witness2
end
