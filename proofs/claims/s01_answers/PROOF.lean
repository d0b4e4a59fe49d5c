import PyProof.Rows.All
import Wide.All
import OpenK.AllK
import Wide.FinOn
import PySr119
import HandS.Base
import HandS.Call
import HandS.List
import HandS.Comp
import HandS.Iter
import HandS.Ends
import HandS.Words
import HandS.WordsList
import HandS.Wide
import PySem.Challenge.RW_regroundshots_s01_answers
import HandS.Walk
import KE.KStateDown
import KE.OsHead
import KE.HD4
import HandS.HeadHook1
import HandS.HeadHook2
import HandS.ForSpec
import Open.SpecLaws
set_option Elab.async false
set_option linter.all false
namespace Rg
open SrFraction (Fraction ofInt)
abbrev mk := SrFraction.mk
/-! ### fractions -/
theorem gpos {n : Int} {d : Nat} (h : 0 < d) : 0 < Nat.gcd n.natAbs d := Nat.gcd_pos_of_pos_right _ h
theorem gle {n : Int} {d : Nat} (h : 0 < d) : Nat.gcd n.natAbs d ≤ d := Nat.le_of_dvd h (Nat.gcd_dvd_right _ _)
theorem mk_eq {n : Int} {d : Nat} (h : 0 < d) : mk n d = ⟨n / (Nat.gcd n.natAbs d : Int), d / Nat.gcd n.natAbs d⟩ := by
  have g := gpos (n := n) h
  have q : 0 < d / Nat.gcd n.natAbs d := Nat.div_pos (gle h) g
  show SrFraction.mk n d = _
  unfold SrFraction.mk
  simp only []
  rw [if_neg (by omega), if_neg (by omega)]
theorem mk_rat {n : Int} {d : Nat} (h : 0 < d) : mk n d = ⟨(mkRat n d).num, (mkRat n d).den⟩ := by
  rw [mk_eq h, Rat.mkRat_def, dif_neg (by omega), Rat.normalize_eq]
theorem mk_congr {a c : Int} {b d : Nat} (hb : 0 < b) (hd : 0 < d) (e : a * d = c * b) : mk a b = mk c d := by
  rw [mk_rat hb, mk_rat hd, (Rat.mkRat_eq_iff (by omega) (by omega)).mpr e]
theorem mk_den {n : Int} {d : Nat} (h : 0 < d) : 0 < (mk n d).den := by
  rw [mk_eq h]
  exact Nat.div_pos (gle h) (gpos h)
theorem mk_cross {n : Int} {d : Nat} (h : 0 < d) : (mk n d).num * (d : Int) = n * ((mk n d).den : Int) := by
  rw [mk_eq h]
  show n / (Nat.gcd n.natAbs d : Int) * (d : Int) = n * ((d / Nat.gcd n.natAbs d : Nat) : Int)
  obtain ⟨u, hu⟩ : (Nat.gcd n.natAbs d : Int) ∣ n := Int.ofNat_dvd_left.mpr (Nat.gcd_dvd_left _ _)
  obtain ⟨v, hv⟩ := Nat.gcd_dvd_right n.natAbs d
  have g := gpos (n := n) h
  generalize Nat.gcd n.natAbs d = G at *
  subst hv
  rw [Nat.mul_div_cancel_left _ g, hu, Int.mul_ediv_cancel_left _ (by omega), Int.natCast_mul]
  ac_rfl
theorem mk_one (n : Int) : mk n 1 = ofInt n := by
  rw [mk_eq (by decide)]
  simp [ofInt]
theorem mk01 : mk 0 1 = ofInt 0 := mk_one 0
theorem mk11 : mk 1 1 = ofInt 1 := mk_one 1
theorem mul_mk {a c : Int} {b d : Nat} (hb : 0 < b) (hd : 0 < d) : SrFraction.mul (mk a b) (mk c d) = mk (a * c) (b * d) := by
  have p1 := mk_den (n := a) hb
  have p2 := mk_den (n := c) hd
  refine mk_congr (Nat.mul_pos p1 p2) (Nat.mul_pos hb hd) ?_
  have e1 := mk_cross (n := a) hb
  have e2 := mk_cross (n := c) hd
  generalize mk a b = x at *
  generalize mk c d = y at *
  rw [Int.natCast_mul, Int.natCast_mul, show x.num * y.num * ((b : Int) * d) = (x.num * b) * (y.num * d) by ac_rfl, e1, e2]
  ac_rfl
theorem sub_mk {a c : Int} {b d : Nat} (hb : 0 < b) (hd : 0 < d) : SrFraction.sub (mk a b) (mk c d) = mk (a * d - c * b) (b * d) := by
  have p1 := mk_den (n := a) hb
  have p2 := mk_den (n := c) hd
  show mk _ _ = _
  refine mk_congr (Nat.mul_pos p1 p2) (Nat.mul_pos hb hd) ?_
  have e1 := mk_cross (n := a) hb
  have e2 := mk_cross (n := c) hd
  generalize mk a b = x at *
  generalize mk c d = y at *
  show (x.num * (y.den : Int) + -y.num * (x.den : Int)) * ((b * d : Nat) : Int) = (a * d - c * b) * ((x.den * y.den : Nat) : Int)
  rw [Int.natCast_mul, Int.natCast_mul, Int.add_mul, Int.sub_mul, Int.sub_eq_add_neg,
    show x.num * (y.den : Int) * ((b : Int) * d) = (x.num * b) * (y.den * d) by ac_rfl, e1,
    show -y.num * (x.den : Int) * ((b : Int) * d) = -((y.num * d) * (x.den * b)) by rw [Int.neg_mul, Int.neg_mul]; congr 1; ac_rfl, e2]
  congr 1
  · ac_rfl
  · congr 1
    ac_rfl
theorem div_mk {a : Int} {b c d : Nat} (hb : 0 < b) (hc : 0 < c) (hd : 0 < d) : SrFraction.div (mk a b) (mk (c : Int) d) = mk (a * d) (b * c) := by
  have p1 := mk_den (n := a) hb
  have p2 := mk_den (n := (c : Int)) hd
  have e1 := mk_cross (n := a) hb
  have e2 := mk_cross (n := (c : Int)) hd
  generalize mk a b = x at *
  generalize mk (c : Int) d = y at *
  have hy : 0 < y.num := by
    have h1 : 0 < (c : Int) * (y.den : Int) := Int.mul_pos (by omega) (by omega)
    rw [← e2] at h1
    exact Int.pos_of_mul_pos_left h1 (by omega)
  obtain ⟨v, hv⟩ : ∃ v : Nat, y.num = v := ⟨y.num.toNat, by omega⟩
  show mk (x.num * (y.den : Int)) ((x.den : Int) * y.num).toNat = _
  rw [hv] at e2 hy ⊢
  rw [show ((x.den : Int) * (v : Int)).toNat = x.den * v by rw [← Int.natCast_mul]; rfl]
  refine mk_congr (Nat.mul_pos p1 (by omega)) (Nat.mul_pos hb hc) ?_
  rw [Int.natCast_mul, Int.natCast_mul,
    show x.num * (y.den : Int) * ((b : Int) * c) = (x.num * b) * (c * y.den) by ac_rfl, e1, ← e2]
  ac_rfl
theorem sub_eq (f g : Fraction) : SrFraction.sub f g = mk (f.num * g.den - g.num * f.den) (f.den * g.den) := by
  show mk _ _ = _
  congr 1
  show f.num * (g.den : Int) + -g.num * (f.den : Int) = _
  rw [Int.neg_mul, Int.sub_eq_add_neg]
/-! ### the limits -/
theorem limit_eq {r p k q : Nat} (hp : 0 < p) (hq : 0 < q) (hr : r < p) (hk : k ≤ q) :
    SrFraction.div (mk ((p - r : Nat) : Int) p) (SrFraction.sub (ofInt 1) (SrFraction.mul (mk (r : Int) p) (mk (k : Int) q))) = mk (((p - r) * q : Nat) : Int) (p * q - r * k) := by
  have h1 : r * k < p * q := Nat.lt_of_le_of_lt (Nat.mul_le_mul_left r hk) (Nat.mul_lt_mul_of_pos_right hr hq)
  rw [mul_mk hp hq, ← mk11, sub_mk (by decide) (Nat.mul_pos hp hq),
    show (1 : Int) * ((p * q : Nat) : Int) - (r : Int) * (k : Int) * ((1 : Nat) : Int) = ((p * q - r * k : Nat) : Int) by
      rw [Int.ofNat_sub (Nat.le_of_lt h1), Int.natCast_mul r k]; simp, div_mk hp (by omega) (by rw [Nat.one_mul]; exact Nat.mul_pos hp hq)]
  refine mk_congr (Nat.mul_pos hp (by omega)) (by omega) ?_
  generalize p * q - r * k = m
  simp only [Int.natCast_mul]
  rw [show ((1 : Nat) : Int) = 1 from rfl, Int.one_mul]
  ac_rfl
theorem mlimit_eq {r p : Nat} (hr : r < p) : SrFraction.div (mk (r : Int) p) (mk ((p - r : Nat) : Int) p) = mk (r : Int) (p - r) := by
  rw [div_mk (by omega) (by omega) (by omega)]
  refine mk_congr (Nat.mul_pos (by omega) (by omega)) (by omega) ?_
  simp only [Int.natCast_mul]
  ac_rfl
/-! ### sizes -/
def Bits (n : Nat) (f : Fraction) : Prop := f.num.natAbs < 2 ^ n ∧ f.den < 2 ^ n ∧ 0 < f.den
theorem two_le {a b : Nat} (h : a ≤ b) : 2 ^ a ≤ 2 ^ b := Nat.pow_le_pow_right (by decide) h
theorem Bits.mono {a b : Nat} {f : Fraction} (h : Bits a f) (l : a ≤ b) : Bits b f :=
  ⟨Nat.lt_of_lt_of_le h.1 (two_le l), Nat.lt_of_lt_of_le h.2.1 (two_le l), h.2.2⟩
theorem natAbs_div_le (n : Int) (g : Nat) : (n / (g : Int)).natAbs ≤ n.natAbs := by
  exact Int.natAbs_ediv_le_natAbs n g
theorem bits_mk {a : Nat} {n : Int} {d : Nat} (h : 0 < d) (hn : n.natAbs < 2 ^ a) (hd : d < 2 ^ a) : Bits a (mk n d) := by
  refine ⟨?_, ?_, mk_den h⟩
  · rw [mk_eq h]
    exact Nat.lt_of_le_of_lt (natAbs_div_le n _) hn
  · rw [mk_eq h]
    exact Nat.lt_of_le_of_lt (Nat.div_le_self _ _) hd
theorem plt {i j : Int} {a b : Nat} (ha : i.natAbs < 2 ^ a) (hb : j.natAbs < 2 ^ b) : (i * j).natAbs < 2 ^ (a + b) := by
  rw [Int.natAbs_mul, Nat.pow_add]
  exact Nat.mul_lt_mul'' ha hb
theorem bits_mul {a b : Nat} {f g : Fraction} (hf : Bits a f) (hg : Bits b g) : Bits (a + b) (SrFraction.mul f g) :=
  bits_mk (Nat.mul_pos hf.2.2 hg.2.2) (plt hf.1 hg.1) (by rw [Nat.pow_add]; exact Nat.mul_lt_mul'' hf.2.1 hg.2.1)
theorem den_abs {a : Nat} {f : Fraction} (h : Bits a f) : ((f.den : Int)).natAbs < 2 ^ a := by
  rw [Int.natAbs_natCast]
  exact h.2.1
theorem sum_lt {a b c : Nat} {x y : Int} (hx : x.natAbs < 2 ^ (a + b)) (hy : y.natAbs < 2 ^ (b + a)) (hc : c = a + b + 1) : (x + y).natAbs < 2 ^ c := by
  rw [Nat.add_comm b a] at hy
  rw [hc, Nat.pow_succ]
  omega
theorem bits_add {a b : Nat} {f g : Fraction} (hf : Bits a f) (hg : Bits b g) : Bits (a + b + 1) (SrFraction.add f g) := by
  refine bits_mk (Nat.mul_pos hf.2.2 hg.2.2) (sum_lt (plt hf.1 (den_abs hg)) (plt hg.1 (den_abs hf)) rfl) ?_
  have h : f.den * g.den < 2 ^ (a + b) := by
    rw [Nat.pow_add]
    exact Nat.mul_lt_mul'' hf.2.1 hg.2.1
  exact Nat.lt_of_lt_of_le h (two_le (by omega))
theorem bits_one : Bits 1 (ofInt 1) := ⟨by decide, by decide, by decide⟩
theorem bits_zero : Bits 1 (ofInt 0) := ⟨by decide, by decide, by decide⟩
theorem bits_of {n d : Nat} {a : Nat} (h : 0 < d) (hn : n < 2 ^ a) (hd : d < 2 ^ a) : Bits a (mk (n : Int) d) := bits_mk h (by rw [Int.natAbs_natCast]; exact hn) hd
theorem bits_pow {a : Nat} {f : Fraction} (h : Bits a f) : ∀ k, Bits (a * k + 1) (SrFraction.pow f k)
  | 0 => bits_one
  | k + 1 => (bits_mul (bits_pow h k) h).mono (by rw [Nat.mul_succ]; omega)
theorem bits_foldl {b : Nat} : ∀ (l : List Fraction) (x : Fraction) (a : Nat), Bits a x → (∀ f ∈ l, Bits b f) → Bits (a + (b + 1) * l.length) (l.foldl SrFraction.add x)
  | [], x, a, hx, _ => hx.mono (by omega)
  | f :: l, x, a, hx, h => (bits_foldl l (SrFraction.add x f) (a + b + 1) (bits_add hx (h f (List.mem_cons_self ..))) fun g hg => h g (List.mem_cons_of_mem _ hg)).mono (by
      rw [List.length_cons, Nat.mul_succ]
      omega)
theorem bits_sum {b : Nat} (l : List Fraction) (h : ∀ f ∈ l, Bits b f) : Bits (1 + (b + 1) * l.length) (SrFraction.sum l) := bits_foldl l _ 1 bits_zero h
/-! ### one item more -/
theorem take_more {α : Type} : ∀ {l : List α} {i : Nat} {x : α}, l[i]? = some x → l.take (i + 1) = l.take i ++ [x]
  | [], i, x, h => by simp at h
  | a :: l, 0, x, h => by
    cases h
    rfl
  | a :: l, i + 1, x, h => by
    have ih := take_more (l := l) (i := i) (x := x) h
    show a :: l.take (i + 1) = a :: l.take i ++ [x]
    rw [ih]
    rfl
theorem sum_more {l : List Fraction} {i : Nat} {x : Fraction} (h : l[i]? = some x) : SrFraction.sum (l.take (i + 1)) = SrFraction.add (SrFraction.sum (l.take i)) x := by
  unfold SrFraction.sum
  rw [take_more h, List.foldl_append]
  rfl
/-- the terms of the strength -/
def terms (t : Fraction) (fs : List Fraction) : List Fraction := fs.zipIdx.map fun a => SrFraction.mul a.1 (SrFraction.pow t a.2)
def mterms (fs : List Fraction) : List Fraction := fs.zipIdx.map fun a => SrFraction.mul a.1 (ofInt (a.2 : Nat))
theorem terms_len (t : Fraction) (fs : List Fraction) : (terms t fs).length = fs.length := by
  unfold terms
  rw [List.length_map, List.length_zipIdx]
theorem mterms_len (fs : List Fraction) : (mterms fs).length = fs.length := by
  unfold mterms
  rw [List.length_map, List.length_zipIdx]
theorem terms_at {t : Fraction} {fs : List Fraction} {i : Nat} {f : Fraction} (h : fs[i]? = some f) : (terms t fs)[i]? = some (SrFraction.mul f (SrFraction.pow t i)) := by
  unfold terms
  rw [List.getElem?_map, List.getElem?_zipIdx, h]
  simp
theorem mterms_at {fs : List Fraction} {i : Nat} {f : Fraction} (h : fs[i]? = some f) : (mterms fs)[i]? = some (SrFraction.mul f (ofInt (i : Nat))) := by
  unfold mterms
  rw [List.getElem?_map, List.getElem?_zipIdx, h]
  simp
def strOf (t : Fraction) (fs : List Fraction) : Fraction := SrFraction.sum (terms t fs)
def meanOf (fs : List Fraction) : Fraction := SrFraction.sum (mterms fs)
def nextOf (r v : Fraction) (fs : List Fraction) : List Fraction := if fs = [] then [ofInt 1] else v :: fs.map (SrFraction.mul r)
def agesOf (r v : Fraction) : Nat → List Fraction
  | 0 => []
  | n + 1 => nextOf r v (agesOf r v n)
/-- a list of ages after at most s shots -/
def Sized (s : Nat) (fs : List Fraction) : Prop := fs.length ≤ s ∧ ∀ f ∈ fs, Bits (5 * s + 1) f
theorem Sized.nil (s : Nat) : Sized s [] := ⟨Nat.zero_le _, fun _ h => by cases h⟩
theorem Sized.next {s : Nat} {fs : List Fraction} {r v : Fraction} (h : Sized s fs) (hr : Bits 5 r) (hv : Bits 5 v) : Sized (s + 1) (nextOf r v fs) := by
  unfold nextOf
  by_cases e : fs = []
  · rw [if_pos e]
    refine ⟨by simp, fun f hf => ?_⟩
    rw [List.mem_singleton.mp hf]
    exact bits_one.mono (by omega)
  · rw [if_neg e]
    refine ⟨by simp; exact h.1, fun f hf => ?_⟩
    rcases List.mem_cons.mp hf with rfl | hf
    · exact hv.mono (by omega)
    · obtain ⟨g, hg, rfl⟩ := List.mem_map.mp hf
      exact (bits_mul hr (h.2 g hg)).mono (by omega)
theorem Sized.of {r v : Fraction} (hr : Bits 5 r) (hv : Bits 5 v) : ∀ n, Sized n (agesOf r v n)
  | 0 => .nil 0
  | n + 1 => (Sized.of hr hv n).next hr hv
theorem Sized.one (s : Nat) : Sized (s + 1) [ofInt 1] := ⟨by simp, fun f hf => by
  rw [List.mem_singleton.mp hf]
  exact bits_one.mono (by omega)⟩
theorem idx_lt {α : Type} {l : List α} {i : Nat} {x : α} (h : l[i]? = some x) : i < l.length := (List.getElem?_eq_some_iff.mp h).1
theorem at_some {α : Type} {l : List α} {i : Nat} (h : i < l.length) : ∃ x, l[i]? = some x := ⟨_, List.getElem?_eq_getElem h⟩
theorem terms_bits {s b : Nat} {t : Fraction} {fs : List Fraction} (h : Sized s fs) (hs : s ≤ 12) (ht : Bits 5 t) : ∀ f ∈ terms t fs, Bits 122 f := fun f hf => by
  obtain ⟨i, hi⟩ := List.mem_iff_getElem?.mp hf
  have l := idx_lt hi
  rw [terms_len] at l
  obtain ⟨g, hg⟩ := at_some l
  rw [terms_at hg] at hi
  cases hi
  have h1 := h.1
  exact (bits_mul (h.2 g (List.mem_of_getElem? hg)) (bits_pow ht i)).mono (by omega)
theorem mterms_bits {s : Nat} {fs : List Fraction} (h : Sized s fs) (hs : s ≤ 12) : ∀ f ∈ mterms fs, Bits 65 f := fun f hf => by
  obtain ⟨i, hi⟩ := List.mem_iff_getElem?.mp hf
  have l := idx_lt hi
  rw [mterms_len] at l
  obtain ⟨g, hg⟩ := at_some l
  rw [mterms_at hg] at hi
  cases hi
  have h1 := h.1
  have h2 : Bits 4 (ofInt (i : Nat)) := ⟨by show ((i : Int)).natAbs < 16; omega, by show 1 < 16; decide, by show 0 < 1; decide⟩
  exact (bits_mul (h.2 g (List.mem_of_getElem? hg)) h2).mono (by omega)
theorem strOf_bits {s : Nat} {t : Fraction} {fs : List Fraction} (h : Sized s fs) (hs : s ≤ 12) (ht : Bits 5 t) : Bits 1500 (strOf t fs) :=
  (bits_sum _ (terms_bits (b := 0) h hs ht)).mono (by rw [terms_len]; have := h.1; omega)
end Rg
set_option Elab.async false
set_option linter.all false
namespace Rg
open SrFraction (Fraction ofInt)
open Sr119 (Process)
/-! ### the state that the program keeps -/
structure Good (m : Process) : Prop where
  p0 : 0 < m.parts
  p1 : m.parts ≤ 20
  r0 : m.regrind < m.parts
  k0 : 1 ≤ m.kept
  k1 : m.kept ≤ m.keptOf
  k2 : m.keptOf ≤ 20
  s12 : m.shots ≤ 12
  z : m.shots = 0 ↔ m.ages = []
  sz : Sized m.shots m.ages
abbrev rat (r p : Nat) : Fraction := mk (r : Int) p
theorem rat5 {r p : Nat} (h0 : 0 < p) (h1 : p ≤ 20) (hr : r ≤ 20) : Bits 5 (rat r p) := bits_of h0 (by show r < 32; omega) (by show p < 32; omega)
theorem Good.ret {m : Process} (g : Good m) : Bits 5 (rat m.kept m.keptOf) := rat5 (by have := g.k0; have := g.k1; omega) g.k2 (by have := g.k1; have := g.k2; omega)
/-- the ages of the shot behind n shots from a reset, r of p reground -/
abbrev agesN (r p n : Nat) : List Fraction := agesOf (rat r p) (rat (p - r) p) n
theorem Sized.ofN {r p : Nat} (h0 : 0 < p) (h1 : p ≤ 20) (hr : r < p) (n : Nat) : Sized n (agesN r p n) := Sized.of (rat5 h0 h1 (by omega)) (rat5 h0 h1 (by omega)) n
theorem makeShots_succ : ∀ (n : Nat) (p : Process), Sr119.makeShots p (n + 1) = Sr119.makeShot (Sr119.makeShots p n)
  | 0, _ => rfl
  | n + 1, p => makeShots_succ n (Sr119.makeShot p)
theorem shots_from (m : Process) : ∀ n : Nat, Sr119.makeShots (Sr119.reset m) n = { m with shots := n, ages := agesN m.regrind m.parts n }
  | 0 => rfl
  | n + 1 => by
    rw [makeShots_succ, shots_from m n]
    rfl
theorem strength_from (m : Process) (n : Nat) : Sr119.strength (Sr119.makeShots (Sr119.reset m) n) = strOf (rat m.kept m.keptOf) (agesN m.regrind m.parts n) := by
  rw [shots_from]
  rfl
def limOf (p k q r : Nat) : Fraction := mk (((p - r) * q : Nat) : Int) (p * q - r * k)
theorem lim_eq {m : Process} (g : Good m) {r : Nat} (hr : r < m.parts) : Sr119.strengthLimit { m with regrind := r } = limOf m.parts m.kept m.keptOf r :=
  limit_eq (r := r) (p := m.parts) (k := m.kept) (q := m.keptOf) g.p0 (by have := g.k0; have := g.k1; omega) hr g.k1
theorem lim_den {p k q r : Nat} (hp : 0 < p) (hq : 0 < q) (hr : r < p) (hk : k ≤ q) : 0 < p * q - r * k := by
  have h1 : r * k < p * q := Nat.lt_of_le_of_lt (Nat.mul_le_mul_left r hk) (Nat.mul_lt_mul_of_pos_right hr hq)
  omega
theorem lim_bits {p k q r : Nat} (hp : 0 < p) (hq : 0 < q) (hr : r < p) (hk : k ≤ q) (h1 : p ≤ 20) (h2 : q ≤ 20) : Bits 9 (limOf p k q r) := by
  have a1 : (p - r) * q ≤ 20 * 20 := Nat.mul_le_mul (by omega) h2
  have a2 : p * q ≤ 20 * 20 := Nat.mul_le_mul h1 h2
  exact bits_of (lim_den hp hq hr hk) (by show _ < 512; omega) (by show _ < 512; omega)
theorem Good.lim {m : Process} (g : Good m) {r : Nat} (hr : r < m.parts) : Bits 9 (limOf m.parts m.kept m.keptOf r) :=
  lim_bits g.p0 (by have := g.k0; have := g.k1; omega) hr g.k1 g.p1 g.k2
theorem mlim_eq {m : Process} (g : Good m) : Sr119.meanAgeLimit m = mk (m.regrind : Int) (m.parts - m.regrind) := mlimit_eq g.r0
/-! ### the answers' numbers -/
def res (r : SrCommon.Result) : List Int := r.code :: r.values
def newOf (m : Process) (c : Sr119.Call) : Process := (Sr119.perform m c).1.getD m
def outOf (m : Process) (c : Sr119.Call) : List Int := res (Sr119.perform m c).2
def frs (f : Fraction) : List Int := [0, f.num, (f.den : Int)]
theorem res_fr (f : Fraction) : res (Sr119.fractionResult f) = frs f := rfl
theorem res_code (c : Int) : res (.ofCode c) = [c] := rfl
/-! ### looking for the first -/
theorem find_at {α : Type} {p : α → Bool} : ∀ {l : List α} {i : Nat} {x : α}, l[i]? = some x → p x = true → (∀ j y, j < i → l[j]? = some y → p y = false) → l.find? p = some x
  | [], i, x, h, _, _ => by simp at h
  | a :: l, 0, x, h, hp, _ => by
    cases h
    rw [List.find?_cons, hp]
  | a :: l, i + 1, x, h, hp, hb => by
    rw [List.find?_cons, hb 0 a (by omega) rfl]
    exact find_at (l := l) h hp fun j y hj e => hb (j + 1) y (by omega) e
theorem find_no {α : Type} {p : α → Bool} {l : List α} (h : ∀ (j : Nat) y, l[j]? = some y → p y = false) : l.find? p = none := by
  rw [List.find?_eq_none]
  intro x hx e
  obtain ⟨j, hj⟩ := List.mem_iff_getElem?.mp hx
  rw [h j x hj] at e
  cases e
theorem rev_at {n j y : Nat} (h : (List.range n).reverse[j]? = some y) : j < n ∧ y = n - 1 - j := by
  have hl := idx_lt h
  rw [List.length_reverse, List.length_range] at hl
  rw [List.getElem?_reverse (by rw [List.length_range]; exact hl), List.length_range, List.getElem?_range (by omega)] at h
  exact ⟨hl, (Option.some.inj h).symm⟩
theorem rev_some {n j : Nat} (h : j < n) : (List.range n).reverse[j]? = some (n - 1 - j) := by
  rw [List.getElem?_reverse (by rw [List.length_range]; exact h), List.length_range, List.getElem?_range (by omega)]
theorem ran_at {n j y : Nat} (h : (List.range n)[j]? = some y) : j < n ∧ y = j := by
  have hl := idx_lt h
  rw [List.length_range] at hl
  rw [List.getElem?_range hl] at h
  exact ⟨hl, (Option.some.inj h).symm⟩
/-- at the i-th look from above r is the first that is strong enough -/
theorem max_some {m : Process} (g : Good m) {th : Fraction} {i : Nat} (hi : i < m.parts) (h : SrFraction.lt (limOf m.parts m.kept m.keptOf (m.parts - 1 - i)) th = false)
    (hb : ∀ j, j < i → SrFraction.lt (limOf m.parts m.kept m.keptOf (m.parts - 1 - j)) th = true) : Sr119.maxRegrind m th = some (m.parts - 1 - i) := by
  unfold Sr119.maxRegrind
  refine find_at (rev_some hi) (by rw [lim_eq g (by omega), h]; rfl) fun j y hj e => ?_
  obtain ⟨h1, rfl⟩ := rev_at e
  rw [lim_eq g (by omega), hb j hj]
  rfl
theorem max_none {m : Process} (g : Good m) {th : Fraction} (hb : ∀ j, j < m.parts → SrFraction.lt (limOf m.parts m.kept m.keptOf (m.parts - 1 - j)) th = true) : Sr119.maxRegrind m th = none := by
  unfold Sr119.maxRegrind
  refine find_no fun j y e => ?_
  obtain ⟨h1, rfl⟩ := rev_at e
  rw [lim_eq g (by omega), hb j h1]
  rfl
theorem weak_some {m : Process} {th : Fraction} {i : Nat} (hi : i < 12) (h : SrFraction.lt (strOf (rat m.kept m.keptOf) (agesN m.regrind m.parts (i + 1))) th = true)
    (hb : ∀ j, j < i → SrFraction.lt (strOf (rat m.kept m.keptOf) (agesN m.regrind m.parts (j + 1))) th = false) : Sr119.firstWeakShot m th = some (i + 1) := by
  show Option.map _ ((List.range 12).find? _) = _
  rw [find_at (i := i) (x := i) (List.getElem?_range hi) (by rw [strength_from, h]) fun j y hj e => ?_]
  · rfl
  · obtain ⟨h1, rfl⟩ := ran_at e
    rw [strength_from, hb y hj]
theorem weak_none {m : Process} {th : Fraction} (hb : ∀ j, j < 12 → SrFraction.lt (strOf (rat m.kept m.keptOf) (agesN m.regrind m.parts (j + 1))) th = false) : Sr119.firstWeakShot m th = none := by
  show Option.map _ ((List.range 12).find? _) = _
  rw [find_no fun j y e => ?_]
  · rfl
  · obtain ⟨h1, rfl⟩ := ran_at e
    rw [strength_from, hb y h1]
/-! ### the calls -/
theorem whole_id (c : List (List Int)) : PySr119.whole c = c := by
  unfold PySr119.whole
  split <;> rfl
theorem map_whole (cs : List (List (List Int))) : cs.map PySr119.whole = cs := by
  rw [show PySr119.whole = id from funext whole_id, List.map_id]
/-- how many numbers a call has behind its own -/
def arity : List Nat := [4, 0, 0, 1, 2, 0, 1, 1, 0, 0, 0, 0, 0, 1, 2, 2, 2, 0]
theorem shape_some {p : Int} {s : Nat × Nat} (h : PySr119.shape p = some s) : ∃ n : Nat, p = n ∧ n < 18 ∧ s = (arity.getD n 0, 0) := by
  by_cases hp : 0 ≤ p ∧ p < 18
  · obtain ⟨n, rfl⟩ : ∃ n : Nat, p = n := ⟨p.toNat, by omega⟩
    have hn : n < 18 := by omega
    refine ⟨n, rfl, hn, ?_⟩
    have all : ∀ k : Nat, k < 18 → PySr119.shape (k : Int) = some (arity.getD k 0, 0) := by decide
    rw [all n hn] at h
    exact (Option.some.inj h).symm
  · unfold PySr119.shape at h
    simp only [show ¬ p = 0 by omega, show ¬ p = 1 by omega, show ¬ p = 2 by omega, show ¬ p = 3 by omega, show ¬ p = 4 by omega, show ¬ p = 5 by omega, show ¬ p = 6 by omega, show ¬ p = 7 by omega, show ¬ p = 8 by omega,
      show ¬ p = 9 by omega, show ¬ p = 10 by omega, show ¬ p = 11 by omega, show ¬ p = 12 by omega, show ¬ p = 13 by omega, show ¬ p = 14 by omega, show ¬ p = 15 by omega, show ¬ p = 16 by omega, show ¬ p = 17 by omega, if_false] at h
    cases h
/-- the first call of what is left -/
theorem calls_cons {f : Nat} {p : Int} {r : List Int} {cs : List (List (List Int))} (h : PyFlat.calls PySr119.shape f (p :: r) = some cs) :
    ∃ n f' cs', p = (n : Nat) ∧ n < 18 ∧ arity.getD n 0 ≤ r.length ∧ cs = [p :: r.take (arity.getD n 0)] :: cs' ∧ PyFlat.calls PySr119.shape f' (r.drop (arity.getD n 0)) = some cs' := by
  cases f with
  | zero => cases h
  | succ f =>
    unfold PyFlat.calls PyFlat.call at h
    cases hs : PySr119.shape p with
    | none =>
      simp only [hs] at h
      cases h
    | some s =>
      obtain ⟨n, rfl, hn, rfl⟩ := shape_some hs
      simp only [hs] at h
      by_cases hl : r.length < arity.getD n 0
      · rw [if_pos hl] at h
        cases h
      · rw [if_neg hl] at h
        simp only [PyFlat.rows] at h
        cases hc : PyFlat.calls PySr119.shape f (r.drop (arity.getD n 0)) with
        | none =>
          rw [hc] at h
          cases h
        | some cs' =>
          rw [hc] at h
          exact ⟨n, f, cs', rfl, hn, by omega, (Option.some.inj h).symm, hc⟩
theorem calls_nil {f : Nat} {cs : List (List (List Int))} (h : PyFlat.calls PySr119.shape f [] = some cs) : cs = [] := by
  cases f <;> exact (Option.some.inj h).symm
theorem answers_eq {ns : List Int} {cs : List (List (List Int))} (h : PyFlat.calls PySr119.shape ns.length ns = some cs) : PySr119.answers ns = PyFlat.told (PyFlat.played Sr119Neutral.step none cs) := by
  unfold PySr119.answers PySr119.calls
  rw [h]
  simp only [map_whole]
  rfl
theorem asked_some {ns : List Int} (h : PySr119.answers_asked ns = true) : ∃ cs, PyFlat.calls PySr119.shape ns.length ns = some cs ∧ (PySr119.answers ns).length ≤ 10000000 := by
  unfold PySr119.answers_asked at h
  cases hc : PyFlat.calls PySr119.shape ns.length ns with
  | none =>
    rw [hc] at h
    cases h
  | some cs =>
    rw [hc] at h
    simp only [Bool.and_eq_true] at h
    exact ⟨cs, rfl, of_decide_eq_true h.2⟩
/-- one call of a process that is there -/
def plain : Sr119.Call → Bool
  | .create _ _ _ _ => false
  | _ => true
theorem step_some {m : Process} {c : Sr119.Call} {n : Int} {xs : List Int} (h : Sr119Neutral.parseCall [n :: xs] = some c) (hc : plain c = true) : Sr119Neutral.step (some m) [n :: xs] = (some (newOf m c), outOf m c) := by
  unfold Sr119Neutral.step
  rw [h]
  unfold newOf outOf
  cases c with
  | create _ _ _ _ => cases hc
  | _ =>
    simp only [Sr119.step]
    cases hp : Sr119.perform m _ with
    | mk a b => cases a <;> rfl
theorem step_none {c : Sr119.Call} {n : Int} {xs : List Int} (h : Sr119Neutral.parseCall [n :: xs] = some c) (hc : plain c = true) : Sr119Neutral.step none [n :: xs] = (none, [-11]) := by
  unfold Sr119Neutral.step
  rw [h]
  cases c with
  | create _ _ _ _ => cases hc
  | _ => rfl
/-- what each call is -/
theorem parse_all {n : Nat} {xs : List Int} (hn : n < 18) (hl : xs.length = arity.getD n 0) : ∃ c, Sr119Neutral.parseCall [(n : Int) :: xs] = some c ∧ (n ≠ 0 → plain c = true) := by
  match n, xs, hn, hl with
  | 0, [a, b, c, d], _, _ => exact ⟨_, rfl, fun h => absurd rfl h⟩
  | 1, [], _, _ => exact ⟨_, rfl, fun _ => rfl⟩
  | 2, [], _, _ => exact ⟨_, rfl, fun _ => rfl⟩
  | 3, [a], _, _ => exact ⟨_, rfl, fun _ => rfl⟩
  | 4, [a, b], _, _ => exact ⟨_, rfl, fun _ => rfl⟩
  | 5, [], _, _ => exact ⟨_, rfl, fun _ => rfl⟩
  | 6, [a], _, _ => exact ⟨_, rfl, fun _ => rfl⟩
  | 7, [a], _, _ => exact ⟨_, rfl, fun _ => rfl⟩
  | 8, [], _, _ => exact ⟨_, rfl, fun _ => rfl⟩
  | 9, [], _, _ => exact ⟨_, rfl, fun _ => rfl⟩
  | 10, [], _, _ => exact ⟨_, rfl, fun _ => rfl⟩
  | 11, [], _, _ => exact ⟨_, rfl, fun _ => rfl⟩
  | 12, [], _, _ => exact ⟨_, rfl, fun _ => rfl⟩
  | 13, [a], _, _ => exact ⟨_, rfl, fun _ => rfl⟩
  | 14, [a, b], _, _ => exact ⟨_, rfl, fun _ => rfl⟩
  | 15, [a, b], _, _ => exact ⟨_, rfl, fun _ => rfl⟩
  | 16, [a, b], _, _ => exact ⟨_, rfl, fun _ => rfl⟩
  | 17, [], _, _ => exact ⟨_, rfl, fun _ => rfl⟩
  | n + 18, _, h, _ => exact absurd h (by omega)
theorem len0 {α : Type} {xs : List α} (h : xs.length = 0) : xs = [] := List.eq_nil_of_length_eq_zero h
theorem len1 {α : Type} {xs : List α} (h : xs.length = 1) : ∃ a, xs = [a] := List.length_eq_one_iff.mp h
theorem len2 {α : Type} {xs : List α} (h : xs.length = 2) : ∃ a b, xs = [a, b] := by
  match xs, h with
  | [a, b], _ => exact ⟨a, b, rfl⟩
theorem len4 {α : Type} {xs : List α} (h : xs.length = 4) : ∃ a b c d, xs = [a, b, c, d] := by
  match xs, h with
  | [a, b, c, d], _ => exact ⟨a, b, c, d, rfl⟩
end Rg
set_option Elab.async false
set_option linter.all false
namespace Rg
open SrFraction (Fraction ofInt)
open Sr119 (Process Call)
/-! ### what each call answers and leaves, in the program's words -/
abbrev nextM (m : Process) : List Fraction := nextOf (rat m.regrind m.parts) (rat (m.parts - m.regrind) m.parts) m.ages
abbrev strM (m : Process) (fs : List Fraction) : Fraction := strOf (rat m.kept m.keptOf) fs
def shotM (m : Process) (fs : List Fraction) : Process := { m with shots := m.shots + 1, ages := fs }
def shotOut (m : Process) (fs : List Fraction) : List Int := [((m.shots + 1 : Nat) : Int), (strM m fs).num, ((strM m fs).den : Int)]
theorem ms_full {m : Process} (h : 12 ≤ m.shots) : newOf m .makeShot = m ∧ outOf m .makeShot = [-28] := by
  unfold newOf outOf Sr119.perform
  simp only [show Sr119.maxShots ≤ m.shots from h, if_true]
  exact ⟨rfl, rfl⟩
theorem ms_ok {m : Process} (h : ¬ 12 ≤ m.shots) : newOf m .makeShot = shotM m (nextM m) ∧ outOf m .makeShot = shotOut m (nextM m) := by
  unfold newOf outOf Sr119.perform
  simp only [show ¬ Sr119.maxShots ≤ m.shots from h, if_false]
  exact ⟨rfl, rfl⟩
theorem mv_full {m : Process} (h : 12 ≤ m.shots) : newOf m .makeVirginShot = m ∧ outOf m .makeVirginShot = [-28] := by
  unfold newOf outOf Sr119.perform
  simp only [show Sr119.maxShots ≤ m.shots from h, if_true]
  exact ⟨rfl, rfl⟩
theorem str_one (t : Fraction) : strOf t [ofInt 1] = ⟨1, 1⟩ := by
  have e : terms t [ofInt 1] = [SrFraction.mul (ofInt 1) (ofInt 1)] := rfl
  unfold strOf
  rw [e]
  decide +kernel
theorem mv_ok {m : Process} (h : ¬ 12 ≤ m.shots) : newOf m .makeVirginShot = shotM m [ofInt 1] ∧ outOf m .makeVirginShot = shotOut m [ofInt 1] := by
  unfold newOf outOf Sr119.perform
  simp only [show ¬ Sr119.maxShots ≤ m.shots from h, if_false]
  refine ⟨rfl, ?_⟩
  unfold shotOut strM
  rw [str_one]
  rfl
theorem sr_no {m : Process} {r : Int} (h : Sr119.isRegrind m.parts r = false) : newOf m (.setRegrind r) = m ∧ outOf m (.setRegrind r) = [-22] := by
  unfold newOf outOf Sr119.perform
  simp only [h, if_true]
  exact ⟨rfl, rfl⟩
theorem sr_ok {m : Process} {r : Int} (h : Sr119.isRegrind m.parts r = true) : newOf m (.setRegrind r) = { m with regrind := r.toNat } ∧ outOf m (.setRegrind r) = [(m.regrind : Int)] := by
  unfold newOf outOf Sr119.perform
  simp only [h, if_false, Bool.true_eq_false]
  exact ⟨rfl, rfl⟩
theorem st_no {m : Process} {k q : Int} (h : Sr119.isRetention k q = false) : newOf m (.setRetention k q) = m ∧ outOf m (.setRetention k q) = [-22] := by
  unfold newOf outOf Sr119.perform
  simp only [h, if_true]
  exact ⟨rfl, rfl⟩
theorem st_ok {m : Process} {k q : Int} (h : Sr119.isRetention k q = true) : newOf m (.setRetention k q) = { m with kept := k.toNat, keptOf := q.toNat } ∧ outOf m (.setRetention k q) = [0, (m.kept : Int), (m.keptOf : Int)] := by
  unfold newOf outOf Sr119.perform
  simp only [h, if_false, Bool.true_eq_false]
  exact ⟨rfl, rfl⟩
theorem re_ok (m : Process) : newOf m .reset = { m with shots := 0, ages := [] } ∧ outOf m .reset = [(m.shots : Int)] := ⟨rfl, rfl⟩
theorem last_no {m : Process} {f : Process → Fraction} (h : m.ages = []) : res (Sr119.ofLastShot m f) = [-6] := by
  unfold Sr119.ofLastShot
  rw [if_pos h]
  rfl
theorem last_ok {m : Process} {f : Process → Fraction} (h : ¬ m.ages = []) : res (Sr119.ofLastShot m f) = frs (f m) := by
  unfold Sr119.ofLastShot
  rw [if_neg h]
  rfl
theorem af_neg {m : Process} {k : Int} (h : k < 0) : outOf m (.ageFraction k) = [-22] := by
  unfold outOf Sr119.perform
  simp only [h, if_true]
  rfl
theorem af_no {m : Process} {k : Int} (h : ¬ k < 0) (e : m.ages = []) : outOf m (.ageFraction k) = [-6] := by
  unfold outOf Sr119.perform
  simp only [h, if_false]
  exact last_no e
theorem af_ok {m : Process} {k : Int} (h : ¬ k < 0) (e : ¬ m.ages = []) : outOf m (.ageFraction k) = frs (m.ages.getD k.toNat (ofInt 0)) := by
  unfold outOf Sr119.perform
  simp only [h, if_false]
  exact last_ok e
theorem ot_neg {m : Process} {k : Int} (h : k < 0) : outOf m (.olderThan k) = [-22] := by
  unfold outOf Sr119.perform
  simp only [h, if_true]
  rfl
theorem ot_no {m : Process} {k : Int} (h : ¬ k < 0) (e : m.ages = []) : outOf m (.olderThan k) = [-6] := by
  unfold outOf Sr119.perform
  simp only [h, if_false]
  exact last_no e
theorem ot_ok {m : Process} {k : Int} (h : ¬ k < 0) (e : ¬ m.ages = []) : outOf m (.olderThan k) = frs (SrFraction.sum (m.ages.drop (k.toNat + 1))) := by
  unfold outOf Sr119.perform
  simp only [h, if_false]
  exact last_ok e
theorem st0_no {m : Process} (e : m.ages = []) : outOf m .strength = [-6] := last_no e
theorem st0_ok {m : Process} (e : ¬ m.ages = []) : outOf m .strength = frs (strM m m.ages) := last_ok e
theorem ma_no {m : Process} (e : m.ages = []) : outOf m .meanAge = [-6] := last_no e
theorem ma_ok {m : Process} (e : ¬ m.ages = []) : outOf m .meanAge = frs (meanOf m.ages) := last_ok e
theorem sl_no {m : Process} (e : m.ages = []) : outOf m .strengthAboveLimit = [-6] := last_no e
theorem sl_ok {m : Process} (g : Good m) (e : ¬ m.ages = []) : outOf m .strengthAboveLimit = frs (SrFraction.sub (strM m m.ages) (limOf m.parts m.kept m.keptOf m.regrind)) := by
  have h := lim_eq g g.r0
  show res (Sr119.ofLastShot m _) = _
  rw [last_ok e, ← h]
  rfl
theorem li_ok {m : Process} (g : Good m) : outOf m .limits = [0, (limOf m.parts m.kept m.keptOf m.regrind).num, ((limOf m.parts m.kept m.keptOf m.regrind).den : Int), (mk (m.regrind : Int) (m.parts - m.regrind)).num, ((mk (m.regrind : Int) (m.parts - m.regrind)).den : Int)] := by
  rw [← lim_eq g g.r0, ← mlim_eq g]
  rfl
theorem sa_no {m : Process} {n : Int} (h : Sr119.isShotCount n = false) : outOf m (.strengthAfter n) = [-22] := by
  unfold outOf Sr119.perform
  simp only [h, if_true]
  rfl
theorem sa_ok {m : Process} {n : Int} (h : Sr119.isShotCount n = true) : outOf m (.strengthAfter n) = frs (strM m (agesN m.regrind m.parts n.toNat)) := by
  unfold outOf Sr119.perform
  simp only [h, if_false, Bool.true_eq_false, strength_from]
  rfl
theorem si_no {m : Process} {r n : Int} (h : Sr119.isRegrind m.parts r = false ∨ Sr119.isShotCount n = false) : outOf m (.strengthAfterIf r n) = [-22] := by
  unfold outOf Sr119.perform
  simp only [h, if_true]
  rfl
theorem si_ok {m : Process} {r n : Int} (h1 : Sr119.isRegrind m.parts r = true) (h2 : Sr119.isShotCount n = true) : outOf m (.strengthAfterIf r n) = frs (strM m (agesN r.toNat m.parts n.toNat)) := by
  unfold outOf Sr119.perform
  simp only [h1, h2, if_false, Bool.true_eq_false, or_self, strength_from]
  rfl
theorem sa_if {m : Process} (g : Good m) {n : Int} : outOf m (.strengthAfter n) = outOf m (.strengthAfterIf m.regrind n) := by
  have e : Sr119.isRegrind m.parts m.regrind = true := by
    unfold Sr119.isRegrind SrCommon.inRange
    have := g.r0
    rw [decide_eq_true (by omega), decide_eq_true (by omega)]
    rfl
  cases h : Sr119.isShotCount n with
  | true => rw [sa_ok h, si_ok e h, Int.toNat_natCast]
  | false => rw [sa_no h, si_no (.inr h)]
theorem mr_no {m : Process} {n d : Int} (h : Sr119.isThreshold n d = false) : outOf m (.maxRegrind n d) = [-22] := by
  unfold outOf Sr119.perform
  simp only [h, if_true]
  rfl
theorem mr_none {m : Process} {n d : Int} (h : Sr119.isThreshold n d = true) (e : Sr119.maxRegrind m (mk n d.toNat) = none) : outOf m (.maxRegrind n d) = [-33] := by
  unfold outOf Sr119.perform
  simp only [h, if_false, Bool.true_eq_false, e]
  rfl
theorem mr_some {m : Process} {n d : Int} {r : Nat} (h : Sr119.isThreshold n d = true) (e : Sr119.maxRegrind m (mk n d.toNat) = some r) : outOf m (.maxRegrind n d) = [(r : Int)] := by
  unfold outOf Sr119.perform
  simp only [h, if_false, Bool.true_eq_false, e]
  rfl
theorem fw_no {m : Process} {n d : Int} (h : Sr119.isThreshold n d = false) : outOf m (.firstWeakShot n d) = [-22] := by
  unfold outOf Sr119.perform
  simp only [h, if_true]
  rfl
theorem fw_none {m : Process} {n d : Int} (h : Sr119.isThreshold n d = true) (e : Sr119.firstWeakShot m (mk n d.toNat) = none) : outOf m (.firstWeakShot n d) = [-33] := by
  unfold outOf Sr119.perform
  simp only [h, if_false, Bool.true_eq_false, e]
  rfl
theorem fw_some {m : Process} {n d : Int} {r : Nat} (h : Sr119.isThreshold n d = true) (e : Sr119.firstWeakShot m (mk n d.toNat) = some r) : outOf m (.firstWeakShot n d) = [(r : Int)] := by
  unfold outOf Sr119.perform
  simp only [h, if_false, Bool.true_eq_false, e]
  rfl
theorem ad_ok (m : Process) : outOf m .ageDistribution = (m.ages.length : Int) :: m.ages.flatMap SrFraction.encode := rfl
theorem de_ok (m : Process) : outOf m .describe = [(m.shots : Int), (m.regrind : Int), (m.parts : Int), (m.kept : Int), (m.keptOf : Int)] := rfl
/-! ### what is in range -/
theorem reg_iff {p r : Int} (h : Sr119.isRegrind p r = true) : 0 ≤ r ∧ r ≤ p - 1 := by
  unfold Sr119.isRegrind SrCommon.inRange at h
  rw [Bool.and_eq_true] at h
  exact ⟨of_decide_eq_true h.1, of_decide_eq_true h.2⟩
theorem ret_iff {k q : Int} (h : Sr119.isRetention k q = true) : 1 ≤ k ∧ k ≤ q ∧ q ≤ 20 := by
  unfold Sr119.isRetention at h
  rw [Bool.and_eq_true, Bool.and_eq_true] at h
  exact ⟨of_decide_eq_true h.1, of_decide_eq_true h.2.1, of_decide_eq_true h.2.2⟩
theorem thr_iff {n d : Int} (h : Sr119.isThreshold n d = true) : 0 ≤ n ∧ 1 ≤ d ∧ d ≤ 1000 := by
  unfold Sr119.isThreshold SrCommon.inRange at h
  rw [Bool.and_eq_true, Bool.and_eq_true] at h
  exact ⟨of_decide_eq_true h.1, of_decide_eq_true h.2.1, of_decide_eq_true h.2.2⟩
theorem cnt_iff {n : Int} (h : Sr119.isShotCount n = true) : 1 ≤ n ∧ n ≤ 12 := by
  unfold Sr119.isShotCount SrCommon.inRange at h
  rw [Bool.and_eq_true] at h
  exact ⟨of_decide_eq_true h.1, of_decide_eq_true h.2⟩
/-! ### the state stays good -/
theorem next_ne {r v : Fraction} {fs : List Fraction} : nextOf r v fs ≠ [] := by
  unfold nextOf
  split <;> simp
theorem Good.rr {m : Process} (g : Good m) : Bits 5 (rat m.regrind m.parts) := rat5 g.p0 g.p1 (by have := g.r0; have := g.p1; omega)
theorem Good.vr {m : Process} (g : Good m) : Bits 5 (rat (m.parts - m.regrind) m.parts) := rat5 g.p0 g.p1 (by have := g.p1; omega)
theorem Good.nxt {m : Process} (g : Good m) : Sized (m.shots + 1) (nextM m) := g.sz.next g.rr g.vr
theorem Good.shot {m : Process} (g : Good m) {fs : List Fraction} (h : ¬ 12 ≤ m.shots) (ne : fs ≠ []) (sz : Sized (m.shots + 1) fs) : Good (shotM m fs) :=
  ⟨g.p0, g.p1, g.r0, g.k0, g.k1, g.k2, by show m.shots + 1 ≤ 12; omega, by show m.shots + 1 = 0 ↔ fs = []; exact ⟨fun z => absurd z (by omega), fun z => absurd z ne⟩, sz⟩
theorem Good.new {m : Process} (g : Good m) (c : Call) : Good (newOf m c) := by
  cases c with
  | makeShot =>
    by_cases h : 12 ≤ m.shots
    · rw [(ms_full h).1]
      exact g
    · rw [(ms_ok h).1]
      exact g.shot h next_ne g.nxt
  | makeVirginShot =>
    by_cases h : 12 ≤ m.shots
    · rw [(mv_full h).1]
      exact g
    · rw [(mv_ok h).1]
      exact g.shot h (by simp) (Sized.one _)
  | setRegrind r =>
    cases h : Sr119.isRegrind m.parts r with
    | false =>
      rw [(sr_no h).1]
      exact g
    | true =>
      rw [(sr_ok h).1]
      have := reg_iff h
      exact ⟨g.p0, g.p1, by show r.toNat < m.parts; omega, g.k0, g.k1, g.k2, g.s12, g.z, g.sz⟩
  | setRetention k q =>
    cases h : Sr119.isRetention k q with
    | false =>
      rw [(st_no h).1]
      exact g
    | true =>
      rw [(st_ok h).1]
      have := ret_iff h
      exact ⟨g.p0, g.p1, g.r0, by show 1 ≤ k.toNat; omega, by show k.toNat ≤ q.toNat; omega, by show q.toNat ≤ 20; omega, g.s12, g.z, g.sz⟩
  | reset => exact ⟨g.p0, g.p1, g.r0, g.k0, g.k1, g.k2, Nat.zero_le _, ⟨fun _ => rfl, fun _ => rfl⟩, Sized.nil 0⟩
  | _ => exact g
theorem Good.fresh {r p k q : Int} (h1 : SrCommon.inRange p 1 20 = true) (h2 : Sr119.isRegrind p r = true) (h3 : Sr119.isRetention k q = true) : Good ⟨r.toNat, p.toNat, k.toNat, q.toNat, 0, []⟩ := by
  have a := reg_iff h2
  have b := ret_iff h3
  unfold SrCommon.inRange at h1
  rw [Bool.and_eq_true] at h1
  have c1 := of_decide_eq_true h1.1
  have c2 := of_decide_eq_true h1.2
  exact ⟨by show 0 < p.toNat; omega, by show p.toNat ≤ 20; omega, by show r.toNat < p.toNat; omega, by show 1 ≤ k.toNat; omega, by show k.toNat ≤ q.toNat; omega, by show q.toNat ≤ 20; omega, Nat.zero_le _, ⟨fun _ => rfl, fun _ => rfl⟩, Sized.nil 0⟩
end Rg
set_option Elab.async false
set_option linter.all false
set_option maxRecDepth 100000
set_option maxHeartbeats 4000000
namespace Rg
open PySem PySem.Spec PyProof.Rows L2
open SrFraction (Fraction ofInt)
def top (i : Nat) : Stmt := PySem.Challenge.pw_regroundshots_s01_answers.main.body.getD i (.Pass ⟨0, 0, 0, 0⟩)
/-! ### operations whose value is a letter of the reader's own -/
def rZ (C : Int → Int → Prop) (g : Int → Int → Int) : R2 := fun x y H Q => ∃ i j z, x = .int i ∧ y = .int j ∧ C i j ∧ z = g i j ∧ Q (.int z) H
def rB (p : Int → Int → Prop) : R2 := fun x y H Q => ∃ (i j : Int) (c : Bool), x = .int i ∧ y = .int j ∧ (c = true ↔ p i j) ∧ Q (.bl c) H
section
variable {X : Cx}
theorem op_addZ : OpR X (binaryOp .Add) (rZ (fun _ _ => True) fun i j => i + j) := fun pins s σ H x y v u Q I rx ry h => by
  obtain ⟨i, j, z, e1, e2, _, rfl, q⟩ := h
  exact op_add pins s σ H x y v u Q I rx ry ⟨i, j, e1, e2, q⟩
theorem op_subZ : OpR X (binaryOp .Sub) (rZ (fun _ _ => True) fun i j => i - j) := fun pins s σ H x y v u Q I rx ry h => by
  obtain ⟨i, j, z, e1, e2, _, rfl, q⟩ := h
  exact op_sub pins s σ H x y v u Q I rx ry ⟨i, j, e1, e2, q⟩
theorem op_mulZ : OpR X (binaryOp .Mult) (rZ CMulW fun i j => i * j) := fun pins s σ H x y v u Q I rx ry h => by
  obtain ⟨i, j, z, e1, e2, c, rfl, q⟩ := h
  exact op_mulW pins s σ H x y v u Q I rx ry ⟨i, j, e1, e2, c, q⟩
theorem op_divZ : OpR X (binaryOp .FloorDiv) (rZ CDivW fun i j => i / j) := fun pins s σ H x y v u Q I rx ry h => by
  obtain ⟨i, j, z, e1, e2, c, rfl, q⟩ := h
  exact op_fdivW pins s σ H x y v u Q I rx ry ⟨i, j, e1, e2, c, q⟩
theorem op_modZ : OpR X (binaryOp .Mod) (rZ (fun _ j => 0 < j) fun i j => i % j) := fun pins s σ H x y v u Q I rx ry h => by
  obtain ⟨i, j, z, e1, e2, c, rfl, q⟩ := h
  refine op_modN pins s σ H x y v u Q I rx ry ⟨i, j, e1, e2, by omega, ?_⟩
  show Q (V.int (i.fmod j)) H
  rw [Int.fmod_eq_emod_of_nonneg i (by omega)]
  exact q
theorem letter {c : Bool} {p : Prop} [Decidable p] (h : c = true ↔ p) : c = decide p := by
  cases c with
  | true => exact (decide_eq_true (h.mp rfl)).symm
  | false => exact (decide_eq_false fun q => Bool.noConfusion (h.mpr q)).symm
theorem op_ltB : OpR X (compareOp .Lt) (rB fun i j => i < j) := fun pins s σ H x y v u Q I rx ry h => by
  obtain ⟨i, j, c, e1, e2, e, q⟩ := h
  rw [letter e] at q
  exact op_lt pins s σ H x y v u Q I rx ry ⟨i, j, e1, e2, q⟩
theorem op_leB : OpR X (compareOp .LtE) (rB fun i j => i ≤ j) := fun pins s σ H x y v u Q I rx ry h => by
  obtain ⟨i, j, c, e1, e2, e, q⟩ := h
  rw [letter e] at q
  exact op_le pins s σ H x y v u Q I rx ry ⟨i, j, e1, e2, q⟩
theorem op_geB : OpR X (compareOp .GtE) (rB fun i j => j ≤ i) := fun pins s σ H x y v u Q I rx ry h => by
  obtain ⟨i, j, c, e1, e2, e, q⟩ := h
  rw [letter e] at q
  exact op_ge pins s σ H x y v u Q I rx ry ⟨i, j, e1, e2, q⟩
theorem op_eqB : OpR X (compareOp .Eq) (rB fun i j => i = j) := fun pins s σ H x y v u Q I rx ry h => by
  obtain ⟨i, j, c, rfl, rfl, e, q⟩ := h
  have e2 : c = decide (V.int i = V.int j) := letter (e.trans ⟨fun z => by rw [z], fun z => by injection z⟩)
  rw [e2] at q
  exact op_eq pins s σ H _ _ v u Q I rx ry ⟨rfl, q⟩
theorem op_neB : OpR X (compareOp .NotEq) (rB fun i j => i ≠ j) := fun pins s σ H x y v u Q I rx ry h => by
  obtain ⟨i, j, c, rfl, rfl, e, q⟩ := h
  have e2 : c = !decide (V.int i = V.int j) := by
    cases c with
    | true =>
      have h1 := e.mp rfl
      rw [decide_eq_false fun z => h1 (by injection z)]
      rfl
    | false =>
      have h1 : i = j := Decidable.byContradiction fun z => Bool.noConfusion (e.mpr z)
      rw [h1]
      simp
  rw [e2] at q
  exact op_ne pins s σ H _ _ v u Q I rx ry ⟨rfl, q⟩
end
/-! ### fractions of the program -/
/-- a tuple of its two numbers -/
def frV (f : Fraction) : HO := .tup [.int f.num, .int (f.den : Int)]
def Fr (H : Hp) (v : V) (f : Fraction) : Prop := ∃ p, v = .ref p ∧ H p = some (frV f)
theorem Fr.same {H H' : Hp} {v : V} {f : Fraction} (h : Fr H v f) (s : Same H H') : Fr H' v f := by
  obtain ⟨p, e, h⟩ := h
  exact ⟨p, e, s _ _ h⟩
theorem Same.new {H : Hp} {p : Addr} {o : HO} (h : H p = none) : Same H (upd H p o) := fun b o e => by
  rw [upd_ne (ne_of_none e h)]
  exact e
/-- f[0], f[1] -/
def rNum : R2 := fun x y H Q => ∃ f, y = .int 0 ∧ Fr H x f ∧ Q (.int f.num) H
def rDen : R2 := fun x y H Q => ∃ f, y = .int 1 ∧ Fr H x f ∧ Q (.int (f.den : Int)) H
section
variable {X : Cx}
theorem ix_num : IxR X rNum := fun a b pins s σ H x y v u Q I rx ry h hs => by
  obtain ⟨f, rfl, ⟨p, rfl, hp⟩, q⟩ := h
  exact ix_tup a b pins s σ H _ _ v u Q I rx ry ⟨p, _, 0, _, rfl, rfl, SqT.of hp, rfl, q⟩ hs
theorem ix_den : IxR X rDen := fun a b pins s σ H x y v u Q I rx ry h hs => by
  obtain ⟨f, rfl, ⟨p, rfl, hp⟩, q⟩ := h
  exact ix_tup a b pins s σ H _ _ v u Q I rx ry ⟨p, _, 1, _, rfl, rfl, SqT.of hp, rfl, q⟩ hs
end
/-! ### lists of fractions -/
def Frs (H : Hp) (vs : List V) (fs : List Fraction) : Prop := vs.length = fs.length ∧ ∀ (i : Nat) (v : V) (f : Fraction), vs[i]? = some v → fs[i]? = some f → Fr H v f
theorem Frs.same {H H' : Hp} {vs : List V} {fs : List Fraction} (h : Frs H vs fs) (s : Same H H') : Frs H' vs fs := ⟨h.1, fun i v f a b => (h.2 i v f a b).same s⟩
theorem Frs.nil {H : Hp} : Frs H [] [] := ⟨rfl, fun i v f a => by simp at a⟩
theorem Frs.snoc {H : Hp} {vs : List V} {fs : List Fraction} {v : V} {f : Fraction} (h : Frs H vs fs) (hv : Fr H v f) : Frs H (vs ++ [v]) (fs ++ [f]) := by
  refine ⟨by simp [h.1], fun i u g a b => ?_⟩
  by_cases hi : i < vs.length
  · rw [List.getElem?_append_left hi] at a
    rw [List.getElem?_append_left (by rw [← h.1]; exact hi)] at b
    exact h.2 i u g a b
  · have l := idx_lt a
    rw [List.length_append, List.length_singleton] at l
    have e : i = vs.length := by omega
    subst e
    rw [List.getElem?_append_right (Nat.le_refl _), Nat.sub_self] at a
    rw [h.1, List.getElem?_append_right (Nat.le_refl _), Nat.sub_self] at b
    cases a
    cases b
    exact hv
theorem Frs.cons {H : Hp} {vs : List V} {fs : List Fraction} {v : V} {f : Fraction} (hv : Fr H v f) (h : Frs H vs fs) : Frs H (v :: vs) (f :: fs) := by
  refine ⟨by simp [h.1], fun i u g a b => ?_⟩
  cases i with
  | zero =>
    cases a
    cases b
    exact hv
  | succ i => exact h.2 i u g a b
theorem Frs.drop {H : Hp} {vs : List V} {fs : List Fraction} (h : Frs H vs fs) (k : Nat) : Frs H (vs.drop k) (fs.drop k) := by
  refine ⟨by simp [h.1], fun i u g a b => ?_⟩
  rw [List.getElem?_drop] at a b
  exact h.2 _ u g a b
theorem Frs.at_ {H : Hp} {vs : List V} {fs : List Fraction} {i : Nat} {v : V} (h : Frs H vs fs) (a : vs[i]? = some v) : ∃ f, fs[i]? = some f ∧ Fr H v f := by
  have l := idx_lt a
  rw [h.1] at l
  obtain ⟨f, hf⟩ := at_some l
  exact ⟨f, hf, h.2 i v f a hf⟩
def Lst (H : Hp) (l : Addr) (fs : List Fraction) : Prop := ∃ vs, H l = some (.lst vs) ∧ Frs H vs fs
theorem Lst.same {H H' : Hp} {l : Addr} {fs : List Fraction} (h : Lst H l fs) (s : Same H H') : Lst H' l fs := by
  obtain ⟨vs, a, b⟩ := h
  exact ⟨vs, s _ _ a, b.same s⟩
/-- a def of the module, as its callers know it -/
def Def (P : Program) (w : World) (K : PySem.W.Frag) (mg : Str → Option Value) (base : Heap) (x : Str) (ps : List Str) (k : Nat) (sp : Sp) : Prop :=
  ∃ f fd, mg x = some (.ref f) ∧ PySem.W.keepIn K (.ref f) = true ∧ Binds K fd ps [] ∧ FnOk P w K mg base CX0 k f fd ps sp
theorem Bits.mulW {a b : Nat} {i j : Int} (ha : i.natAbs < 2 ^ a) (hb : j.natAbs < 2 ^ b) (h1 : a + b ≤ 1000 * 998) : CMulW i j :=
  wide_mul (a := a + 1) (b := b + 1) (Nat.lt_of_lt_of_le ha (two_le (by omega))) (Nat.lt_of_lt_of_le hb (two_le (by omega))) (by omega) (by omega) (by omega)
end Rg
set_option Elab.async false
set_option linter.all false
set_option maxRecDepth 100000
set_option maxHeartbeats 4000000
set_option exponentiation.threshold 10000
namespace Rg
open PySem PySem.Spec PyProof.Rows L2
open SrFraction (Fraction ofInt)
/-! ### promises -/
def spCd : Sp := fun vs H Q _ => ∃ a b : Nat, vs = [.int a, .int b] ∧ Q (.int (Nat.gcd a b)) H
def spReduced : Sp := fun vs H Q _ => ∃ (n : Int) (d : Nat), vs = [.int n, .int d] ∧ 0 < d ∧ d < 2 ^ 8000 ∧ ∀ v H', Same H H' → Fr H' v (mk n d) → Q v H'
def spBin (op : Fraction → Fraction → Fraction) : Sp := fun vs H Q _ => ∃ x y f g, vs = [x, y] ∧ Fr H x f ∧ Fr H y g ∧ Bits 3000 f ∧ Bits 3000 g ∧ ∀ v H', Same H H' → Fr H' v (op f g) → Q v H'
def spLess : Sp := fun vs H Q _ => ∃ x y f g, vs = [x, y] ∧ Fr H x f ∧ Fr H y g ∧ Bits 3000 f ∧ Bits 3000 g ∧ Q (.bl (SrFraction.lt f g)) H
def spTotal : Sp := fun vs H Q _ => ∃ (a : Addr) (fs : List Fraction) (b : Nat), vs = [.ref a] ∧ Lst H a fs ∧ (∀ f ∈ fs, Bits b f) ∧ 1 + (b + 1) * fs.length ≤ 3000 ∧ b ≤ 3000 ∧ ∀ v H', Same H H' → Fr H' v (SrFraction.sum fs) → Q v H'
section
variable {P : Program} {w : World} {K : PySem.W.Frag} {mg : Str → Option Value} {base : Heap} {f : Addr} {fd : FuncData}
abbrev sCd : Stmt := top 1
theorem scCd : FnScope ["one", "other", "rest"] ["one", "other"] (defScope sCd) := ⟨rfl, rfl, rfl, by decide +kernel, rfl, by decide +kernel, by decide +kernel⟩
def cdM (σ : L2.St) : Nat := match σ with
  | [_, some (V.int y), _] => y.toNat
  | _ => 0
theorem ok_cd (F : Fun K "common_divisor" "common_divisor" sCd f fd) : FnOk P w K mg base CX0 1 f fd ["one", "other"] spCd := by
  refine F.ok scCd (fun vs H Q E h => ?_) (fun cdv A outer s H vs Q E hr h => ?_)
  · obtain ⟨a, b, rfl, _⟩ := h
    rfl
  · obtain ⟨a, b, rfl, hq⟩ := h
    refine ⟨_, pss_cons (ps_while PassesOwn.never (pt_cmpR op_neB (pv 1) pe_int (nomark _))
      (pss_cons (ps_set (i := 2) scCd.nd rfl (.inl rfl) (pe_op op_modZ (pv 0) (pv 1)))
      (pss_cons (ps_set (i := 0) scCd.nd rfl (.inl rfl) (pv 1))
      (pss_one (ps_set (i := 1) scCd.nd rfl (.inl rfl) (pv 2))))))
      (pss_one (ps_ret (pv 0))), ?_⟩
    refine while_by (fun σ H' => H' = H ∧ ∃ (x y : Nat) (v : Option V), σ = [some (.int x), some (.int y), v] ∧ Nat.gcd x y = Nat.gcd a b) (fun σ _ => cdM σ) ⟨rfl, a, b, none, rfl, rfl⟩ ?_ ?_
    · rintro σ H' ⟨rfl, x, y, v, rfl, e⟩
      cases y with
      | zero =>
        refine ⟨_, rfl, _, _, false, rfl, rfl, by simp, _, rfl, iteF ⟨_, rfl, ?_⟩⟩
        rw [show Nat.gcd x 0 = x from Nat.gcd_zero_right x] at e
        rw [e]
        exact hq
      | succ y =>
        refine ⟨_, rfl, _, _, true, rfl, rfl, ⟨fun _ => by omega, fun _ => rfl⟩, _, rfl, iteT ⟨_, rfl, _, rfl, _, _, ((x % (y + 1) : Nat) : Int), rfl, rfl, (by omega), rfl, _, rfl, _, rfl, ⟨rfl, y + 1, x % (y + 1), _, rfl, ?_⟩, ?_⟩⟩
        · rw [← e, Nat.gcd_comm, ← Nat.gcd_rec, Nat.gcd_comm]
        · show ((x % (y + 1) : Nat) : Int).toNat < ((y + 1 : Nat) : Int).toNat
          have := Nat.mod_lt x (show 0 < y + 1 by omega)
          omega
    · rintro σ H' Q' Q'' hi ⟨v, h1, i, j, c, h2, h3, h4, k, h5, h6⟩
      exact ⟨v, h1, i, j, c, h2, h3, h4, k, h5, hi _ _ h6⟩
abbrev sReduced : Stmt := top 2
theorem scReduced : FnScope ["num", "den", "divisor"] ["num", "den"] (defScope sReduced) := ⟨rfl, rfl, rfl, by decide +kernel, rfl, by decide +kernel, by decide +kernel⟩
theorem ok_reduced (F : Fun K "reduced" "reduced" sReduced f fd) (gabs : mg "abs" = none) (C : Def P w K mg base "common_divisor" ["one", "other"] 1 spCd) : FnOk P w K mg base CX0 2 f fd ["num", "den"] spReduced := by
  obtain ⟨fC, dC, mC, kC, bC, GC⟩ := C
  refine F.ok scReduced (fun vs H Q E h => ?_) (fun cdv A outer s H vs Q E hr h => ?_)
  · obtain ⟨a, b, rfl, _⟩ := h
    rfl
  · obtain ⟨n, d, rfl, hd, hb, hq⟩ := h
    refine ⟨_, pss_cons (ps_set (i := 2) scReduced.nd rfl (.inl rfl) (pe_call GC hr rfl mC kC bC .nil pass0 (pa_cons (pe_callB call_abs (by rfl) gabs (by decide +kernel) (pa_cons (pv 0) pa_nil)) (pa_cons (pv 1) pa_nil))))
      (pss_one (ps_ret (pe_tup (pa_cons (pe_op op_divZ (pv 0) (pv 2)) (pa_cons (pe_op op_divZ (pv 1) (pv 2)) pa_nil))))), ?_⟩
    have ea : (if n < 0 then -n else n) = ((n.natAbs : Nat) : Int) := by split <;> omega
    refine ⟨_, rfl, _, rfl, _, rfl, n.natAbs, d, by rw [ea]; rfl, ?_⟩
    have g := gpos (n := n) hd
    have l := gle (n := n) hd
    have hg : CDivW 0 ((Nat.gcd n.natAbs d : Nat) : Int) := wide_div (b := 8000) (by omega) (by rw [Int.natAbs_natCast]; exact Nat.lt_of_le_of_lt l hb) (by decide) (by decide)
    refine ⟨_, rfl, _, rfl, _, _, _, rfl, rfl, hg, rfl, _, rfl, _, rfl, _, _, _, rfl, rfl, hg, rfl, (by show 2 ≤ sizeLine; decide), fun p hp => hq _ _ (Same.new hp) ⟨p, rfl, ?_⟩⟩
    rw [upd_same, mk_eq hd]
    rfl
/-! ### plus, minus, times, less -/
theorem num3 {f : Fraction} (h : Bits 3000 f) : f.num.natAbs < 2 ^ 3000 := h.1
theorem den3 {f : Fraction} (h : Bits 3000 f) : ((f.den : Int)).natAbs < 2 ^ 3000 := den_abs h
theorem mulW3 {i j : Int} (ha : i.natAbs < 2 ^ 3000) (hb : j.natAbs < 2 ^ 3000) : CMulW i j := Bits.mulW ha hb (by decide)
theorem dens {f g : Fraction} (hf : Bits 3000 f) (hg : Bits 3000 g) : 0 < f.den * g.den ∧ f.den * g.den < 2 ^ 8000 := by
  have h : f.den * g.den < 2 ^ 3000 * 2 ^ 3000 := Nat.mul_lt_mul'' hf.2.1 hg.2.1
  rw [← Nat.pow_add] at h
  exact ⟨Nat.mul_pos hf.2.2 hg.2.2, Nat.lt_of_lt_of_le h (two_le (by decide))⟩
abbrev sPlus : Stmt := top 3
theorem scPlus : FnScope ["one", "other"] ["one", "other"] (defScope sPlus) := ⟨rfl, rfl, rfl, by decide +kernel, rfl, by decide +kernel, by decide +kernel⟩
theorem ok_plus (F : Fun K "plus" "plus" sPlus f fd) (R : Def P w K mg base "reduced" ["num", "den"] 2 spReduced) : FnOk P w K mg base CX0 3 f fd ["one", "other"] (spBin SrFraction.add) := by
  obtain ⟨fR, dR, mR, kR, bR, GR⟩ := R
  refine F.ok scPlus (fun vs H Q E h => ?_) (fun cdv A outer s H vs Q E hr h => ?_)
  · obtain ⟨a, b, _, _, rfl, _⟩ := h
    rfl
  · obtain ⟨x, y, f, g, rfl, hf, hg, bf, bg, hq⟩ := h
    refine ⟨_, pss_one (ps_ret (pe_call GR hr rfl mR kR bR .nil pass0 (pa_cons (pe_op op_addZ
        (pe_op op_mulZ (pe_ix ix_num (pv 0) pe_int (fun _ _ => rfl)) (pe_ix ix_den (pv 1) pe_int (fun _ _ => rfl)))
        (pe_op op_mulZ (pe_ix ix_num (pv 1) pe_int (fun _ _ => rfl)) (pe_ix ix_den (pv 0) pe_int (fun _ _ => rfl))))
      (pa_cons (pe_op op_mulZ (pe_ix ix_den (pv 0) pe_int (fun _ _ => rfl)) (pe_ix ix_den (pv 1) pe_int (fun _ _ => rfl))) pa_nil)))), ?_⟩
    refine ⟨_, rfl, f, rfl, hf, _, rfl, g, rfl, hg, _, _, _, rfl, rfl, mulW3 bf.1 (den3 bg), rfl, ?_⟩
    refine ⟨_, rfl, g, rfl, hg, _, rfl, f, rfl, hf, _, _, _, rfl, rfl, mulW3 bg.1 (den3 bf), rfl, _, _, _, rfl, rfl, trivial, rfl, ?_⟩
    refine ⟨_, rfl, f, rfl, hf, _, rfl, g, rfl, hg, _, _, ((f.den * g.den : Nat) : Int), rfl, rfl, mulW3 (den3 bf) (den3 bg), Int.natCast_mul _ _, ?_⟩
    exact ⟨_, _, rfl, (dens bf bg).1, (dens bf bg).2, hq⟩
abbrev sMinus : Stmt := top 4
theorem scMinus : FnScope ["one", "other"] ["one", "other"] (defScope sMinus) := ⟨rfl, rfl, rfl, by decide +kernel, rfl, by decide +kernel, by decide +kernel⟩
theorem ok_minus (F : Fun K "minus" "minus" sMinus f fd) (R : Def P w K mg base "reduced" ["num", "den"] 2 spReduced) : FnOk P w K mg base CX0 3 f fd ["one", "other"] (spBin SrFraction.sub) := by
  obtain ⟨fR, dR, mR, kR, bR, GR⟩ := R
  refine F.ok scMinus (fun vs H Q E h => ?_) (fun cdv A outer s H vs Q E hr h => ?_)
  · obtain ⟨a, b, _, _, rfl, _⟩ := h
    rfl
  · obtain ⟨x, y, f, g, rfl, hf, hg, bf, bg, hq⟩ := h
    refine ⟨_, pss_one (ps_ret (pe_call GR hr rfl mR kR bR .nil pass0 (pa_cons (pe_op op_subZ
        (pe_op op_mulZ (pe_ix ix_num (pv 0) pe_int (fun _ _ => rfl)) (pe_ix ix_den (pv 1) pe_int (fun _ _ => rfl)))
        (pe_op op_mulZ (pe_ix ix_num (pv 1) pe_int (fun _ _ => rfl)) (pe_ix ix_den (pv 0) pe_int (fun _ _ => rfl))))
      (pa_cons (pe_op op_mulZ (pe_ix ix_den (pv 0) pe_int (fun _ _ => rfl)) (pe_ix ix_den (pv 1) pe_int (fun _ _ => rfl))) pa_nil)))), ?_⟩
    refine ⟨_, rfl, f, rfl, hf, _, rfl, g, rfl, hg, _, _, _, rfl, rfl, mulW3 bf.1 (den3 bg), rfl, ?_⟩
    refine ⟨_, rfl, g, rfl, hg, _, rfl, f, rfl, hf, _, _, _, rfl, rfl, mulW3 bg.1 (den3 bf), rfl, _, _, _, rfl, rfl, trivial, rfl, ?_⟩
    refine ⟨_, rfl, f, rfl, hf, _, rfl, g, rfl, hg, _, _, ((f.den * g.den : Nat) : Int), rfl, rfl, mulW3 (den3 bf) (den3 bg), Int.natCast_mul _ _, ?_⟩
    refine ⟨_, _, rfl, (dens bf bg).1, (dens bf bg).2, fun v H' s z => hq v H' s ?_⟩
    rw [sub_eq]
    exact z
abbrev sTimes : Stmt := top 5
theorem scTimes : FnScope ["one", "other"] ["one", "other"] (defScope sTimes) := ⟨rfl, rfl, rfl, by decide +kernel, rfl, by decide +kernel, by decide +kernel⟩
theorem ok_times (F : Fun K "times" "times" sTimes f fd) (R : Def P w K mg base "reduced" ["num", "den"] 2 spReduced) : FnOk P w K mg base CX0 3 f fd ["one", "other"] (spBin SrFraction.mul) := by
  obtain ⟨fR, dR, mR, kR, bR, GR⟩ := R
  refine F.ok scTimes (fun vs H Q E h => ?_) (fun cdv A outer s H vs Q E hr h => ?_)
  · obtain ⟨a, b, _, _, rfl, _⟩ := h
    rfl
  · obtain ⟨x, y, f, g, rfl, hf, hg, bf, bg, hq⟩ := h
    refine ⟨_, pss_one (ps_ret (pe_call GR hr rfl mR kR bR .nil pass0 (pa_cons
        (pe_op op_mulZ (pe_ix ix_num (pv 0) pe_int (fun _ _ => rfl)) (pe_ix ix_num (pv 1) pe_int (fun _ _ => rfl)))
      (pa_cons (pe_op op_mulZ (pe_ix ix_den (pv 0) pe_int (fun _ _ => rfl)) (pe_ix ix_den (pv 1) pe_int (fun _ _ => rfl))) pa_nil)))), ?_⟩
    refine ⟨_, rfl, f, rfl, hf, _, rfl, g, rfl, hg, _, _, _, rfl, rfl, mulW3 bf.1 bg.1, rfl, ?_⟩
    refine ⟨_, rfl, f, rfl, hf, _, rfl, g, rfl, hg, _, _, ((f.den * g.den : Nat) : Int), rfl, rfl, mulW3 (den3 bf) (den3 bg), Int.natCast_mul _ _, ?_⟩
    exact ⟨_, _, rfl, (dens bf bg).1, (dens bf bg).2, hq⟩
abbrev sLess : Stmt := top 6
theorem scLess : FnScope ["one", "other"] ["one", "other"] (defScope sLess) := ⟨rfl, rfl, rfl, by decide +kernel, rfl, by decide +kernel, by decide +kernel⟩
theorem ok_less (F : Fun K "less" "less" sLess f fd) : FnOk P w K mg base CX0 1 f fd ["one", "other"] spLess := by
  refine F.ok scLess (fun vs H Q E h => ?_) (fun cdv A outer s H vs Q E hr h => ?_)
  · obtain ⟨a, b, _, _, rfl, _⟩ := h
    rfl
  · obtain ⟨x, y, f, g, rfl, hf, hg, bf, bg, hq⟩ := h
    refine ⟨_, pss_one (ps_ret (pe_cmpR op_ltB
        (pe_op op_mulZ (pe_ix ix_num (pv 0) pe_int (fun _ _ => rfl)) (pe_ix ix_den (pv 1) pe_int (fun _ _ => rfl)))
        (pe_op op_mulZ (pe_ix ix_num (pv 1) pe_int (fun _ _ => rfl)) (pe_ix ix_den (pv 0) pe_int (fun _ _ => rfl))) (nomark _))), ?_⟩
    refine ⟨_, rfl, f, rfl, hf, _, rfl, g, rfl, hg, _, _, _, rfl, rfl, mulW3 bf.1 (den3 bg), rfl, ?_⟩
    refine ⟨_, rfl, g, rfl, hg, _, rfl, f, rfl, hf, _, _, _, rfl, rfl, mulW3 bg.1 (den3 bf), rfl, _, _, SrFraction.lt f g, rfl, rfl, ?_, hq⟩
    unfold SrFraction.lt
    exact decide_eq_true_iff
/-! ### total_of -/
abbrev sTotal : Stmt := top 7
theorem scTotal : FnScope ["ratios", "total", "each"] ["ratios"] (defScope sTotal) := ⟨rfl, rfl, rfl, by decide +kernel, rfl, by decide +kernel, by decide +kernel⟩
theorem bits_take {b : Nat} {fs : List Fraction} (h : ∀ f ∈ fs, Bits b f) {i : Nat} (hi : i ≤ fs.length) (hb : 1 + (b + 1) * fs.length ≤ 3000) : Bits 3000 (SrFraction.sum (fs.take i)) := by
  refine (bits_sum (fs.take i) fun f hf => h f (List.mem_of_mem_take hf)).mono (Nat.le_trans (Nat.add_le_add_left (Nat.mul_le_mul_left (b + 1) ?_) 1) hb)
  rw [List.length_take]
  omega
theorem ok_total (F : Fun K "total_of" "total_of" sTotal f fd) (R : Def P w K mg base "reduced" ["num", "den"] 2 spReduced) (A : Def P w K mg base "plus" ["one", "other"] 3 (spBin SrFraction.add)) : FnOk P w K mg base CX0 4 f fd ["ratios"] spTotal := by
  obtain ⟨fR, dR, mR, kR, bR, GR⟩ := R
  obtain ⟨fA, dA, mA, kA, bA, GA⟩ := A
  refine F.ok scTotal (fun vs H Q E h => ?_) (fun cdv A outer s H vs Q E hr h => ?_)
  · obtain ⟨a, b, _, rfl, _⟩ := h
    rfl
  · obtain ⟨a, fs, b, rfl, hL, hb, hm, hb3, hq⟩ := h
    refine ⟨_, pss_cons (ps_set (i := 1) scTotal.nd rfl (.inl rfl) (pe_call GR (hr.mono (by decide)) rfl mR kR bR .nil pass0 (pa_cons pe_int (pa_cons pe_int pa_nil))))
      (pss_cons (ps_for PassesOwn.never rfl (pi_list (pv 0)) (pg_name (i := 2) scTotal.nd rfl (Or.inl rfl))
        (pss_one (ps_set (i := 1) scTotal.nd rfl (.inl rfl) (pe_call GA hr rfl mA kA bA .nil pass0 (pa_cons (pv 1) (pa_cons (pv 2) pa_nil))))))
      (pss_one (ps_ret (pv 1)))), ?_⟩
    obtain ⟨vs, hvs, hF⟩ := hL
    refine ⟨0, 1, rfl, by decide, by show 1 < 2 ^ 8000; exact Nat.one_lt_two_pow (by decide), fun v0 H0 s0 f0 => ?_⟩
    rw [mk01] at f0
    refine ⟨_, rfl, a, rfl, ⟨_, SqL.of (s0 _ _ hvs)⟩, for_list (K := K) (a := a) (xs := vs) (fun i σ H' => ∃ (t : V) (v : Option V), σ = [some (.ref a), some t, v] ∧ Same H H' ∧ Fr H' t (SrFraction.sum (fs.take i)))
      ⟨v0, none, rfl, s0, f0⟩ (fun i σ H' _ ⟨_, _, _, s1, _⟩ => SqL.of (s1 _ _ hvs)) ?_ ?_⟩
    · rintro i y σ H' hi ⟨t, v, rfl, s1, ft⟩
      obtain ⟨g, hg, fg⟩ := hF.at_ hi
      have hl := idx_lt hg
      refine ⟨_, rfl, _, rfl, t, y, _, g, rfl, ft, fg.same s1, bits_take hb (by omega) hm, (hb g (List.mem_of_getElem? hg)).mono hb3, fun v1 H1 s2 f1 => ?_⟩
      refine ⟨v1, some y, rfl, s1.trans s2, ?_⟩
      rw [sum_more hg]
      exact f1
    · rintro σ H' ⟨t, v, rfl, s1, ft⟩
      rw [hF.1, List.take_length] at ft
      exact ⟨_, rfl, hq _ _ s1 ft⟩
end
end Rg
set_option Elab.async false
set_option linter.all false
set_option maxRecDepth 100000
set_option maxHeartbeats 4000000
set_option exponentiation.threshold 10000
namespace Rg
open PySem PySem.Spec PyProof.Rows L2
open SrFraction (Fraction ofInt)
theorem Fr.put {H : Hp} {D : Addr} {xs ys : List V} {v : V} {f : Fraction} (hD : H D = some (.lst xs)) (h : Fr H v f) : Fr (upd H D (.lst ys)) v f := by
  obtain ⟨p, e, h⟩ := h
  exact ⟨p, e, by rw [upd_ne (ne_of h hD (by intro z; cases z))]; exact h⟩
theorem Frs.put {H : Hp} {D : Addr} {xs ys us : List V} {gs : List Fraction} (hD : H D = some (.lst xs)) (h : Frs H us gs) : Frs (upd H D (.lst ys)) us gs := ⟨h.1, fun i v f a b => (h.2 i v f a b).put hD⟩
theorem same_put {H H' : Hp} {D : Addr} {o : HO} (hD : H D = none) (s : Same H H') : Same H (upd H' D o) := fun b u e => by
  rw [upd_ne (ne_of_none e hD)]
  exact s b u e
theorem Sized.le {s : Nat} {fs : List Fraction} (h : Sized s fs) (hs : s ≤ 12) : fs.length ≤ 12 := Nat.le_trans h.1 hs
theorem Sized.b61 {s : Nat} {fs : List Fraction} (h : Sized s fs) (hs : s ≤ 12) {f : Fraction} (hf : f ∈ fs) : Bits 61 f := (h.2 f hf).mono (by omega)
theorem lt8000 {d : Nat} (h : d ≤ 1000) : d < 2 ^ 8000 := Nat.lt_of_le_of_lt h (Nat.lt_of_lt_of_le (show 1000 < 2 ^ 10 by decide) (two_le (by decide)))
theorem small12 {n : Nat} (h : n ≤ 1000) : n ≤ sizeLine := Nat.le_of_lt (small1000 h)
theorem yes_of {σ : L2.St} {H : Hp} {A B : Hp → Prop} (h : A H) : tYes σ H (fun b H3 => if b = true then A H3 else B H3) := by
  show if true = true then A H else B H
  rw [if_pos rfl]
  exact h
/-! ### promises -/
/-- how many shots a list of ages may come from: s -/
def spNext : Sp := fun vs H Q _ => ∃ (a : Addr) (fs : List Fraction) (s r p : Nat), vs = [.ref a, .int r, .int p] ∧ Lst H a fs ∧ Sized s fs ∧ s ≤ 12 ∧ 0 < p ∧ p ≤ 20 ∧ r < p ∧
  ∀ q H', Same H H' → H q = none → Lst H' q (nextOf (rat r p) (rat (p - r) p) fs) → Q (.ref q) H'
def spAfter : Sp := fun vs H Q _ => ∃ (n r p : Nat), vs = [.int n, .int r, .int p] ∧ n ≤ 12 ∧ 0 < p ∧ p ≤ 20 ∧ r < p ∧ ∀ q H', Same H H' → Lst H' q (agesN r p n) → Q (.ref q) H'
def spStrength : Sp := fun vs H Q _ => ∃ (a : Addr) (fs : List Fraction) (s k q : Nat), vs = [.ref a, .int k, .int q] ∧ Lst H a fs ∧ Sized s fs ∧ s ≤ 12 ∧ 0 < q ∧ q ≤ 20 ∧ k ≤ q ∧ ∀ v H', Same H H' → Fr H' v (strOf (rat k q) fs) → Q v H'
def spMean : Sp := fun vs H Q _ => ∃ (a : Addr) (fs : List Fraction) (s : Nat), vs = [.ref a] ∧ Lst H a fs ∧ Sized s fs ∧ s ≤ 12 ∧ ∀ v H', Same H H' → Fr H' v (meanOf fs) → Q v H'
def spLimit : Sp := fun vs H Q _ => ∃ (r p k q : Nat), vs = [.int r, .int p, .int k, .int q] ∧ r < p ∧ p ≤ 20 ∧ 0 < q ∧ k ≤ q ∧ q ≤ 20 ∧ ∀ v H', Same H H' → Fr H' v (limOf p k q r) → Q v H'
def spMeanLimit : Sp := fun vs H Q _ => ∃ (r p : Nat), vs = [.int r, .int p] ∧ r < p ∧ p ≤ 20 ∧ ∀ v H', Same H H' → Fr H' v (mk (r : Int) (p - r)) → Q v H'
section
variable {P : Program} {w : World} {K : PySem.W.Frag} {mg : Str → Option Value} {base : Heap} {f : Addr} {fd : FuncData}
/-! ### next_ages -/
abbrev sNext : Stmt := top 9
abbrev nNext : List Str := ["ages", "regrind", "parts", "reground", "part"]
theorem scNext : FnScope nNext ["ages", "regrind", "parts"] (defScope sNext) := ⟨rfl, rfl, rfl, by decide +kernel, rfl, by decide +kernel, by decide +kernel⟩
theorem ok_next (F : Fun K "next_ages" "next_ages" sNext f fd) (glen : mg "len" = none) (R : Def P w K mg base "reduced" ["num", "den"] 2 spReduced) (T : Def P w K mg base "times" ["one", "other"] 3 (spBin SrFraction.mul)) :
    FnOk P w K mg base CX0 4 f fd ["ages", "regrind", "parts"] spNext := by
  obtain ⟨fR, dR, mR, kR, bR, GR⟩ := R
  obtain ⟨fT, dT, mT, kT, bT, GT⟩ := T
  refine F.ok scNext (fun vs H Q E h => ?_) (fun cdv A outer s H vs Q E hr h => ?_)
  · obtain ⟨a, _, _, _, _, rfl, _⟩ := h
    rfl
  · obtain ⟨a, fs, s, r, p, rfl, ⟨vs, hvs, hF⟩, hz, hs, p0, p1, hrp, hq⟩ := h
    refine ⟨_, pss_cons (ps_if (pt_cmpR op_eqB (pe_callB call_len_seq (by rfl) glen PySem.boot_len (pa_cons (pv 0) pa_nil)) pe_int (nomark _))
        (pss_one (ps_ret (pe_lst (pa_cons (pe_call GR (hr.mono (by decide)) rfl mR kR bR .nil pass0 (pa_cons pe_int (pa_cons pe_int pa_nil))) pa_nil)))) pss_nil)
      (pss_cons (ps_set (i := 3) scNext.nd rfl (.inr rfl) (pe_call GR (hr.mono (by decide)) rfl mR kR bR .nil pass0 (pa_cons (pv 1) (pa_cons (pv 2) pa_nil))))
      (pss_one (ps_ret (pe_op op_cat
        (pe_lst (pa_cons (pe_call GR (hr.mono (by decide)) rfl mR kR bR .nil pass0 (pa_cons (pe_op op_subZ (pv 2) (pv 1)) (pa_cons (pv 2) pa_nil))) pa_nil))
        (pe_lc (own := [("part", 4)]) (g := gName 4) (tt := tYes) rfl scNext.nd (pi_list (pv 0)) (blkOk_by (N := nNext) (sc := defScope sNext) (by decide +kernel))
          (fun _ _ _ _ _ => pg_name (i := 4) scNext.nd rfl (Or.inl rfl)) (fun _ _ _ _ _ => pts_nil) (fun _ _ _ _ _ => pe_call GT hr rfl mT kT bT .nil pass0 (pa_cons (pv 3) (pa_cons (pv 4) pa_nil)))))))), ?_⟩
    by_cases e : fs = []
    · subst e
      have ev : vs.length = 0 := hF.1
      refine ⟨_, rfl, a, vs, rfl, .inl (SqL.of hvs), _, _, true, rfl, rfl, ⟨fun _ => by omega, fun _ => rfl⟩, _, rfl, iteT ?_⟩
      refine ⟨1, 1, rfl, by decide, lt8000 (by decide), fun v1 H1 s1 f1 => ⟨by show 1 ≤ sizeLine; decide, fun l hl => ?_⟩⟩
      rw [mk11] at f1
      refine hq l _ (s1.trans (Same.new hl)) (s1.free hl) ⟨[v1], upd_same, ?_⟩
      exact (Frs.cons f1 Frs.nil).same (Same.new hl)
    · have hl0 : 0 < fs.length := List.length_pos_iff.mpr e
      have ev : vs.length = fs.length := hF.1
      have b1 := rat5 (r := r) p0 p1 (by omega)
      have b2 := rat5 (r := p - r) p0 p1 (by omega)
      refine ⟨_, rfl, a, vs, rfl, .inl (SqL.of hvs), _, _, false, rfl, rfl, ⟨fun z => (Bool.noConfusion z), fun z => by omega⟩, _, rfl, iteF ?_⟩
      refine ⟨_, rfl, _, rfl, r, p, rfl, p0, lt8000 (by omega), fun v1 H1 s1 f1 => ?_⟩
      refine ⟨_, rfl, _, rfl, _, _, ((p - r : Nat) : Int), rfl, rfl, trivial, Int.ofNat_sub (by omega), _, rfl, ((p - r : Nat) : Int), p, rfl, p0, lt8000 (by omega), fun v2 H2 s2 f2 => ⟨by show 1 ≤ sizeLine; decide, fun l hl => ?_⟩⟩
      have s3 : Same H (upd H2 l (.lst [v2])) := (s1.trans s2).trans (Same.new hl)
      refine ⟨_, rfl, a, rfl, ⟨_, SqL.of (s3 _ _ hvs)⟩, fun D hD => ?_⟩
      have fr := f1.same (s2.trans (Same.new (o := .lst [v2]) hl))
      refine lc_list (K := K) (a := a) (xs := vs) (fun i H' => Same (upd H2 l (.lst [v2])) H' ∧ ∃ us, H' D = some (.lst us) ∧ Frs H' us ((fs.take i).map (SrFraction.mul (rat r p))))
        ⟨Same.new hD, [], upd_same, Frs.nil⟩ (fun i H' _ ⟨s4, _⟩ => SqL.of (s4 _ _ (s3 _ _ hvs))) ?_ ?_
      · rintro i y H' hi ⟨s4, us, hu, hU⟩
        obtain ⟨g, hg, fg⟩ := hF.at_ hi
        have li := idx_lt hg
        have l12 := hz.le hs
        refine ⟨rfl, ?_⟩
        refine yes_of ?_
        refine ⟨_, rfl, _, rfl, v1, y, rat r p, g, rfl, fr.same s4, fg.same (s3.trans s4), b1.mono (by decide), (hz.b61 hs (List.mem_of_getElem? hg)).mono (by decide), fun v3 H3 s5 f3 => ?_⟩
        have hu3 := s5 _ _ hu
        refine ⟨us, hu3, small1000 (by have := hU.1; rw [List.length_map, List.length_take] at this; omega), same_put hD (s4.trans s5), _, upd_same, ?_⟩
        rw [take_more hg, List.map_append]
        exact ((hU.same s5).snoc f3).put hu3
      · rintro H' ⟨s4, us, hu, hU⟩
        rw [ev, List.take_length] at hU
        have ul : us.length = fs.length := by rw [hU.1, List.length_map]
        have l12 := hz.le hs
        have hl4 : H' l = some (.lst [v2]) := s4 _ _ upd_same
        refine ⟨l, D, _, _, rfl, rfl, hl4, hu, small12 (by rw [ul]; simp; omega), fun q hq4 => ?_⟩
        have s5 := s3.trans s4
        refine hq q _ (s5.trans (Same.new hq4)) (s5.free hq4) ⟨_, upd_same, ?_⟩
        unfold nextOf
        rw [if_neg e]
        exact (Frs.cons (f2.same ((Same.new hl).trans s4)) hU).same (Same.new hq4)
/-! ### ages_after -/
abbrev sAfter : Stmt := top 10
theorem scAfter : FnScope ["n", "regrind", "parts", "ages", "made"] ["n", "regrind", "parts"] (defScope sAfter) := ⟨rfl, rfl, rfl, by decide +kernel, rfl, by decide +kernel, by decide +kernel⟩
theorem ok_after (F : Fun K "ages_after" "ages_after" sAfter f fd) (gran : mg "range" = none) (N : Def P w K mg base "next_ages" ["ages", "regrind", "parts"] 4 spNext) : FnOk P w K mg base CX0 5 f fd ["n", "regrind", "parts"] spAfter := by
  obtain ⟨fN, dN, mN, kN, bN, GN⟩ := N
  refine F.ok scAfter (fun vs H Q E h => ?_) (fun cdv A outer s H vs Q E hr h => ?_)
  · obtain ⟨_, _, _, rfl, _⟩ := h
    rfl
  · obtain ⟨n, r, p, rfl, hn, p0, p1, hrp, hq⟩ := h
    refine ⟨_, pss_cons (ps_set (i := 3) scAfter.nd rfl (.inl rfl) (pe_lst pa_nil))
      (pss_cons (ps_for PassesOwn.never rfl (pi_range1 rfl gran (pa_cons (pv 0) pa_nil)) (pg_name (i := 4) scAfter.nd rfl (Or.inl rfl))
        (pss_one (ps_set (i := 3) scAfter.nd rfl (.inl rfl) (pe_call GN hr rfl mN kN bN .nil pass0 (pa_cons (pv 3) (pa_cons (pv 1) (pa_cons (pv 2) pa_nil)))))))
      (pss_one (ps_ret (pv 3)))), ?_⟩
    refine ⟨Nat.zero_le _, fun q0 hq0 => ?_⟩
    refine ⟨_, rfl, (n : Int), rfl, by omega, by omega, for_range (lo := 0) (n := ((n : Int)).toNat) (fun i σ H' => ∃ (q : Addr) (v : Option V), σ = [some (.int n), some (.int r), some (.int p), some (.ref q), v] ∧ Same H H' ∧ Lst H' q (agesN r p i))
      ⟨q0, none, rfl, Same.new hq0, [], upd_same, Frs.nil⟩ ?_ ?_⟩
    · rintro i σ H' hi ⟨q, v, rfl, s1, hL⟩
      refine ⟨_, rfl, _, rfl, _, rfl, q, agesN r p i, i, r, p, rfl, hL, Sized.ofN p0 p1 hrp i, by omega, p0, p1, hrp, fun q1 H1 s2 _ hL1 => ?_⟩
      exact ⟨q1, _, rfl, s1.trans s2, hL1⟩
    · rintro σ H' ⟨q, v, rfl, s1, hL⟩
      refine ⟨_, rfl, hq q H' s1 ?_⟩
      rw [show ((n : Int)).toNat = n from rfl] at hL
      exact hL
/-! ### strength_of -/
abbrev sStr : Stmt := top 11
abbrev nStr : List Str := ["ages", "kept", "kept_of", "retention", "strength", "left", "part"]
theorem scStr : FnScope nStr ["ages", "kept", "kept_of"] (defScope sStr) := ⟨rfl, rfl, rfl, by decide +kernel, rfl, by decide +kernel, by decide +kernel⟩
theorem ok_str (F : Fun K "strength_of" "strength_of" sStr f fd) (R : Def P w K mg base "reduced" ["num", "den"] 2 spReduced) (Pl : Def P w K mg base "plus" ["one", "other"] 3 (spBin SrFraction.add)) (T : Def P w K mg base "times" ["one", "other"] 3 (spBin SrFraction.mul)) :
    FnOk P w K mg base CX0 4 f fd ["ages", "kept", "kept_of"] spStrength := by
  obtain ⟨fR, dR, mR, kR, bR, GR⟩ := R
  obtain ⟨fP, dP, mP, kP, bP, GP⟩ := Pl
  obtain ⟨fT, dT, mT, kT, bT, GT⟩ := T
  refine F.ok scStr (fun vs H Q E h => ?_) (fun cdv A outer s H vs Q E hr h => ?_)
  · obtain ⟨a, _, _, _, _, rfl, _⟩ := h
    rfl
  · obtain ⟨a, fs, s, k, q, rfl, ⟨vs, hvs, hF⟩, hz, hs, q0, q1, hk, hq⟩ := h
    refine ⟨_, pss_cons (ps_set (i := 3) scStr.nd rfl (.inl rfl) (pe_call GR (hr.mono (by decide)) rfl mR kR bR .nil pass0 (pa_cons (pv 1) (pa_cons (pv 2) pa_nil))))
      (pss_cons (ps_set (i := 4) scStr.nd rfl (.inl rfl) (pe_call GR (hr.mono (by decide)) rfl mR kR bR .nil pass0 (pa_cons pe_int (pa_cons pe_int pa_nil))))
      (pss_cons (ps_set (i := 5) scStr.nd rfl (.inl rfl) (pe_call GR (hr.mono (by decide)) rfl mR kR bR .nil pass0 (pa_cons pe_int (pa_cons pe_int pa_nil))))
      (pss_cons (ps_for PassesOwn.never rfl (pi_list (pv 0)) (pg_name (i := 6) scStr.nd rfl (Or.inl rfl))
        (pss_cons (ps_set (i := 4) scStr.nd rfl (.inl rfl) (pe_call GP hr rfl mP kP bP .nil pass0 (pa_cons (pv 4) (pa_cons (pe_call GT hr rfl mT kT bT .nil pass0 (pa_cons (pv 6) (pa_cons (pv 5) pa_nil))) pa_nil))))
        (pss_one (ps_set (i := 5) scStr.nd rfl (.inl rfl) (pe_call GT hr rfl mT kT bT .nil pass0 (pa_cons (pv 5) (pa_cons (pv 3) pa_nil)))))))
      (pss_one (ps_ret (pv 4)))))), ?_⟩
    have bt := rat5 (r := k) q0 q1 (by omega)
    refine ⟨_, rfl, _, rfl, k, q, rfl, q0, lt8000 (by omega), fun v1 H1 s1 f1 => ?_⟩
    refine ⟨0, 1, rfl, by decide, lt8000 (by decide), fun v2 H2 s2 f2 => ?_⟩
    refine ⟨1, 1, rfl, by decide, lt8000 (by decide), fun v3 H3 s3 f3 => ?_⟩
    rw [mk01] at f2
    rw [mk11] at f3
    have s03 := (s1.trans s2).trans s3
    refine ⟨_, rfl, a, rfl, ⟨_, SqL.of (s03 _ _ hvs)⟩, for_list (K := K) (a := a) (xs := vs)
      (fun i σ H' => ∃ (sv lv : V) (v : Option V), σ = [some (.ref a), some (.int k), some (.int q), some v1, some sv, some lv, v] ∧ Same H3 H' ∧ Fr H' sv (SrFraction.sum ((terms (rat k q) fs).take i)) ∧ Fr H' lv (SrFraction.pow (rat k q) i))
      ⟨v2, v3, none, rfl, Same.refl _, f2.same s3, f3⟩ (fun i σ H' _ ⟨_, _, _, _, s4, _⟩ => SqL.of (s4 _ _ (s03 _ _ hvs))) ?_ ?_⟩
    · rintro i y σ H' hi ⟨sv, lv, v, rfl, s4, fsv, flv⟩
      obtain ⟨g, hg, fg⟩ := hF.at_ hi
      have li := idx_lt hg
      have l12 := hz.le hs
      have ht := terms_at (t := rat k q) hg
      have tb := terms_bits (b := 0) hz hs bt
      have bp : Bits 3000 (SrFraction.pow (rat k q) i) := (bits_pow bt i).mono (by omega)
      have bg : Bits 3000 g := (hz.b61 hs (List.mem_of_getElem? hg)).mono (by decide)
      have bs : Bits 3000 (SrFraction.sum ((terms (rat k q) fs).take i)) := bits_take tb (by rw [terms_len]; omega) (by rw [terms_len]; omega)
      refine ⟨_, rfl, _, rfl, _, rfl, y, lv, g, _, rfl, fg.same (s03.trans s4), flv, bg, bp, fun v4 H4 s5 f4 => ?_⟩
      refine ⟨sv, v4, _, _, rfl, fsv.same s5, f4, bs, (tb _ (List.mem_of_getElem? ht)).mono (by decide), fun v5 H5 s6 f5 => ?_⟩
      refine ⟨_, rfl, _, rfl, lv, v1, _, _, rfl, flv.same (s5.trans s6), f1.same (((s2.trans s3).trans s4).trans (s5.trans s6)), bp, bt.mono (by decide), fun v6 H6 s7 f6 => ?_⟩
      refine ⟨v5, v6, _, rfl, ((s4.trans s5).trans s6).trans s7, ?_, f6⟩
      rw [sum_more ht]
      exact f5.same s7
    · rintro σ H' ⟨sv, lv, v, rfl, s4, fsv, flv⟩
      rw [hF.1, ← terms_len (rat k q) fs, List.take_length] at fsv
      exact ⟨_, rfl, hq _ _ (s03.trans s4) fsv⟩
/-! ### the limits -/
abbrev sLim : Stmt := top 13
theorem scLim : FnScope ["regrind", "parts", "kept", "kept_of"] ["regrind", "parts", "kept", "kept_of"] (defScope sLim) := ⟨rfl, rfl, rfl, by decide +kernel, rfl, by decide +kernel, by decide +kernel⟩
theorem mulS {i j : Nat} (hi : i ≤ 1000) (hj : j ≤ 1000) : CMulW (i : Int) (j : Int) :=
  Bits.mulW (a := 10) (b := 10) (by rw [Int.natAbs_natCast]; show i < 1024; omega) (by rw [Int.natAbs_natCast]; show j < 1024; omega) (by decide)
theorem ok_lim (F : Fun K "strength_limit_of" "strength_limit_of" sLim f fd) (R : Def P w K mg base "reduced" ["num", "den"] 2 spReduced) : FnOk P w K mg base CX0 3 f fd ["regrind", "parts", "kept", "kept_of"] spLimit := by
  obtain ⟨fR, dR, mR, kR, bR, GR⟩ := R
  refine F.ok scLim (fun vs H Q E h => ?_) (fun cdv A outer s H vs Q E hr h => ?_)
  · obtain ⟨_, _, _, _, rfl, _⟩ := h
    rfl
  · obtain ⟨r, p, k, q, rfl, hrp, p1, q0, hk, q1, hq⟩ := h
    refine ⟨_, pss_one (ps_ret (pe_call GR hr rfl mR kR bR .nil pass0 (pa_cons (pe_op op_mulZ (pe_op op_subZ (pv 1) (pv 0)) (pv 3))
      (pa_cons (pe_op op_subZ (pe_op op_mulZ (pv 1) (pv 3)) (pe_op op_mulZ (pv 0) (pv 2))) pa_nil)))), ?_⟩
    have hd := lim_den (p := p) (q := q) (r := r) (k := k) (by omega) q0 hrp hk
    have a2 : p * q ≤ 20 * 20 := Nat.mul_le_mul p1 q1
    refine ⟨_, rfl, _, rfl, _, _, ((p - r : Nat) : Int), rfl, rfl, trivial, Int.ofNat_sub (by omega), _, rfl, _, _, (((p - r) * q : Nat) : Int), rfl, rfl, mulS (by omega) (by omega), Int.natCast_mul _ _, ?_⟩
    refine ⟨_, rfl, _, rfl, _, _, ((p * q : Nat) : Int), rfl, rfl, mulS (by omega) (by omega), Int.natCast_mul _ _, _, rfl, _, rfl, _, _, ((r * k : Nat) : Int), rfl, rfl, mulS (by omega) (by omega), Int.natCast_mul _ _, _, _, ((p * q - r * k : Nat) : Int), rfl, rfl, trivial, Int.ofNat_sub (by omega), ?_⟩
    · exact ⟨_, p * q - r * k, rfl, hd, lt8000 (by omega), hq⟩
abbrev sMlim : Stmt := top 14
theorem scMlim : FnScope ["regrind", "parts"] ["regrind", "parts"] (defScope sMlim) := ⟨rfl, rfl, rfl, by decide +kernel, rfl, by decide +kernel, by decide +kernel⟩
theorem ok_mlim (F : Fun K "mean_age_limit_of" "mean_age_limit_of" sMlim f fd) (R : Def P w K mg base "reduced" ["num", "den"] 2 spReduced) : FnOk P w K mg base CX0 3 f fd ["regrind", "parts"] spMeanLimit := by
  obtain ⟨fR, dR, mR, kR, bR, GR⟩ := R
  refine F.ok scMlim (fun vs H Q E h => ?_) (fun cdv A outer s H vs Q E hr h => ?_)
  · obtain ⟨_, _, rfl, _⟩ := h
    rfl
  · obtain ⟨r, p, rfl, hrp, p1, hq⟩ := h
    refine ⟨_, pss_one (ps_ret (pe_call GR hr rfl mR kR bR .nil pass0 (pa_cons (pv 0) (pa_cons (pe_op op_subZ (pv 1) (pv 0)) pa_nil)))), ?_⟩
    refine ⟨_, rfl, _, rfl, _, rfl, _, _, ((p - r : Nat) : Int), rfl, rfl, trivial, Int.ofNat_sub (by omega), ?_⟩
    exact ⟨_, p - r, rfl, by omega, lt8000 (by omega), hq⟩
end
end Rg
set_option Elab.async false
set_option linter.all false
set_option maxRecDepth 100000
set_option maxHeartbeats 4000000
set_option exponentiation.threshold 10000
namespace Rg
open PySem PySem.Spec PyProof.Rows L2
open SrFraction (Fraction ofInt)
abbrev zsV (l : List Int) : List V := l.map V.int
/-! ### promises -/
def spBool1 (p : Int → Bool) : Sp := fun vs H Q _ => ∃ a : Int, vs = [.int a] ∧ Q (.bl (p a)) H
def spBool2 (p : Int → Int → Bool) : Sp := fun vs H Q _ => ∃ a b : Int, vs = [.int a, .int b] ∧ Q (.bl (p a b)) H
def spBool4 (p : Int → Int → Int → Int → Bool) : Sp := fun vs H Q _ => ∃ a b c d : Int, vs = [.int a, .int b, .int c, .int d] ∧ Q (.bl (p a b c d)) H
def spFa : Sp := fun vs H Q _ => ∃ (x : V) (f : Fraction), vs = [x] ∧ Fr H x f ∧ ∀ p H', Same H H' → H p = none → H' p = some (.lst (zsV (frs f))) → Q (.ref p) H'
abbrev regOk (r p : Int) : Bool := Sr119.isRegrind p r
def setOk (r p k q : Int) : Bool := SrCommon.inRange p 1 20 && (regOk r p && Sr119.isRetention k q)
section
variable {P : Program} {w : World} {K : PySem.W.Frag} {mg : Str → Option Value} {base : Heap} {f : Addr} {fd : FuncData}
/-! ### mean_age_of -/
abbrev sMean : Stmt := top 12
abbrev nMean : List Str := ["ages", "age", "part"]
theorem scMean : FnScope nMean ["ages"] (defScope sMean) := ⟨rfl, rfl, rfl, by decide +kernel, rfl, by decide +kernel, by decide +kernel⟩
theorem ok_mean (F : Fun K "mean_age_of" "mean_age_of" sMean f fd) (gen : mg "enumerate" = none) (R : Def P w K mg base "reduced" ["num", "den"] 2 spReduced) (T : Def P w K mg base "times" ["one", "other"] 3 (spBin SrFraction.mul)) (S : Def P w K mg base "total_of" ["ratios"] 4 spTotal) :
    FnOk P w K mg base CX0 5 f fd ["ages"] spMean := by
  obtain ⟨fR, dR, mR, kR, bR, GR⟩ := R
  obtain ⟨fT, dT, mT, kT, bT, GT⟩ := T
  obtain ⟨fS, dS, mS, kS, bS, GS⟩ := S
  refine F.ok scMean (fun vs H Q E h => ?_) (fun cdv A outer s H vs Q E hr h => ?_)
  · obtain ⟨a, _, _, rfl, _⟩ := h
    rfl
  · obtain ⟨a, fs, s, rfl, ⟨vs, hvs, hF⟩, hz, hs, hq⟩ := h
    refine ⟨_, pss_one (ps_ret (pe_call GS hr rfl mS kS bS .nil pass0 (pa_cons (pe_lc (own := [("age", 1), ("part", 2)]) (g := gTup K 2 (gCons (gName 1) (gCons (gName 2) gNil))) (tt := tYes) rfl scMean.nd
        (pi_enum (by rfl) gen (pa_cons (pv 0) pa_nil)) (blkOk_by (N := nMean) (sc := defScope sMean) (by decide +kernel))
        (fun _ _ _ _ _ => pg_tup rfl (pgs_cons (pg_name (i := 1) scMean.nd rfl (Or.inl rfl)) (pgs_cons (pg_name (i := 2) scMean.nd rfl (Or.inl rfl)) pgs_nil))) (fun _ _ _ _ _ => pts_nil)
        (fun _ _ _ _ _ => pe_call GT (hr.mono (by decide)) rfl mT kT bT .nil pass0 (pa_cons (pv 2) (pa_cons (pe_call GR (hr.mono (by decide)) rfl mR kR bR .nil pass0 (pa_cons (pv 1) (pa_cons pe_int pa_nil))) pa_nil)))) pa_nil))), ?_⟩
    refine ⟨_, rfl, a, vs, rfl, SqL.of hvs, fun D hD => ?_⟩
    have l12 := hz.le hs
    refine lc_it (walk_enum (K := K) (a := a) (xs := vs)) (fun i H' => Same H H' ∧ ∃ us, H' D = some (.lst us) ∧ Frs H' us ((mterms fs).take i))
      ⟨Same.new hD, [], upd_same, Frs.nil⟩ (fun i H' _ ⟨s4, _⟩ => SqL.of (s4 _ _ hvs)) ?_ ?_
    · rintro i x H' H'' hi ⟨s4, us, hu, hU⟩ ⟨T, x1, y, rfl, hT, rfl, e1, e2⟩
      obtain rfl : V.int (i : Nat) = x1 := Option.some.inj e1
      obtain ⟨g, hg, fg⟩ := hF.at_ e2
      have li := idx_lt hg
      have s5 : Same H' (upd H' T (.tup [.int (i : Nat), y])) := Same.new hT
      refine ⟨T, _, rfl, SqT.of upd_same, rfl, _, _, rfl, _, _, rfl, rfl, rfl, ?_⟩
      refine yes_of ?_
      have ht := mterms_at hg
      refine ⟨_, rfl, _, rfl, (i : Int), 1, rfl, by decide, lt8000 (by decide), fun v1 H1 s6 f1 => ?_⟩
      rw [mk_one] at f1
      have b2 : Bits 3000 (ofInt (i : Nat)) := Bits.mono (a := 4) ⟨by show ((i : Int)).natAbs < 16; omega, by show 1 < 16; decide, by show 0 < 1; decide⟩ (by decide)
      refine ⟨y, v1, g, _, rfl, fg.same ((s4.trans s5).trans s6), f1, (hz.b61 hs (List.mem_of_getElem? hg)).mono (by decide), b2, fun v3 H3 s7 f3 => ?_⟩
      have s57 := (s5.trans s6).trans s7
      have hu3 := s57 _ _ hu
      refine ⟨us, hu3, small1000 (by have := hU.1; rw [List.length_take, mterms_len] at this; omega), same_put hD (s4.trans s57), _, upd_same, ?_⟩
      rw [take_more ht]
      exact ((hU.same s57).snoc f3).put hu3
    · rintro H' ⟨s4, us, hu, hU⟩
      rw [hF.1, ← mterms_len fs, List.take_length] at hU
      refine ⟨D, mterms fs, 65, rfl, ⟨us, hu, hU⟩, mterms_bits hz hs, by rw [mterms_len]; omega, by decide, fun v H1 s5 f1 => hq v H1 (s4.trans s5) f1⟩
/-! ### what is allowed -/
abbrev sRa : Stmt := top 23
theorem scRa : FnScope ["regrind", "parts"] ["regrind", "parts"] (defScope sRa) := ⟨rfl, rfl, rfl, by decide +kernel, rfl, by decide +kernel, by decide +kernel⟩
theorem ok_ra (F : Fun K "regrind_allowed" "regrind_allowed" sRa f fd) : FnOk P w K mg base CX0 1 f fd ["regrind", "parts"] (spBool2 regOk) := by
  refine F.ok scRa (fun vs H Q E h => ?_) (fun cdv A outer s H vs Q E hr h => ?_)
  · obtain ⟨_, _, rfl, _⟩ := h
    rfl
  · obtain ⟨r, p, rfl, hq⟩ := h
    refine ⟨_, pss_one (ps_ret (pe_chain op_leB op_leB pe_int (pv 0) (pe_op op_subZ (pv 1) pe_int))), ?_⟩
    unfold regOk Sr119.isRegrind SrCommon.inRange at hq
    refine ⟨_, rfl, 0, r, decide (0 ≤ r), rfl, rfl, decide_eq_true_iff, _, rfl, ?_⟩
    by_cases h0 : 0 ≤ r
    · rw [decide_eq_true h0] at hq ⊢
      refine iteT ⟨_, rfl, p, 1, p - 1, rfl, rfl, trivial, rfl, r, p - 1, decide (r ≤ p - 1), rfl, rfl, decide_eq_true_iff, hq⟩
    · rw [decide_eq_false h0] at hq ⊢
      exact iteF hq
abbrev sTa : Stmt := top 24
theorem scTa : FnScope ["kept", "kept_of"] ["kept", "kept_of"] (defScope sTa) := ⟨rfl, rfl, rfl, by decide +kernel, rfl, by decide +kernel, by decide +kernel⟩
theorem ok_ta {t : Tok} (F : Fun K "retention_allowed" "retention_allowed" sTa f fd) (gL : mg "LARGEST_DENOMINATOR" = some (.int 20 t)) : FnOk P w K mg base CX0 1 f fd ["kept", "kept_of"] (spBool2 Sr119.isRetention) := by
  refine F.ok scTa (fun vs H Q E h => ?_) (fun cdv A outer s H vs Q E hr h => ?_)
  · obtain ⟨_, _, rfl, _⟩ := h
    rfl
  · obtain ⟨k, q, rfl, hq⟩ := h
    refine ⟨_, pss_one (ps_ret (pe_and (pe_chain op_leB op_leB pe_int (pv 1) (pe_glob rfl gL (v := .int 20) ⟨_, rfl⟩)) (pe_one (pe_chain op_leB op_leB pe_int (pv 0) (pv 1))))), ?_⟩
    unfold Sr119.isRetention at hq
    refine ⟨_, rfl, 1, q, decide (1 ≤ q), rfl, rfl, decide_eq_true_iff, _, rfl, ?_⟩
    by_cases h1 : 1 ≤ q
    · rw [decide_eq_true h1]
      refine iteT ⟨q, 20, decide (q ≤ 20), rfl, rfl, decide_eq_true_iff, _, rfl, ?_⟩
      by_cases h2 : q ≤ 20
      · rw [decide_eq_true h2] at hq ⊢
        refine iteT ⟨_, rfl, 1, k, decide (1 ≤ k), rfl, rfl, decide_eq_true_iff, _, rfl, ?_⟩
        by_cases h3 : 1 ≤ k
        · rw [decide_eq_true h3] at hq ⊢
          refine iteT ⟨_, rfl, k, q, decide (k ≤ q), rfl, rfl, decide_eq_true_iff, ?_⟩
          rw [Bool.and_true] at hq
          exact hq
        · rw [decide_eq_false h3] at hq ⊢
          exact iteF hq
      · rw [decide_eq_false h2] at hq ⊢
        rw [Bool.and_false, Bool.and_false] at hq
        exact iteF hq
    · rw [decide_eq_false h1]
      refine iteF ⟨_, rfl, iteF ?_⟩
      have e : (decide (1 ≤ k) && (decide (k ≤ q) && decide (q ≤ 20))) = false := by
        by_cases h3 : 1 ≤ k
        · rw [decide_eq_false (show ¬ k ≤ q by omega), Bool.false_and, Bool.and_false]
        · rw [decide_eq_false h3, Bool.false_and]
      rw [e] at hq
      exact hq
abbrev sSa : Stmt := top 25
theorem scSa : FnScope ["regrind", "parts", "kept", "kept_of"] ["regrind", "parts", "kept", "kept_of"] (defScope sSa) := ⟨rfl, rfl, rfl, by decide +kernel, rfl, by decide +kernel, by decide +kernel⟩
theorem ok_sa {t : Tok} (F : Fun K "settings_allowed" "settings_allowed" sSa f fd) (gL : mg "LARGEST_DENOMINATOR" = some (.int 20 t)) (R : Def P w K mg base "regrind_allowed" ["regrind", "parts"] 1 (spBool2 regOk)) (T : Def P w K mg base "retention_allowed" ["kept", "kept_of"] 1 (spBool2 Sr119.isRetention)) :
    FnOk P w K mg base CX0 2 f fd ["regrind", "parts", "kept", "kept_of"] (spBool4 setOk) := by
  obtain ⟨fR, dR, mR, kR, bR, GR⟩ := R
  obtain ⟨fT, dT, mT, kT, bT, GT⟩ := T
  refine F.ok scSa (fun vs H Q E h => ?_) (fun cdv A outer s H vs Q E hr h => ?_)
  · obtain ⟨_, _, _, _, rfl, _⟩ := h
    rfl
  · obtain ⟨r, p, k, q, rfl, hq⟩ := h
    refine ⟨_, pss_cons (ps_if (pt_not (pt_chain op_leB op_leB pe_int (pv 1) (pe_glob rfl gL (v := .int 20) ⟨_, rfl⟩))) (pss_one (ps_ret pe_bl)) pss_nil)
      (pss_one (ps_ret (pe_and (pe_call GR hr rfl mR kR bR .nil pass0 (pa_cons (pv 0) (pa_cons (pv 1) pa_nil))) (pe_one (pe_call GT hr rfl mT kT bT .nil pass0 (pa_cons (pv 2) (pa_cons (pv 3) pa_nil))))))), ?_⟩
    unfold setOk SrCommon.inRange at hq
    refine ⟨_, rfl, 1, p, decide (1 ≤ p), rfl, rfl, decide_eq_true_iff, _, rfl, ?_⟩
    by_cases h1 : 1 ≤ p
    · rw [decide_eq_true h1] at hq ⊢
      refine iteT ⟨p, 20, decide (p ≤ 20), rfl, rfl, decide_eq_true_iff, _, rfl, ?_⟩
      by_cases h2 : p ≤ 20
      · rw [decide_eq_true h2] at hq ⊢
        refine iteF ⟨_, rfl, _, rfl, r, p, rfl, regOk r p, rfl, ?_⟩
        cases hc : regOk r p with
        | true =>
          rw [hc] at hq
          exact iteT ⟨_, rfl, _, rfl, k, q, rfl, hq⟩
        | false =>
          rw [hc] at hq
          exact iteF hq
      · rw [decide_eq_false h2] at hq ⊢
        exact iteT hq
    · rw [decide_eq_false h1] at hq ⊢
      exact iteF ⟨_, rfl, iteT hq⟩
abbrev sTh : Stmt := top 26
theorem scTh : FnScope ["num", "den"] ["num", "den"] (defScope sTh) := ⟨rfl, rfl, rfl, by decide +kernel, rfl, by decide +kernel, by decide +kernel⟩
theorem ok_th {t : Tok} (F : Fun K "threshold_allowed" "threshold_allowed" sTh f fd) (gL : mg "LARGEST_THRESHOLD_DENOMINATOR" = some (.int 1000 t)) : FnOk P w K mg base CX0 1 f fd ["num", "den"] (spBool2 Sr119.isThreshold) := by
  refine F.ok scTh (fun vs H Q E h => ?_) (fun cdv A outer s H vs Q E hr h => ?_)
  · obtain ⟨_, _, rfl, _⟩ := h
    rfl
  · obtain ⟨n, d, rfl, hq⟩ := h
    refine ⟨_, pss_one (ps_ret (pe_and (pe_cmpR op_geB (pv 0) pe_int (nomark _)) (pe_one (pe_chain op_leB op_leB pe_int (pv 1) (pe_glob rfl gL (v := .int 1000) ⟨_, rfl⟩))))), ?_⟩
    unfold Sr119.isThreshold SrCommon.inRange at hq
    refine ⟨_, rfl, n, 0, decide (0 ≤ n), rfl, rfl, decide_eq_true_iff, _, rfl, ?_⟩
    by_cases h1 : 0 ≤ n
    · rw [decide_eq_true h1] at hq ⊢
      refine iteT ⟨_, rfl, 1, d, decide (1 ≤ d), rfl, rfl, decide_eq_true_iff, _, rfl, ?_⟩
      by_cases h2 : 1 ≤ d
      · rw [decide_eq_true h2] at hq ⊢
        exact iteT ⟨d, 1000, decide (d ≤ 1000), rfl, rfl, decide_eq_true_iff, hq⟩
      · rw [decide_eq_false h2] at hq ⊢
        exact iteF hq
    · rw [decide_eq_false h1] at hq ⊢
      exact iteF hq
abbrev sSh : Stmt := top 27
theorem scSh : FnScope ["n"] ["n"] (defScope sSh) := ⟨rfl, rfl, rfl, by decide +kernel, rfl, by decide +kernel, by decide +kernel⟩
theorem ok_sh {t : Tok} (F : Fun K "shots_allowed" "shots_allowed" sSh f fd) (gL : mg "MOST_SHOTS" = some (.int 12 t)) : FnOk P w K mg base CX0 1 f fd ["n"] (spBool1 Sr119.isShotCount) := by
  refine F.ok scSh (fun vs H Q E h => ?_) (fun cdv A outer s H vs Q E hr h => ?_)
  · obtain ⟨_, rfl, _⟩ := h
    rfl
  · obtain ⟨n, rfl, hq⟩ := h
    refine ⟨_, pss_one (ps_ret (pe_chain op_leB op_leB pe_int (pv 0) (pe_glob rfl gL (v := .int 12) ⟨_, rfl⟩))), ?_⟩
    unfold Sr119.isShotCount SrCommon.inRange at hq
    refine ⟨_, rfl, 1, n, decide (1 ≤ n), rfl, rfl, decide_eq_true_iff, _, rfl, ?_⟩
    by_cases h1 : 1 ≤ n
    · rw [decide_eq_true h1] at hq ⊢
      exact iteT ⟨n, 12, decide (n ≤ 12), rfl, rfl, decide_eq_true_iff, hq⟩
    · rw [decide_eq_false h1] at hq ⊢
      exact iteF hq
abbrev sFa : Stmt := top 28
theorem scFa : FnScope ["fraction"] ["fraction"] (defScope sFa) := ⟨rfl, rfl, rfl, by decide +kernel, rfl, by decide +kernel, by decide +kernel⟩
theorem ok_fa (F : Fun K "fraction_answer" "fraction_answer" sFa f fd) : FnOk P w K mg base CX0 1 f fd ["fraction"] spFa := by
  refine F.ok scFa (fun vs H Q E h => ?_) (fun cdv A outer s H vs Q E hr h => ?_)
  · obtain ⟨_, _, rfl, _⟩ := h
    rfl
  · obtain ⟨x, g, rfl, fx, hq⟩ := h
    refine ⟨_, pss_one (ps_ret (pe_lst (pa_cons pe_int (pa_cons (pe_ix ix_num (pv 0) pe_int (fun _ _ => rfl)) (pa_cons (pe_ix ix_den (pv 0) pe_int (fun _ _ => rfl)) pa_nil))))), ?_⟩
    exact ⟨_, rfl, g, rfl, fx, _, rfl, g, rfl, fx, small12 (by show 3 ≤ 1000; decide), fun p hp => hq p _ (Same.new hp) hp upd_same⟩
end
end Rg
set_option Elab.async false
set_option linter.all false
set_option maxRecDepth 100000
set_option maxHeartbeats 4000000
set_option exponentiation.threshold 10000
namespace Rg
open PySem PySem.Spec PyProof.Rows L2
open SrFraction (Fraction ofInt)
/-! ### the object -/
def pF (m : Sr119.Process) (l : Addr) : List (Str × V) :=
  [("regrind", .int m.regrind), ("parts", .int m.parts), ("kept", .int m.kept), ("kept_of", .int m.keptOf), ("shots", .int m.shots), ("ages", .ref l)]
theorem lkH {k : Str} {v : V} {r : List (Str × V)} : ((k, v) :: r).lookup k = some v := by
  unfold List.lookup
  rw [beq_self_eq_true]
theorem lkP {k g : Str} {v : V} {r : List (Str × V)} (h : (k == g) = false) : ((g, v) :: r).lookup k = r.lookup k := by
  rw [List.lookup_cons, h]
theorem ptH {f : Str} {v x : V} {r : List (Str × V)} : putF f v ((f, x) :: r) = (f, v) :: r := by
  unfold putF
  rw [if_pos rfl]
theorem ptP {f g : Str} {v x : V} {r : List (Str × V)} (h : ¬ g = f) : putF f v ((g, x) :: r) = (g, x) :: putF f v r := by
  rw [putF, if_neg h]
section
variable {m : Sr119.Process} {l l' : Addr}
theorem lk_regrind : (pF m l).lookup ("regrind" : Str) = some (V.int m.regrind) := lkH
theorem lk_parts : (pF m l).lookup ("parts" : Str) = some (V.int m.parts) := (lkP (by decide +kernel)).trans lkH
theorem lk_kept : (pF m l).lookup ("kept" : Str) = some (V.int m.kept) := (lkP (by decide +kernel)).trans ((lkP (by decide +kernel)).trans lkH)
theorem lk_keptOf : (pF m l).lookup ("kept_of" : Str) = some (V.int m.keptOf) := (lkP (by decide +kernel)).trans ((lkP (by decide +kernel)).trans ((lkP (by decide +kernel)).trans lkH))
theorem lk_shots : (pF m l).lookup ("shots" : Str) = some (V.int m.shots) := (lkP (by decide +kernel)).trans ((lkP (by decide +kernel)).trans ((lkP (by decide +kernel)).trans ((lkP (by decide +kernel)).trans lkH)))
theorem lk_ages : (pF m l).lookup ("ages" : Str) = some (V.ref l) := (lkP (by decide +kernel)).trans ((lkP (by decide +kernel)).trans ((lkP (by decide +kernel)).trans ((lkP (by decide +kernel)).trans ((lkP (by decide +kernel)).trans lkH))))
/-- a method's name is none of the attributes -/
theorem lk_no {x : Str} (h : (["regrind", "parts", "kept", "kept_of", "shots", "ages"] : List Str).all (fun y => !(x == y)) = true) : (pF m l).lookup x = none := by
  simp only [List.all_cons, List.all_nil, Bool.and_eq_true, Bool.not_eq_true', and_true] at h
  obtain ⟨h1, h2, h3, h4, h5, h6⟩ := h
  exact (lkP h1).trans ((lkP h2).trans ((lkP h3).trans ((lkP h4).trans ((lkP h5).trans ((lkP h6).trans rfl)))))
theorem pt_regrind {n : Nat} : putF ("regrind" : Str) (V.int n) (pF m l) = pF { m with regrind := n } l := ptH
theorem pt_kept {n : Nat} : putF ("kept" : Str) (V.int n) (pF m l) = pF { m with kept := n } l := (ptP (by decide +kernel)).trans (congrArg _ ((ptP (by decide +kernel)).trans (congrArg _ ptH)))
theorem pt_keptOf {n : Nat} : putF ("kept_of" : Str) (V.int n) (pF m l) = pF { m with keptOf := n } l :=
  (ptP (by decide +kernel)).trans (congrArg _ ((ptP (by decide +kernel)).trans (congrArg _ ((ptP (by decide +kernel)).trans (congrArg _ ptH)))))
theorem pt_shots {n : Nat} : putF ("shots" : Str) (V.int n) (pF m l) = pF { m with shots := n } l :=
  (ptP (by decide +kernel)).trans (congrArg _ ((ptP (by decide +kernel)).trans (congrArg _ ((ptP (by decide +kernel)).trans (congrArg _ ((ptP (by decide +kernel)).trans (congrArg _ ptH)))))))
theorem pt_ages {fs : List Fraction} : putF ("ages" : Str) (V.ref l') (pF m l) = pF { m with ages := fs } l' :=
  (ptP (by decide +kernel)).trans (congrArg _ ((ptP (by decide +kernel)).trans (congrArg _ ((ptP (by decide +kernel)).trans (congrArg _ ((ptP (by decide +kernel)).trans (congrArg _ ((ptP (by decide +kernel)).trans (congrArg _ ptH)))))))))
end
theorem pt_nil {f : Str} {v : V} : putF f v [] = [(f, v)] := rfl
theorem pt_new {r p k q : Nat} {l : Addr} : putF ("ages" : Str) (V.ref l) (putF ("shots" : Str) (V.int (0 : Nat)) (putF ("kept_of" : Str) (V.int q) (putF ("kept" : Str) (V.int k) (putF ("parts" : Str) (V.int p) (putF ("regrind" : Str) (V.int r) []))))) = pF ⟨r, p, k, q, 0, []⟩ l := by
  have d : ∀ {a b : Str}, (a == b) = false → ¬ a = b := fun h e => by
    rw [e, beq_self_eq_true] at h
    cases h
  repeat first
    | rw [pt_nil]
    | rw [ptP (d (by decide +kernel))]
  rfl
def InsAt (C : Addr) (H : Hp) (a l : Addr) (m : Sr119.Process) : Prop := ∃ dx, H a = some (.ins C dx (pF m l))
/-- a process stands at a, the list of its ages at l -/
def PAt (C : Addr) (H : Hp) (a l : Addr) (m : Sr119.Process) : Prop := InsAt C H a l m ∧ Lst H l m.ages
theorem PAt.same {C : Addr} {H H' : Hp} {a l : Addr} {m : Sr119.Process} (h : PAt C H a l m) (s : Same H H') : PAt C H' a l m := by
  obtain ⟨⟨dx, h1⟩, h2⟩ := h
  exact ⟨⟨dx, s _ _ h1⟩, h2.same s⟩
/-- all but a is as it was -/
def But (a : Addr) (H H' : Hp) : Prop := ∀ b o, H b = some o → b ≠ a → H' b = some o
theorem But.of {a : Addr} {H H' : Hp} (s : Same H H') : But a H H' := fun b o e _ => s b o e
theorem But.same {a : Addr} {H H1 H2 : Hp} (x : But a H H1) (s : Same H1 H2) : But a H H2 := fun b o e n => s b o (x b o e n)
theorem But.trans {a : Addr} {H H1 H2 : Hp} (x : But a H H1) (y : But a H1 H2) : But a H H2 := fun b o e n => y b o (x b o e n) n
theorem But.put {a : Addr} {H H1 : Hp} {o : HO} (x : But a H H1) : But a H (upd H1 a o) := fun b u e n => by
  rw [upd_ne n]
  exact x b u e n
theorem But.free {a c : Addr} {H H' : Hp} (x : But a H H') (n : c ≠ a) (h : H' c = none) : H c = none := by
  cases q : H c with
  | none => rfl
  | some o =>
    rw [x c o q n] at h
    cases h
theorem Lst.but {a l C dx : Addr} {fs : List (Str × V)} {H H' : Hp} {gs : List Fraction} (h : Lst H l gs) (ha : H a = some (.ins C dx fs)) (x : But a H H') : Lst H' l gs := by
  obtain ⟨vs, h1, h2⟩ := h
  refine ⟨vs, x _ _ h1 (ne_of h1 ha (by intro z; cases z)), h2.1, fun i v f p q => ?_⟩
  obtain ⟨t, e, h3⟩ := h2.2 i v f p q
  exact ⟨t, e, x _ _ h3 (ne_of h3 ha (by intro z; cases z))⟩
/-- what the top has written of the class -/
structure Txt (K : PySem.W.Frag) (mg : Str → Option Value) (C : Addr) : Prop where
  cl : Cls K C
  nR : NoAttr K C "regrind"
  nP : NoAttr K C "parts"
  nK : NoAttr K C "kept"
  nO : NoAttr K C "kept_of"
  nS : NoAttr K C "shots"
  nA : NoAttr K C "ages"
/-- a method, as its callers know it -/
def MDef (P : Program) (w : World) (K : PySem.W.Frag) (mg : Str → Option Value) (base : Heap) (C : Addr) (x : Str) (ps : List Str) (k : Nat) (sp : Sp) : Prop :=
  ∃ f fd, Meth K C x f ∧ Binds K fd ps [] ∧ FnOk P w K mg base CX0 k f fd ps sp
section
variable {P : Program} {w : World} {K : PySem.W.Frag} {mg : Str → Option Value} {base : Heap} {f : Addr} {fd : FuncData} {C : Addr}
/-! ### attributes read and stored, methods called, through a name that holds a process -/
def tGet (C : Addr) (i : Nat) (p : Sr119.Process → Addr → V) : TE := fun σ H Q => ∃ (a l : Addr) (m : Sr119.Process), σ[i]? = some (some (.ref a)) ∧ InsAt C H a l m ∧ Q (p m l) H
def tPut (C : Addr) (i : Nat) (tv : TE) (y : Str) : TS := fun D σ H => tv σ H fun v H1 => ∃ (a l l' : Addr) (m m' : Sr119.Process), σ[i]? = some (some (.ref a)) ∧ InsAt C H1 a l m ∧ putF y v (pF m l) = pF m' l' ∧
  ∀ H', InsAt C H' a l' m' → But a H1 H' → (∀ b, b ≠ a → H' b = H1 b) → D.nx σ H'
def tMe (C : Addr) (i : Nat) (sp : Sp) (t : TA) : TE := fun σ H Q => ∃ (a l : Addr) (m : Sr119.Process), σ[i]? = some (some (.ref a)) ∧ InsAt C H a l m ∧ t σ H fun vs H2 => sp (.ref a :: (vs ++ [])) H2 Q E0
theorem pe_imp {X : Cx} {e : Expr} {t t' : TE} (h : PE X e t) (i : ∀ σ H Q, t' σ H Q → t σ H Q) : PE X e t' := ⟨fun pins s σ H Q I q => h.run pins s σ H Q I (i σ H Q q)⟩
section
variable {X : Cx} {mg' : Str → Option Value} {i : Nat} {e : Expr} {pos : Pos}
theorem pgF {y : Str} {p : Sr119.Process → Addr → V} (cl : Cls X.K C) (n : NoAttr X.K C y) (h : PE X e (tVar i)) (hl : ∀ m l, (pF m l).lookup y = some (p m l)) (hb : attributeBase e y X.env (eval e X.env) = eval e X.env) : PE X (.Attribute e y pos) (tGet C i p) :=
  pe_imp (pe_fld h hb) fun σ H Q ⟨a, l, m, hs, ⟨dx, h1⟩, q⟩ => ⟨_, hs, a, C, dx, _, _, rfl, h1, cl, n, hl m l, q⟩
theorem pg_regrind (T : Txt X.K mg' C) (h : PE X e (tVar i)) (hb : attributeBase e "regrind" X.env (eval e X.env) = eval e X.env := by rfl) : PE X (.Attribute e "regrind" pos) (tGet C i fun m _ => .int m.regrind) := pgF T.cl T.nR h (fun _ _ => lk_regrind) hb
theorem pg_parts (T : Txt X.K mg' C) (h : PE X e (tVar i)) (hb : attributeBase e "parts" X.env (eval e X.env) = eval e X.env := by rfl) : PE X (.Attribute e "parts" pos) (tGet C i fun m _ => .int m.parts) := pgF T.cl T.nP h (fun _ _ => lk_parts) hb
theorem pg_kept (T : Txt X.K mg' C) (h : PE X e (tVar i)) (hb : attributeBase e "kept" X.env (eval e X.env) = eval e X.env := by rfl) : PE X (.Attribute e "kept" pos) (tGet C i fun m _ => .int m.kept) := pgF T.cl T.nK h (fun _ _ => lk_kept) hb
theorem pg_keptOf (T : Txt X.K mg' C) (h : PE X e (tVar i)) (hb : attributeBase e "kept_of" X.env (eval e X.env) = eval e X.env := by rfl) : PE X (.Attribute e "kept_of" pos) (tGet C i fun m _ => .int m.keptOf) := pgF T.cl T.nO h (fun _ _ => lk_keptOf) hb
theorem pg_shots (T : Txt X.K mg' C) (h : PE X e (tVar i)) (hb : attributeBase e "shots" X.env (eval e X.env) = eval e X.env := by rfl) : PE X (.Attribute e "shots" pos) (tGet C i fun m _ => .int m.shots) := pgF T.cl T.nS h (fun _ _ => lk_shots) hb
theorem pg_ages (T : Txt X.K mg' C) (h : PE X e (tVar i)) (hb : attributeBase e "ages" X.env (eval e X.env) = eval e X.env := by rfl) : PE X (.Attribute e "ages" pos) (tGet C i fun _ l => .ref l) := pgF T.cl T.nA h (fun _ _ => lk_ages) hb
theorem pe_mono {t : TE} (h : PE X e t) : PE X e (fun σ H Q => ∃ R : VK, t σ H R ∧ ∀ v H1, R v H1 → Q v H1) := by
  refine ⟨fun pins s σ H Q I ⟨R, q, i⟩ => thn (h.run pins s σ H R I q) fun u s1 z => ?_⟩
  obtain ⟨v, H1, I1, r, q1⟩ := z
  exact ⟨v, H1, I1, r, i v H1 q1⟩
theorem psS {y : Str} {v : Expr} {pos' : Pos} {tv : TE} (cl : Cls X.K C) (n : NoAttr X.K C y) (ha : PE X e (tVar i)) (hv : PE X v tv) (hs : swapsWith v (some (.Attribute e y pos')) pos.line X.env = pure false := by rfl) :
    PS X (.Assign [.Attribute e y pos'] v pos) (tPut C i tv y) := by
  refine ⟨fun pins s σ H D I q => (ps_fld ha (pe_mono hv) hs).run pins s σ H D I ⟨_, q, fun u H1 z => ?_⟩⟩
  obtain ⟨a, l, l', m, m', h1, ⟨dx, h2⟩, h3, k⟩ := z
  refine ⟨_, h1, a, C, dx, _, rfl, h2, cl, n, (by show 6 < 1000; decide), ?_⟩
  rw [h3]
  exact k _ ⟨dx, upd_same⟩ (fun b o e n => by rw [upd_ne n]; exact e) fun b n => upd_ne n
theorem pmE {y : Str} {g : Addr} {gd : FuncData} {ps : List Str} {k : Nat} {sp : Sp} {t : TA} {es : List Expr} {e1 : Expr} {apos : Pos} {pl : Sem Bool} (T : Txt X.K mg' C) (h : PE X e (tVar i)) (hy : (["regrind", "parts", "kept", "kept_of", "shots", "ages"] : List Str).all (fun z => !(y == z)) = true)
    (hm : Meth X.K C y g) (G : FnOk X.prog X.w X.K X.mg X.base CX0 k g gd ps sp) (hr : Room k X.A) (hb : Binds X.K gd ps []) (ha : PA X (e1 :: es) t)
    (hst : starEach (e1 :: es) X.env = (false, eval e1 X.env) :: starEach es X.env := by rfl) (hpl : (backTo pos (starEach es X.env)).any (·.1) = false := by rfl)
    (ht : eval (.Call (.Attribute e y apos) (e1 :: es) [] pos) X.env = (do
      let ov ← eval e X.env
      standAt apos.atName
      let (f, first) ← holding [ov] (getMethod ov y pl)
      callWith pos f first (backTo pos (starEach (e1 :: es) X.env)) (backToKw pos (keywordEach [] X.env))) := by rfl) : PE X (.Call (.Attribute e y apos) (e1 :: es) [] pos) (tMe C i sp t) :=
  pe_imp (pe_meth h T.cl hm G hr hb .nil pass0 ha hst hpl ht) fun σ H Q ⟨a, l, m, h1, ⟨dx, h2⟩, q⟩ => ⟨_, h1, a, dx, _, rfl, h2, lk_no hy, q⟩
theorem pm0 {y : Str} {g : Addr} {gd : FuncData} {ps : List Str} {k : Nat} {sp : Sp} {apos : Pos} {pl : Sem Bool} (T : Txt X.K mg' C) (h : PE X e (tVar i)) (hy : (["regrind", "parts", "kept", "kept_of", "shots", "ages"] : List Str).all (fun z => !(y == z)) = true)
    (hm : Meth X.K C y g) (G : FnOk X.prog X.w X.K X.mg X.base CX0 k g gd ps sp) (hr : Room k X.A) (hb : Binds X.K gd ps [])
    (ht : eval (.Call (.Attribute e y apos) [] [] pos) X.env = (do
      let ov ← eval e X.env
      standAt apos.atName
      let (f, first) ← holding [ov] (getMethod ov y pl)
      callWith pos f first (backTo pos (starEach [] X.env)) (backToKw pos (keywordEach [] X.env))) := by rfl) : PE X (.Call (.Attribute e y apos) [] [] pos) (tMe C i sp tNil) :=
  pe_imp (pe_meth0 h T.cl hm G hr hb .nil pass0 ht) fun σ H Q ⟨a, l, m, h1, ⟨dx, h2⟩, q⟩ => ⟨_, h1, a, dx, _, rfl, h2, lk_no hy, q⟩
end
/-! ### promises of the methods -/
def spInit (C : Addr) : Sp := fun vs H Q _ => ∃ (a dx : Addr) (r p k q : Nat), vs = [.ref a, .int r, .int p, .int k, .int q] ∧ H a = some (.ins C dx []) ∧
  ∀ (H' : Hp) (l : Addr), But a H H' → PAt C H' a l ⟨r, p, k, q, 0, []⟩ → l ≠ a → H l = none → Q .non H'
/-- a query that answers out -/
def Told (H : Hp) (out : List Int) (Q : VK) : Prop := ∀ (p : Addr) (H' : Hp), Same H H' → H p = none → H' p = some (.lst (zsV out)) → Q (.ref p) H'
def spQ0 (C : Addr) (c : Sr119.Call) : Sp := fun vs H Q _ => ∃ (a l : Addr) (m : Sr119.Process), vs = [.ref a] ∧ PAt C H a l m ∧ Good m ∧ Told H (outOf m c) Q
abbrev I32 (k : Int) : Prop := -2147483648 ≤ k ∧ k ≤ 2147483647
def spQ1 (C : Addr) (c : Int → Sr119.Call) : Sp := fun vs H Q _ => ∃ (a l : Addr) (m : Sr119.Process) (k : Int), vs = [.ref a, .int k] ∧ I32 k ∧ PAt C H a l m ∧ Good m ∧ Told H (outOf m (c k)) Q
def spQ2 (C : Addr) (c : Int → Int → Sr119.Call) : Sp := fun vs H Q _ => ∃ (a l : Addr) (m : Sr119.Process) (k n : Int), vs = [.ref a, .int k, .int n] ∧ I32 k ∧ I32 n ∧ PAt C H a l m ∧ Good m ∧ Told H (outOf m (c k n)) Q
/-- a change: m' stands behind it, out is answered; N: where the ages may stand -/
def Done (C : Addr) (H : Hp) (a : Addr) (m' : Sr119.Process) (out : List Int) (N : Addr → Prop) (Q : VK) : Prop :=
  ∀ (p l' : Addr) (H' : Hp), But a H H' → PAt C H' a l' m' → N l' → H p = none → H' p = some (.lst (zsV out)) → Q (.ref p) H'
abbrev OldNew (H : Hp) (l l' : Addr) : Prop := l' = l ∨ H l' = none
def spM0 (C : Addr) (c : Sr119.Call) : Sp := fun vs H Q _ => ∃ (a l : Addr) (m : Sr119.Process), vs = [.ref a] ∧ PAt C H a l m ∧ Good m ∧ Done C H a (newOf m c) (outOf m c) (OldNew H l) Q
def spM1 (C : Addr) (c : Int → Sr119.Call) : Sp := fun vs H Q _ => ∃ (a l : Addr) (m : Sr119.Process) (k : Int), vs = [.ref a, .int k] ∧ PAt C H a l m ∧ Good m ∧ Done C H a (newOf m (c k)) (outOf m (c k)) (OldNew H l) Q
def spM2 (C : Addr) (c : Int → Int → Sr119.Call) : Sp := fun vs H Q _ => ∃ (a l : Addr) (m : Sr119.Process) (k n : Int), vs = [.ref a, .int k, .int n] ∧ PAt C H a l m ∧ Good m ∧ Done C H a (newOf m (c k n)) (outOf m (c k n)) (OldNew H l) Q
/-- add_shot: a list of ages at q -/
def spAdd (C : Addr) : Sp := fun vs H Q _ => ∃ (a l q : Addr) (m : Sr119.Process) (fs : List Fraction), vs = [.ref a, .ref q] ∧ PAt C H a l m ∧ Good m ∧ Lst H q fs ∧ fs ≠ [] ∧ Sized (m.shots + 1) fs ∧
  (12 ≤ m.shots → Told H [-28] Q) ∧ (¬ 12 ≤ m.shots → Done C H a (shotM m fs) (shotOut m fs) (fun l' => l' = q) Q)
def spNow (C : Addr) : Sp := fun vs H Q _ => ∃ (a l : Addr) (m : Sr119.Process), vs = [.ref a] ∧ PAt C H a l m ∧ Good m ∧ ∀ v H', Same H H' → Fr H' v (strM m m.ages) → Q v H'
def spLw (C : Addr) : Sp := fun vs H Q _ => ∃ (a l : Addr) (m : Sr119.Process) (r : Nat), vs = [.ref a, .int r] ∧ PAt C H a l m ∧ Good m ∧ r < m.parts ∧ ∀ v H', Same H H' → Fr H' v (limOf m.parts m.kept m.keptOf r) → Q v H'
def spFs (C : Addr) : Sp := fun vs H Q _ => ∃ (a l : Addr) (m : Sr119.Process) (r n : Nat), vs = [.ref a, .int r, .int n] ∧ PAt C H a l m ∧ Good m ∧ r < m.parts ∧ n ≤ 12 ∧ ∀ v H', Same H H' → Fr H' v (strM m (agesN r m.parts n)) → Q v H'
/-- one number answered, a new list -/
theorem Told.new {H H1 : Hp} {out : List Int} {Q : VK} (t : Told H out Q) (s : Same H H1) : Told H1 out Q := fun p H' s' n e => t p H' (s.trans s') (s.free n) e
theorem Told.put {H : Hp} {out : List Int} {Q : VK} (t : Told H out Q) (p : Addr) (n : H p = none) : Q (.ref p) (upd H p (.lst (zsV out))) := t p _ (Same.new n) n upd_same
/-! ### __init__ -/
abbrev sM (j : Nat) : Stmt := inClass (top 29) j
abbrev sInit : Stmt := sM 0
theorem scInit : FnScope ["self", "regrind", "parts", "kept", "kept_of"] ["self", "regrind", "parts", "kept", "kept_of"] (defScope sInit) := ⟨rfl, rfl, rfl, by decide +kernel, rfl, by decide +kernel, by decide +kernel⟩
theorem ok_init (F : Fun K "__init__" "Process.__init__" sInit f fd) (T : Txt K mg C) : FnOk P w K mg base CX0 1 f fd ["self", "regrind", "parts", "kept", "kept_of"] (spInit C) := by
  refine F.ok scInit (fun vs H Q E h => ?_) (fun cdv A outer s H vs Q E hr h => ?_)
  · obtain ⟨_, _, _, _, _, _, rfl, _⟩ := h
    rfl
  · obtain ⟨a, dx, r, p, k, q, rfl, ha, hq⟩ := h
    refine ⟨_, pss_cons (ps_fld (pv 0) (pv 1) rfl) (pss_cons (ps_fld (pv 0) (pv 2) rfl) (pss_cons (ps_fld (pv 0) (pv 3) rfl) (pss_cons (ps_fld (pv 0) (pv 4) rfl)
      (pss_cons (ps_fld (pv 0) pe_int rfl) (pss_one (ps_fld (pv 0) (pe_lst pa_nil) rfl)))))), ?_⟩
    refine ⟨_, rfl, _, rfl, a, C, dx, _, rfl, ha, T.cl, T.nR, (by show 0 < 1000; decide), ?_⟩
    refine ⟨_, rfl, _, rfl, a, C, dx, _, rfl, upd_same, T.cl, T.nP, (by show 1 < 1000; decide), ?_⟩
    refine ⟨_, rfl, _, rfl, a, C, dx, _, rfl, upd_same, T.cl, T.nK, (by show 2 < 1000; decide), ?_⟩
    refine ⟨_, rfl, _, rfl, a, C, dx, _, rfl, upd_same, T.cl, T.nO, (by show 3 < 1000; decide), ?_⟩
    refine ⟨_, rfl, a, C, dx, _, rfl, upd_same, T.cl, T.nS, (by show 4 < 1000; decide), ?_⟩
    refine ⟨Nat.zero_le _, fun l hl => ?_⟩
    rw [upd_upd, upd_upd, upd_upd, upd_upd] at hl ⊢
    have nl : l ≠ a := fun z => by
      rw [z, upd_same] at hl
      cases hl
    refine ⟨_, rfl, a, C, dx, _, rfl, (upd_ne nl.symm).trans upd_same, T.cl, T.nA, (by show 5 < 1000; decide), ?_⟩
    refine hq _ l (fun b o e n => ?_) ⟨⟨dx, ?_⟩, [], ?_, Frs.nil⟩ nl ?_
    · rw [upd_ne n, upd_ne (ne_of_none ((upd_ne n).trans e) hl), upd_ne n]
      exact e
    · rw [upd_same]
      exact congrArg (fun z => some (HO.ins C dx z)) pt_new
    · rw [upd_ne nl, upd_same]
    · rw [upd_ne nl] at hl
      exact hl
end
end Rg
set_option Elab.async false
set_option linter.all false
set_option maxRecDepth 100000
set_option maxHeartbeats 4000000
set_option exponentiation.threshold 10000
namespace Rg
open PySem PySem.Spec PyProof.Rows L2
open SrFraction (Fraction ofInt)
section
variable {P : Program} {w : World} {K : PySem.W.Frag} {mg : Str → Option Value} {base : Heap} {f : Addr} {fd : FuncData} {C : Addr}
/-! ### strength_now, limit_with, strength_from_start -/
abbrev sNow : Stmt := sM 10
theorem scNow : FnScope ["self"] ["self"] (defScope sNow) := ⟨rfl, rfl, rfl, by decide +kernel, rfl, by decide +kernel, by decide +kernel⟩
theorem ok_now (F : Fun K "strength_now" "Process.strength_now" sNow f fd) (T : Txt K mg C) (S : Def P w K mg base "strength_of" ["ages", "kept", "kept_of"] 4 spStrength) : FnOk P w K mg base CX0 5 f fd ["self"] (spNow C) := by
  obtain ⟨fS, dS, mS, kS, bS, GS⟩ := S
  refine F.ok scNow (fun vs H Q E h => ?_) (fun cdv A outer s H vs Q E hr h => ?_)
  · obtain ⟨_, _, _, rfl, _⟩ := h
    rfl
  · obtain ⟨a, l, m, rfl, hP, g, hq⟩ := h
    refine ⟨_, pss_one (ps_ret (pe_call GS hr rfl mS kS bS .nil pass0 (pa_cons (pg_ages T (pv 0)) (pa_cons (pg_kept T (pv 0)) (pa_cons (pg_keptOf T (pv 0)) pa_nil))))), ?_⟩
    refine ⟨a, _, _, rfl, hP.1, ?_⟩
    refine ⟨a, _, _, rfl, hP.1, ?_⟩
    refine ⟨a, _, _, rfl, hP.1, ?_⟩
    exact ⟨l, m.ages, m.shots, m.kept, m.keptOf, rfl, hP.2, g.sz, g.s12, by have := g.k0; have := g.k1; omega, g.k2, g.k1, hq⟩
abbrev sLw : Stmt := sM 11
theorem scLw : FnScope ["self", "regrind"] ["self", "regrind"] (defScope sLw) := ⟨rfl, rfl, rfl, by decide +kernel, rfl, by decide +kernel, by decide +kernel⟩
theorem ok_lw (F : Fun K "limit_with" "Process.limit_with" sLw f fd) (T : Txt K mg C) (S : Def P w K mg base "strength_limit_of" ["regrind", "parts", "kept", "kept_of"] 3 spLimit) : FnOk P w K mg base CX0 4 f fd ["self", "regrind"] (spLw C) := by
  obtain ⟨fS, dS, mS, kS, bS, GS⟩ := S
  refine F.ok scLw (fun vs H Q E h => ?_) (fun cdv A outer s H vs Q E hr h => ?_)
  · obtain ⟨_, _, _, _, rfl, _⟩ := h
    rfl
  · obtain ⟨a, l, m, r, rfl, hP, g, hrp, hq⟩ := h
    refine ⟨_, pss_one (ps_ret (pe_call GS hr rfl mS kS bS .nil pass0 (pa_cons (pv 1) (pa_cons (pg_parts T (pv 0)) (pa_cons (pg_kept T (pv 0)) (pa_cons (pg_keptOf T (pv 0)) pa_nil)))))), ?_⟩
    refine ⟨_, rfl, ?_⟩
    refine ⟨a, _, _, rfl, hP.1, ?_⟩
    refine ⟨a, _, _, rfl, hP.1, ?_⟩
    refine ⟨a, _, _, rfl, hP.1, ?_⟩
    exact ⟨r, m.parts, m.kept, m.keptOf, rfl, hrp, g.p1, by have := g.k0; have := g.k1; omega, g.k1, g.k2, hq⟩
abbrev sFs : Stmt := sM 12
theorem scFs : FnScope ["self", "regrind", "n"] ["self", "regrind", "n"] (defScope sFs) := ⟨rfl, rfl, rfl, by decide +kernel, rfl, by decide +kernel, by decide +kernel⟩
theorem ok_fs (F : Fun K "strength_from_start" "Process.strength_from_start" sFs f fd) (T : Txt K mg C) (S : Def P w K mg base "strength_of" ["ages", "kept", "kept_of"] 4 spStrength) (A' : Def P w K mg base "ages_after" ["n", "regrind", "parts"] 5 spAfter) :
    FnOk P w K mg base CX0 6 f fd ["self", "regrind", "n"] (spFs C) := by
  obtain ⟨fS, dS, mS, kS, bS, GS⟩ := S
  obtain ⟨fA, dA, mA, kA, bA, GA⟩ := A'
  refine F.ok scFs (fun vs H Q E h => ?_) (fun cdv A outer s H vs Q E hr h => ?_)
  · obtain ⟨_, _, _, _, _, rfl, _⟩ := h
    rfl
  · obtain ⟨a, l, m, r, n, rfl, hP, g, hrp, hn, hq⟩ := h
    refine ⟨_, pss_one (ps_ret (pe_call GS (hr.mono (by decide)) rfl mS kS bS .nil pass0 (pa_cons (pe_call GA hr rfl mA kA bA .nil pass0 (pa_cons (pv 2) (pa_cons (pv 1) (pa_cons (pg_parts T (pv 0)) pa_nil))))
      (pa_cons (pg_kept T (pv 0)) (pa_cons (pg_keptOf T (pv 0)) pa_nil))))), ?_⟩
    refine ⟨_, rfl, _, rfl, ?_⟩
    refine ⟨a, _, _, rfl, hP.1, ?_⟩
    refine ⟨n, r, m.parts, rfl, hn, g.p0, g.p1, hrp, fun q H1 s1 hL => ?_⟩
    have hP1 := hP.same s1
    refine ⟨a, _, _, rfl, hP1.1, ?_⟩
    refine ⟨a, _, _, rfl, hP1.1, ?_⟩
    exact ⟨q, _, n, m.kept, m.keptOf, rfl, hL, Sized.ofN g.p0 g.p1 hrp n, hn, by have := g.k0; have := g.k1; omega, g.k2, g.k1, fun v H2 s2 fv => hq v H2 (s1.trans s2) fv⟩
/-! ### the shots -/
abbrev sAdd : Stmt := sM 3
theorem scAdd : FnScope ["self", "ages", "strength"] ["self", "ages"] (defScope sAdd) := ⟨rfl, rfl, rfl, by decide +kernel, rfl, by decide +kernel, by decide +kernel⟩
theorem ok_add {t1 t2 : Tok} (F : Fun K "add_shot" "Process.add_shot" sAdd f fd) (T : Txt K mg C) (gM : mg "MOST_SHOTS" = some (.int 12 t1)) (gN : mg "NO_SHOT_LEFT" = some (.int (-28) t2)) (N : MDef P w K mg base C "strength_now" ["self"] 5 (spNow C)) :
    FnOk P w K mg base CX0 6 f fd ["self", "ages"] (spAdd C) := by
  obtain ⟨fN, dN, mN, bN, GN⟩ := N
  refine F.ok scAdd (fun vs H Q E h => ?_) (fun cdv A outer s H vs Q E hr h => ?_)
  · obtain ⟨_, _, _, _, _, rfl, _⟩ := h
    rfl
  · obtain ⟨a, l, q, m, fs, rfl, hP, g, hL, ne, hz, q1, q2⟩ := h
    refine ⟨_, pss_cons (ps_if (pt_cmpR op_eqB (pg_shots T (pv 0)) (pe_glob rfl gM (v := .int 12) ⟨_, rfl⟩) (nomark _)) (pss_one (ps_ret (pe_lst (pa_cons (pe_glob rfl gN (v := .int (-28)) ⟨_, rfl⟩) pa_nil)))) pss_nil)
      (pss_cons (psS T.cl T.nA (pv 0) (pv 1))
      (pss_cons (psS T.cl T.nS (pv 0) (pe_op op_addZ (pg_shots T (pv 0)) pe_int))
      (pss_cons (ps_set (i := 2) scAdd.nd rfl (.inl rfl) (pm0 T (pv 0) (by decide +kernel) mN GN hr bN))
      (pss_one (ps_ret (pe_lst (pa_cons (pg_shots T (pv 0)) (pa_cons (pe_ix ix_num (pv 2) pe_int (fun _ _ => rfl)) (pa_cons (pe_ix ix_den (pv 2) pe_int (fun _ _ => rfl)) pa_nil))))))))), ?_⟩
    refine ⟨a, _, _, rfl, hP.1, ?_⟩
    by_cases h : m.shots = 12
    · refine ⟨_, _, true, rfl, rfl, ⟨fun _ => by omega, fun _ => rfl⟩, _, rfl, iteT ⟨small12 (by show 1 ≤ 1000; decide), fun p hp => ?_⟩⟩
      exact (q1 (by omega)).put p hp
    · have hs := g.s12
      refine ⟨_, _, false, rfl, rfl, ⟨fun z => Bool.noConfusion z, fun z => absurd z (by omega)⟩, _, rfl, iteF ?_⟩
      refine ⟨_, rfl, ?_⟩
      refine ⟨a, l, q, m, _, rfl, hP.1, pt_ages (fs := fs), fun H1 i1 b1 e1 => ?_⟩
      refine ⟨a, _, _, rfl, i1, ?_⟩
      refine ⟨_, _, ((m.shots + 1 : Nat) : Int), rfl, rfl, trivial, rfl, ?_⟩
      refine ⟨a, q, q, _, _, rfl, i1, pt_shots, fun H2 i2 b2 e2 => ?_⟩
      have b3 := b1.trans b2
      have hL2 : Lst H2 q fs := by
        obtain ⟨⟨dx, h1⟩, _⟩ := hP
        exact hL.but h1 b3
      have hP2 : PAt C H2 a q (shotM m fs) := ⟨i2, hL2⟩
      have g2 : Good (shotM m fs) := g.shot (by omega) ne hz
      refine ⟨a, _, _, rfl, hP2.1, ?_⟩
      refine ⟨a, q, shotM m fs, rfl, hP2, g2, fun v H3 s3 fv => ?_⟩
      have hP3 := hP2.same s3
      refine ⟨a, _, _, rfl, hP3.1, ?_⟩
      refine ⟨_, rfl, _, rfl, fv, _, rfl, _, rfl, fv, small12 (by show 3 ≤ 1000; decide), fun p hp => ?_⟩
      have b4 := b3.same s3
      refine q2 (by omega) p q _ (b4.same (Same.new hp)) (hP3.same (Same.new hp)) rfl (b4.free (fun z => ?_) hp) upd_same
      obtain ⟨⟨dx, h3⟩, _⟩ := hP3
      rw [z, h3] at hp
      cases hp
abbrev sMs : Stmt := sM 1
theorem scMs : FnScope ["self"] ["self"] (defScope sMs) := ⟨rfl, rfl, rfl, by decide +kernel, rfl, by decide +kernel, by decide +kernel⟩
theorem ok_ms (F : Fun K "make_shot" "Process.make_shot" sMs f fd) (T : Txt K mg C) (N : Def P w K mg base "next_ages" ["ages", "regrind", "parts"] 4 spNext) (S : MDef P w K mg base C "add_shot" ["self", "ages"] 6 (spAdd C)) :
    FnOk P w K mg base CX0 7 f fd ["self"] (spM0 C .makeShot) := by
  obtain ⟨fN, dN, mN, kN, bN, GN⟩ := N
  obtain ⟨fS, dS, mS, bS, GS⟩ := S
  refine F.ok scMs (fun vs H Q E h => ?_) (fun cdv A outer s H vs Q E hr h => ?_)
  · obtain ⟨_, _, _, rfl, _⟩ := h
    rfl
  · obtain ⟨a, l, m, rfl, hP, g, hq⟩ := h
    refine ⟨_, pss_one (ps_ret (pmE T (pv 0) (by decide +kernel) mS GS hr bS (pa_cons (pe_call GN (hr.mono (by decide)) rfl mN kN bN .nil pass0 (pa_cons (pg_ages T (pv 0)) (pa_cons (pg_regrind T (pv 0)) (pa_cons (pg_parts T (pv 0)) pa_nil)))) pa_nil))), ?_⟩
    refine ⟨a, _, _, rfl, hP.1, ?_⟩
    refine ⟨a, _, _, rfl, hP.1, ?_⟩
    refine ⟨a, _, _, rfl, hP.1, ?_⟩
    refine ⟨a, _, _, rfl, hP.1, ?_⟩
    refine ⟨l, m.ages, m.shots, m.regrind, m.parts, rfl, hP.2, g.sz, g.s12, g.p0, g.p1, g.r0, fun q H1 s1 nq hL => ?_⟩
    refine ⟨a, l, q, m, nextM m, rfl, hP.same s1, g, hL, next_ne, g.nxt, fun h => ?_, fun h => ?_⟩
    · obtain ⟨e1, e2⟩ := ms_full h
      rw [e1, e2] at hq
      exact fun p H2 s2 np e => hq p l H2 (But.of (s1.trans s2)) (hP.same (s1.trans s2)) (.inl rfl) (s1.free np) e
    · obtain ⟨e1, e2⟩ := ms_ok h
      rw [e1, e2] at hq
      exact fun p l' H2 b2 hP2 hl np e => hq p l' H2 ((But.of s1).trans b2) hP2 (.inr (hl ▸ nq)) (s1.free np) e
abbrev sMv : Stmt := sM 2
theorem scMv : FnScope ["self"] ["self"] (defScope sMv) := ⟨rfl, rfl, rfl, by decide +kernel, rfl, by decide +kernel, by decide +kernel⟩
theorem ok_mv (F : Fun K "make_virgin_shot" "Process.make_virgin_shot" sMv f fd) (T : Txt K mg C) (R : Def P w K mg base "reduced" ["num", "den"] 2 spReduced) (S : MDef P w K mg base C "add_shot" ["self", "ages"] 6 (spAdd C)) :
    FnOk P w K mg base CX0 7 f fd ["self"] (spM0 C .makeVirginShot) := by
  obtain ⟨fR, dR, mR, kR, bR, GR⟩ := R
  obtain ⟨fS, dS, mS, bS, GS⟩ := S
  refine F.ok scMv (fun vs H Q E h => ?_) (fun cdv A outer s H vs Q E hr h => ?_)
  · obtain ⟨_, _, _, rfl, _⟩ := h
    rfl
  · obtain ⟨a, l, m, rfl, hP, g, hq⟩ := h
    refine ⟨_, pss_one (ps_ret (pmE T (pv 0) (by decide +kernel) mS GS hr bS (pa_cons (pe_lst (pa_cons (pe_call GR (hr.mono (by decide)) rfl mR kR bR .nil pass0 (pa_cons pe_int (pa_cons pe_int pa_nil))) pa_nil)) pa_nil))), ?_⟩
    refine ⟨a, _, _, rfl, hP.1, ?_⟩
    refine ⟨1, 1, rfl, by decide, lt8000 (by decide), fun v1 H1 s1 f1 => ⟨small12 (by show 1 ≤ 1000; decide), fun q nq => ?_⟩⟩
    rw [mk11] at f1
    have s2 : Same H (upd H1 q (.lst [v1])) := s1.trans (Same.new nq)
    refine ⟨a, l, q, m, [ofInt 1], rfl, hP.same s2, g, ⟨[v1], upd_same, (Frs.cons f1 Frs.nil).same (Same.new nq)⟩, by simp, Sized.one _, fun h => ?_, fun h => ?_⟩
    · obtain ⟨e1, e2⟩ := mv_full h
      rw [e1, e2] at hq
      exact fun p H2 s3 np e => hq p l H2 (But.of (s2.trans s3)) (hP.same (s2.trans s3)) (.inl rfl) (s2.free np) e
    · obtain ⟨e1, e2⟩ := mv_ok h
      rw [e1, e2] at hq
      exact fun p l' H2 b2 hP2 hl np e => hq p l' H2 ((But.of s2).trans b2) hP2 (.inr (hl ▸ s1.free nq)) (s2.free np) e
/-! ### the settings -/
abbrev sSr : Stmt := sM 4
theorem scSr : FnScope ["self", "regrind", "old_regrind"] ["self", "regrind"] (defScope sSr) := ⟨rfl, rfl, rfl, by decide +kernel, rfl, by decide +kernel, by decide +kernel⟩
theorem ok_sr {t : Tok} (F : Fun K "set_regrind" "Process.set_regrind" sSr f fd) (T : Txt K mg C) (gO : mg "OUT_OF_RANGE" = some (.int (-22) t)) (R : Def P w K mg base "regrind_allowed" ["regrind", "parts"] 1 (spBool2 regOk)) :
    FnOk P w K mg base CX0 2 f fd ["self", "regrind"] (spM1 C .setRegrind) := by
  obtain ⟨fR, dR, mR, kR, bR, GR⟩ := R
  refine F.ok scSr (fun vs H Q E h => ?_) (fun cdv A outer s H vs Q E hr h => ?_)
  · obtain ⟨_, _, _, _, rfl, _⟩ := h
    rfl
  · obtain ⟨a, l, m, r, rfl, hP, g, hq⟩ := h
    refine ⟨_, pss_cons (ps_if (pt_not (pt_val (pe_call GR hr rfl mR kR bR .nil pass0 (pa_cons (pv 1) (pa_cons (pg_parts T (pv 0)) pa_nil))))) (pss_one (ps_ret (pe_lst (pa_cons (pe_glob rfl gO (v := .int (-22)) ⟨_, rfl⟩) pa_nil)))) pss_nil)
      (pss_cons (ps_set (i := 2) scSr.nd rfl (.inl rfl) (pg_regrind T (pv 0)))
      (pss_cons (psS T.cl T.nR (pv 0) (pv 1))
      (pss_one (ps_ret (pe_lst (pa_cons (pv 2) pa_nil)))))), ?_⟩
    refine ⟨_, rfl, ?_⟩
    refine ⟨a, _, _, rfl, hP.1, ?_⟩
    refine ⟨_, _, rfl, _, rfl, ?_⟩
    cases h : regOk r m.parts with
    | false =>
      rw [(sr_no h).1, (sr_no h).2] at hq
      exact iteT ⟨small12 (by show 1 ≤ 1000; decide), fun p hp => hq p l _ (But.of (Same.new hp)) (hP.same (Same.new hp)) (.inl rfl) hp upd_same⟩
    | true =>
      rw [(sr_ok h).1, (sr_ok h).2] at hq
      have hr2 := reg_iff h
      refine iteF ?_
      refine ⟨a, _, _, rfl, hP.1, ?_⟩
      refine ⟨_, rfl, ?_⟩
      have er : V.int r = V.int (r.toNat : Int) := by rw [Int.toNat_of_nonneg hr2.1]
      refine ⟨a, l, l, _, { m with regrind := r.toNat }, rfl, hP.1, (by rw [er]; exact pt_regrind), fun H1 i1 b1 e1 => ?_⟩
      have hL1 : Lst H1 l m.ages := by
        obtain ⟨⟨dx, h1⟩, h2⟩ := hP
        exact h2.but h1 b1
      refine ⟨_, rfl, small12 (by show 1 ≤ 1000; decide), fun p hp => ?_⟩
      refine hq p l _ (b1.same (Same.new hp)) (PAt.same ⟨i1, hL1⟩ (Same.new hp)) (.inl rfl) (b1.free (fun z => ?_) hp) upd_same
      obtain ⟨dx, h3⟩ := i1
      rw [z, h3] at hp
      cases hp
abbrev sSt : Stmt := sM 5
theorem scSt : FnScope ["self", "kept", "kept_of", "answer"] ["self", "kept", "kept_of"] (defScope sSt) := ⟨rfl, rfl, rfl, by decide +kernel, rfl, by decide +kernel, by decide +kernel⟩
theorem ok_st {t : Tok} (F : Fun K "set_retention" "Process.set_retention" sSt f fd) (T : Txt K mg C) (gO : mg "OUT_OF_RANGE" = some (.int (-22) t)) (R : Def P w K mg base "retention_allowed" ["kept", "kept_of"] 1 (spBool2 Sr119.isRetention)) :
    FnOk P w K mg base CX0 2 f fd ["self", "kept", "kept_of"] (spM2 C .setRetention) := by
  obtain ⟨fR, dR, mR, kR, bR, GR⟩ := R
  refine F.ok scSt (fun vs H Q E h => ?_) (fun cdv A outer s H vs Q E hr h => ?_)
  · obtain ⟨_, _, _, _, _, rfl, _⟩ := h
    rfl
  · obtain ⟨a, l, m, k, n, rfl, hP, g, hq⟩ := h
    refine ⟨_, pss_cons (ps_if (pt_not (pt_val (pe_call GR hr rfl mR kR bR .nil pass0 (pa_cons (pv 1) (pa_cons (pv 2) pa_nil))))) (pss_one (ps_ret (pe_lst (pa_cons (pe_glob rfl gO (v := .int (-22)) ⟨_, rfl⟩) pa_nil)))) pss_nil)
      (pss_cons (ps_set (i := 3) scSt.nd rfl (.inl rfl) (pe_lst (pa_cons pe_int (pa_cons (pg_kept T (pv 0)) (pa_cons (pg_keptOf T (pv 0)) pa_nil)))))
      (pss_cons (psS T.cl T.nK (pv 0) (pv 1))
      (pss_cons (psS T.cl T.nO (pv 0) (pv 2))
      (pss_one (ps_ret (pv 3)))))), ?_⟩
    refine ⟨_, rfl, _, rfl, _, _, rfl, _, rfl, ?_⟩
    cases h : Sr119.isRetention k n with
    | false =>
      rw [(st_no h).1, (st_no h).2] at hq
      exact iteT ⟨small12 (by show 1 ≤ 1000; decide), fun p hp => hq p l _ (But.of (Same.new hp)) (hP.same (Same.new hp)) (.inl rfl) hp upd_same⟩
    | true =>
      rw [(st_ok h).1, (st_ok h).2] at hq
      have hr2 := ret_iff h
      refine iteF ?_
      refine ⟨a, _, _, rfl, hP.1, ?_⟩
      refine ⟨a, _, _, rfl, hP.1, ?_⟩
      refine ⟨small12 (by show 3 ≤ 1000; decide), fun p hp => ?_⟩
      have s0 : Same H (upd H p (.lst [.int 0, .int m.kept, .int m.keptOf])) := Same.new hp
      have hP0 := hP.same s0
      have np : p ≠ a := fun z => by
        obtain ⟨⟨dx, h1⟩, _⟩ := hP
        rw [z, h1] at hp
        cases hp
      have ek : V.int k = V.int (k.toNat : Int) := by rw [Int.toNat_of_nonneg (by omega)]
      have en : V.int n = V.int (n.toNat : Int) := by rw [Int.toNat_of_nonneg (by omega)]
      refine ⟨_, rfl, ?_⟩
      refine ⟨a, l, l, _, { m with kept := k.toNat }, rfl, hP0.1, (by rw [ek]; exact pt_kept), fun H1 i1 b1 e1 => ?_⟩
      refine ⟨_, rfl, ?_⟩
      refine ⟨a, l, l, _, { m with kept := k.toNat, keptOf := n.toNat }, rfl, i1, (by rw [en]; exact pt_keptOf), fun H2 i2 b2 e2 => ?_⟩
      have b3 := b1.trans b2
      have hL2 : Lst H2 l m.ages := by
        obtain ⟨⟨dx, h1⟩, h2⟩ := hP0
        exact h2.but h1 b3
      refine ⟨_, rfl, hq p l _ ((But.of s0).trans b3) ⟨i2, hL2⟩ (.inl rfl) hp (b3 _ _ upd_same np)⟩
abbrev sRe : Stmt := sM 6
theorem scRe : FnScope ["self", "old_shots"] ["self"] (defScope sRe) := ⟨rfl, rfl, rfl, by decide +kernel, rfl, by decide +kernel, by decide +kernel⟩
theorem ok_re (F : Fun K "reset" "Process.reset" sRe f fd) (T : Txt K mg C) : FnOk P w K mg base CX0 1 f fd ["self"] (spM0 C .reset) := by
  refine F.ok scRe (fun vs H Q E h => ?_) (fun cdv A outer s H vs Q E hr h => ?_)
  · obtain ⟨_, _, _, rfl, _⟩ := h
    rfl
  · obtain ⟨a, l, m, rfl, hP, g, hq⟩ := h
    refine ⟨_, pss_cons (ps_set (i := 1) scRe.nd rfl (.inl rfl) (pg_shots T (pv 0)))
      (pss_cons (psS T.cl T.nS (pv 0) pe_int)
      (pss_cons (psS T.cl T.nA (pv 0) (pe_lst pa_nil))
      (pss_one (ps_ret (pe_lst (pa_cons (pv 1) pa_nil)))))), ?_⟩
    rw [(re_ok m).1, (re_ok m).2] at hq
    refine ⟨a, _, _, rfl, hP.1, ?_⟩
    refine ⟨a, l, l, _, { m with shots := 0 }, rfl, hP.1, (pt_shots (n := 0)), fun H1 i1 b1 e1 => ?_⟩
    refine ⟨Nat.zero_le _, fun l' hl' => ?_⟩
    have i1' := i1
    obtain ⟨dx, h1⟩ := i1
    have nl : l' ≠ a := fun z => by
      rw [z, h1] at hl'
      cases hl'
    have nH : H l' = none := by
      rw [e1 _ nl] at hl'
      exact hl'
    have i2 : InsAt C (upd H1 l' (.lst [])) a l { m with shots := 0 } := ⟨dx, by rw [upd_ne nl.symm]; exact h1⟩
    refine ⟨a, l, l', _, { m with shots := 0, ages := [] }, rfl, i2, (pt_ages (fs := [])), fun H3 i3 b3 e3 => ?_⟩
    have hL3 : Lst H3 l' [] := ⟨[], by rw [e3 _ nl, upd_same], Frs.nil⟩
    have b4 : But a H H3 := (b1.same (Same.new hl')).trans b3
    refine ⟨_, rfl, small12 (by show 1 ≤ 1000; decide), fun p hp => ?_⟩
    refine hq p l' _ (b4.same (Same.new hp)) (PAt.same ⟨i3, hL3⟩ (Same.new hp)) (.inr nH) (b4.free (fun z => ?_) hp) upd_same
    obtain ⟨dx3, h3⟩ := i3
    rw [z, h3] at hp
    cases hp
end
end Rg
set_option Elab.async false
set_option linter.all false
set_option maxRecDepth 100000
set_option maxHeartbeats 4000000
set_option exponentiation.threshold 10000
namespace Rg
open PySem PySem.Spec PyProof.Rows L2
open SrFraction (Fraction ofInt)
theorem one1000 : 1 ≤ sizeLine := small12 (by decide)
/-- fraction_answer of what was reckoned -/
theorem told_fr {H H1 : Hp} {f : Fraction} {Q : VK} {v : V} (t : Told H (frs f) Q) (s : Same H H1) (fv : Fr H1 v f) : spFa ([v] ++ []) H1 Q E0 := ⟨v, f, rfl, fv, fun p H2 s2 n e => t p H2 (s.trans s2) (s.free n) e⟩
theorem zero_iff {m : Sr119.Process} (g : Good m) : ((m.shots : Int) = 0) ↔ m.ages = [] := by
  refine ⟨fun h => g.z.mp (by omega), fun e => ?_⟩
  rw [g.z.mpr e]
  rfl
section
variable {P : Program} {w : World} {K : PySem.W.Frag} {mg : Str → Option Value} {base : Heap} {f : Addr} {fd : FuncData} {C : Addr}
/-! ### ages -/
abbrev sAf : Stmt := sM 7
theorem scAf : FnScope ["self", "k"] ["self", "k"] (defScope sAf) := ⟨rfl, rfl, rfl, by decide +kernel, rfl, by decide +kernel, by decide +kernel⟩
theorem ok_af {t1 t2 : Tok} (F : Fun K "age_fraction" "Process.age_fraction" sAf f fd) (T : Txt K mg C) (glen : mg "len" = none) (gO : mg "OUT_OF_RANGE" = some (.int (-22) t1)) (gN : mg "NO_SHOT" = some (.int (-6) t2))
    (R : Def P w K mg base "reduced" ["num", "den"] 2 spReduced) (A' : Def P w K mg base "fraction_answer" ["fraction"] 1 spFa) : FnOk P w K mg base CX0 3 f fd ["self", "k"] (spQ1 C .ageFraction) := by
  obtain ⟨fR, dR, mR, kR, bR, GR⟩ := R
  obtain ⟨fA, dA, mA, kA, bA, GA⟩ := A'
  refine F.ok scAf (fun vs H Q E h => ?_) (fun cdv A outer s H vs Q E hr h => ?_)
  · obtain ⟨_, _, _, _, rfl, _⟩ := h
    rfl
  · obtain ⟨a, l, m, k, rfl, hk, hP, g, hq⟩ := h
    refine ⟨_, pss_cons (ps_if (pt_cmpR op_ltB (pv 1) pe_int (nomark _)) (pss_one (ps_ret (pe_lst (pa_cons (pe_glob rfl gO (v := .int (-22)) ⟨_, rfl⟩) pa_nil)))) pss_nil)
      (pss_cons (ps_if (pt_cmpR op_eqB (pg_shots T (pv 0)) pe_int (nomark _)) (pss_one (ps_ret (pe_lst (pa_cons (pe_glob rfl gN (v := .int (-6)) ⟨_, rfl⟩) pa_nil)))) pss_nil)
      (pss_cons (ps_if (pt_cmpR op_geB (pv 1) (pe_callB call_len_seq (by rfl) glen PySem.boot_len (pa_cons (pg_ages T (pv 0)) pa_nil)) (nomark _))
        (pss_one (ps_ret (pe_call GA (hr.mono (by decide)) rfl mA kA bA .nil pass0 (pa_cons (pe_call GR hr rfl mR kR bR .nil pass0 (pa_cons pe_int (pa_cons pe_int pa_nil))) pa_nil)))) pss_nil)
      (pss_one (ps_ret (pe_call GA (hr.mono (by decide)) rfl mA kA bA .nil pass0 (pa_cons (pe_ix ix_list (pg_ages T (pv 0)) (pv 1) (fun _ _ => rfl)) pa_nil)))))), ?_⟩
    by_cases h1 : k < 0
    · rw [af_neg h1] at hq
      exact ⟨_, rfl, k, 0, true, rfl, rfl, ⟨fun _ => h1, fun _ => rfl⟩, _, rfl, iteT ⟨one1000, fun p hp => hq.put p hp⟩⟩
    · refine ⟨_, rfl, k, 0, false, rfl, rfl, ⟨fun z => Bool.noConfusion z, fun z => absurd z h1⟩, _, rfl, iteF ?_⟩
      by_cases e : m.ages = []
      · rw [af_no h1 e] at hq
        exact ⟨a, _, _, rfl, hP.1, _, _, true, rfl, rfl, ⟨fun _ => (zero_iff g).mpr e, fun _ => rfl⟩, _, rfl, iteT ⟨one1000, fun p hp => hq.put p hp⟩⟩
      · rw [af_ok h1 e] at hq
        refine ⟨a, _, _, rfl, hP.1, _, _, false, rfl, rfl, ⟨fun z => Bool.noConfusion z, fun z => absurd ((zero_iff g).mp z) e⟩, _, rfl, iteF ?_⟩
        obtain ⟨vs, hvs, hF⟩ := hP.2
        refine ⟨_, rfl, a, _, _, rfl, hP.1, l, vs, rfl, .inl (SqL.of hvs), k, _, decide ((vs.length : Int) ≤ k), rfl, rfl, decide_eq_true_iff, _, rfl, ?_⟩
        by_cases h2 : (vs.length : Int) ≤ k
        · rw [decide_eq_true h2]
          refine iteT ⟨0, 1, rfl, by decide, lt8000 (by decide), fun v H1 s1 f1 => ?_⟩
          rw [mk01] at f1
          rw [List.getD_eq_getElem?_getD, List.getElem?_eq_none (by have := hF.1; omega)] at hq
          exact told_fr hq s1 f1
        · rw [decide_eq_false h2]
          refine iteF ?_
          obtain ⟨v, hv⟩ := at_some (l := vs) (i := k.toNat) (by omega)
          obtain ⟨x, hx, fx⟩ := hF.at_ hv
          rw [List.getD_eq_getElem?_getD, hx] at hq
          exact ⟨a, _, _, rfl, hP.1, _, rfl, l, vs, k, v, rfl, rfl, SqL.of hvs, at_of (j := k.toNat) (by omega) hv, told_fr hq (Same.refl H) fx⟩
abbrev sOt : Stmt := sM 8
theorem scOt : FnScope ["self", "k"] ["self", "k"] (defScope sOt) := ⟨rfl, rfl, rfl, by decide +kernel, rfl, by decide +kernel, by decide +kernel⟩
theorem cut_drop {xs : List V} {j : Nat} : L2.cutV xs (some ((j : Nat) : Int)) none = xs.drop j := by
  unfold L2.cutV
  rw [HT.sIx_nat, HT.sIx_none]
  by_cases h : j ≤ xs.length
  · rw [Nat.min_eq_left h, List.take_of_length_le (by rw [List.length_drop]; exact Nat.le_refl _)]
  · rw [Nat.min_eq_right (by omega), List.drop_eq_nil_of_le (Nat.le_refl _), List.drop_eq_nil_of_le (by omega), List.take_nil]
theorem ok_ot {t1 t2 : Tok} (F : Fun K "older_than" "Process.older_than" sOt f fd) (T : Txt K mg C) (gO : mg "OUT_OF_RANGE" = some (.int (-22) t1)) (gN : mg "NO_SHOT" = some (.int (-6) t2))
    (S : Def P w K mg base "total_of" ["ratios"] 4 spTotal) (A' : Def P w K mg base "fraction_answer" ["fraction"] 1 spFa) : FnOk P w K mg base CX0 5 f fd ["self", "k"] (spQ1 C .olderThan) := by
  obtain ⟨fS, dS, mS, kS, bS, GS⟩ := S
  obtain ⟨fA, dA, mA, kA, bA, GA⟩ := A'
  refine F.ok scOt (fun vs H Q E h => ?_) (fun cdv A outer s H vs Q E hr h => ?_)
  · obtain ⟨_, _, _, _, rfl, _⟩ := h
    rfl
  · obtain ⟨a, l, m, k, rfl, hk, hP, g, hq⟩ := h
    refine ⟨_, pss_cons (ps_if (pt_cmpR op_ltB (pv 1) pe_int (nomark _)) (pss_one (ps_ret (pe_lst (pa_cons (pe_glob rfl gO (v := .int (-22)) ⟨_, rfl⟩) pa_nil)))) pss_nil)
      (pss_cons (ps_if (pt_cmpR op_eqB (pg_shots T (pv 0)) pe_int (nomark _)) (pss_one (ps_ret (pe_lst (pa_cons (pe_glob rfl gN (v := .int (-6)) ⟨_, rfl⟩) pa_nil)))) pss_nil)
      (pss_one (ps_ret (pe_call GA (hr.mono (by decide)) rfl mA kA bA .nil pass0 (pa_cons (pe_call GS hr rfl mS kS bS .nil pass0 (pa_cons (pe_slice sl_list (pg_ages T (pv 0)) (po_some (pe_op op_addZ (pv 1) pe_int)) po_none) pa_nil)) pa_nil))))), ?_⟩
    by_cases h1 : k < 0
    · rw [ot_neg h1] at hq
      exact ⟨_, rfl, k, 0, true, rfl, rfl, ⟨fun _ => h1, fun _ => rfl⟩, _, rfl, iteT ⟨one1000, fun p hp => hq.put p hp⟩⟩
    · refine ⟨_, rfl, k, 0, false, rfl, rfl, ⟨fun z => Bool.noConfusion z, fun z => absurd z h1⟩, _, rfl, iteF ?_⟩
      by_cases e : m.ages = []
      · rw [ot_no h1 e] at hq
        exact ⟨a, _, _, rfl, hP.1, _, _, true, rfl, rfl, ⟨fun _ => (zero_iff g).mpr e, fun _ => rfl⟩, _, rfl, iteT ⟨one1000, fun p hp => hq.put p hp⟩⟩
      · rw [ot_ok h1 e] at hq
        refine ⟨a, _, _, rfl, hP.1, _, _, false, rfl, rfl, ⟨fun z => Bool.noConfusion z, fun z => absurd ((zero_iff g).mp z) e⟩, _, rfl, iteF ?_⟩
        obtain ⟨vs, hvs, hF⟩ := hP.2
        refine ⟨a, _, _, rfl, hP.1, _, rfl, k, 1, ((k.toNat + 1 : Nat) : Int), rfl, rfl, trivial, by show ((k.toNat + 1 : Nat) : Int) = k + 1; omega, _, rfl, l, vs, rfl, SqL.of hvs, fun p hp => ?_⟩
        have s1 : Same H (upd H p (.lst (vs.drop (k.toNat + 1)))) := Same.new hp
        rw [cut_drop]
        have l12 := g.sz.le g.s12
        refine ⟨p, m.ages.drop (k.toNat + 1), 61, rfl, ⟨_, upd_same, (hF.drop _).same s1⟩, fun x hx => g.sz.b61 g.s12 (List.mem_of_mem_drop hx), by rw [List.length_drop]; omega, by decide, fun v H1 s2 f1 => ?_⟩
        exact told_fr hq (s1.trans s2) f1
abbrev sAd : Stmt := sM 9
theorem scAd : FnScope ["self", "answer", "fraction"] ["self"] (defScope sAd) := ⟨rfl, rfl, rfl, by decide +kernel, rfl, by decide +kernel, by decide +kernel⟩
theorem enc_len (l : List Fraction) : (l.flatMap SrFraction.encode).length = 2 * l.length := by
  induction l with
  | nil => rfl
  | cons x r ih =>
    rw [List.flatMap_cons, List.length_append, ih, List.length_cons]
    show 2 + _ = _
    omega
theorem enc_more {l : List Fraction} {i : Nat} {x : Fraction} (h : l[i]? = some x) : (l.take (i + 1)).flatMap SrFraction.encode = (l.take i).flatMap SrFraction.encode ++ [x.num, (x.den : Int)] := by
  rw [take_more h, List.flatMap_append]
  rfl
theorem ok_ad (F : Fun K "age_distribution" "Process.age_distribution" sAd f fd) (T : Txt K mg C) (glen : mg "len" = none) : FnOk P w K mg base CX0 1 f fd ["self"] (spQ0 C .ageDistribution) := by
  refine F.ok scAd (fun vs H Q E h => ?_) (fun cdv A outer s H vs Q E hr h => ?_)
  · obtain ⟨_, _, _, rfl, _⟩ := h
    rfl
  · obtain ⟨a, l, m, rfl, hP, g, hq⟩ := h
    refine ⟨_, pss_cons (ps_set (i := 1) scAd.nd rfl (.inl rfl) (pe_lst (pa_cons (pe_callB call_len_seq (by rfl) glen PySem.boot_len (pa_cons (pg_ages T (pv 0)) pa_nil)) pa_nil)))
      (pss_cons (ps_for PassesOwn.never rfl (pi_list (pg_ages T (pv 0))) (pg_name (i := 2) scAd.nd rfl (Or.inl rfl))
        (pss_cons (ps_expr (pe_bm PySem.F.plainAttrs_list PySem.F.slot_list_append PySem.F.type_list_append mt_append (pv 1) (pa_cons (pe_ix ix_num (pv 2) pe_int (fun _ _ => rfl)) pa_nil)))
        (pss_one (ps_expr (pe_bm PySem.F.plainAttrs_list PySem.F.slot_list_append PySem.F.type_list_append mt_append (pv 1) (pa_cons (pe_ix ix_den (pv 2) pe_int (fun _ _ => rfl)) pa_nil))))))
      (pss_one (ps_ret (pv 1)))), ?_⟩
    rw [ad_ok] at hq
    obtain ⟨vs, hvs, hF⟩ := hP.2
    have l12 := g.sz.le g.s12
    refine ⟨a, _, _, rfl, hP.1, l, vs, rfl, .inl (SqL.of hvs), one1000, fun p hp => ?_⟩
    have s0 : Same H (upd H p (.lst [.int vs.length])) := Same.new hp
    refine ⟨a, _, _, rfl, (hP.same s0).1, l, rfl, ⟨_, SqL.of (s0 _ _ hvs)⟩, for_list (K := K) (a := l) (xs := vs)
      (fun i σ H' => ∃ v : Option V, σ = [some (.ref a), some (.ref p), v] ∧ Same H H' ∧ H' p = some (.lst (zsV ((m.ages.length : Int) :: (m.ages.take i).flatMap SrFraction.encode))))
      ⟨none, rfl, s0, by rw [upd_same, hF.1]; rfl⟩ (fun i σ H' _ ⟨_, _, s1, _⟩ => SqL.of (s1 _ _ hvs)) ?_ ?_⟩
    · rintro i y σ H' hi ⟨v, rfl, s1, hL⟩
      obtain ⟨x, hx, fx⟩ := hF.at_ hi
      have li := idx_lt hx
      have sz : (zsV ((m.ages.length : Int) :: (m.ages.take i).flatMap SrFraction.encode)).length ≤ 30 := by
        rw [List.length_map, List.length_cons, enc_len, List.length_take]
        omega
      have fx1 := fx.same s1
      refine ⟨_, rfl, .inl ⟨rfl, _, SqL.of hL⟩, _, rfl, x, rfl, fx1, p, _, _, rfl, rfl, hL, small1000 (by omega), ?_⟩
      have fx2 : Fr (upd H' p (.lst (zsV ((m.ages.length : Int) :: (m.ages.take i).flatMap SrFraction.encode) ++ [V.int x.num]))) y x := fx1.put hL
      refine ⟨_, rfl, .inl ⟨rfl, _, SqL.of upd_same⟩, _, rfl, x, rfl, fx2, p, _, _, rfl, rfl, upd_same, small1000 (by rw [List.length_append]; show _ + 1 ≤ _; omega), ?_⟩
      refine ⟨_, rfl, fun b o e => ?_, ?_⟩
      · rw [upd_ne (ne_of_none e hp), upd_ne (ne_of_none e hp)]
        exact s1 b o e
      · rw [upd_same, enc_more hx]
        simp [zsV]
    · rintro σ H' ⟨v, rfl, s1, hL⟩
      rw [hF.1, List.take_length] at hL
      exact ⟨_, rfl, hq p H' s1 hp hL⟩
/-! ### strength, mean_age, limits -/
abbrev sS0 : Stmt := sM 13
theorem scS0 : FnScope ["self"] ["self"] (defScope sS0) := ⟨rfl, rfl, rfl, by decide +kernel, rfl, by decide +kernel, by decide +kernel⟩
theorem ok_s0 {t2 : Tok} (F : Fun K "strength" "Process.strength" sS0 f fd) (T : Txt K mg C) (gN : mg "NO_SHOT" = some (.int (-6) t2)) (N : MDef P w K mg base C "strength_now" ["self"] 5 (spNow C)) (A' : Def P w K mg base "fraction_answer" ["fraction"] 1 spFa) :
    FnOk P w K mg base CX0 6 f fd ["self"] (spQ0 C .strength) := by
  obtain ⟨fN, dN, mN, bN, GN⟩ := N
  obtain ⟨fA, dA, mA, kA, bA, GA⟩ := A'
  refine F.ok scS0 (fun vs H Q E h => ?_) (fun cdv A outer s H vs Q E hr h => ?_)
  · obtain ⟨_, _, _, rfl, _⟩ := h
    rfl
  · obtain ⟨a, l, m, rfl, hP, g, hq⟩ := h
    refine ⟨_, pss_cons (ps_if (pt_cmpR op_eqB (pg_shots T (pv 0)) pe_int (nomark _)) (pss_one (ps_ret (pe_lst (pa_cons (pe_glob rfl gN (v := .int (-6)) ⟨_, rfl⟩) pa_nil)))) pss_nil)
      (pss_one (ps_ret (pe_call GA (hr.mono (by decide)) rfl mA kA bA .nil pass0 (pa_cons (pm0 T (pv 0) (by decide +kernel) mN GN hr bN) pa_nil)))), ?_⟩
    by_cases e : m.ages = []
    · rw [st0_no e] at hq
      exact ⟨a, _, _, rfl, hP.1, _, _, true, rfl, rfl, ⟨fun _ => (zero_iff g).mpr e, fun _ => rfl⟩, _, rfl, iteT ⟨one1000, fun p hp => hq.put p hp⟩⟩
    · rw [st0_ok e] at hq
      refine ⟨a, _, _, rfl, hP.1, _, _, false, rfl, rfl, ⟨fun z => Bool.noConfusion z, fun z => absurd ((zero_iff g).mp z) e⟩, _, rfl, iteF ?_⟩
      exact ⟨a, _, _, rfl, hP.1, a, l, m, rfl, hP, g, fun v H1 s1 f1 => told_fr hq s1 f1⟩
abbrev sMa : Stmt := sM 14
theorem scMa : FnScope ["self"] ["self"] (defScope sMa) := ⟨rfl, rfl, rfl, by decide +kernel, rfl, by decide +kernel, by decide +kernel⟩
theorem ok_ma {t2 : Tok} (F : Fun K "mean_age" "Process.mean_age" sMa f fd) (T : Txt K mg C) (gN : mg "NO_SHOT" = some (.int (-6) t2)) (S : Def P w K mg base "mean_age_of" ["ages"] 5 spMean) (A' : Def P w K mg base "fraction_answer" ["fraction"] 1 spFa) :
    FnOk P w K mg base CX0 6 f fd ["self"] (spQ0 C .meanAge) := by
  obtain ⟨fS, dS, mS, kS, bS, GS⟩ := S
  obtain ⟨fA, dA, mA, kA, bA, GA⟩ := A'
  refine F.ok scMa (fun vs H Q E h => ?_) (fun cdv A outer s H vs Q E hr h => ?_)
  · obtain ⟨_, _, _, rfl, _⟩ := h
    rfl
  · obtain ⟨a, l, m, rfl, hP, g, hq⟩ := h
    refine ⟨_, pss_cons (ps_if (pt_cmpR op_eqB (pg_shots T (pv 0)) pe_int (nomark _)) (pss_one (ps_ret (pe_lst (pa_cons (pe_glob rfl gN (v := .int (-6)) ⟨_, rfl⟩) pa_nil)))) pss_nil)
      (pss_one (ps_ret (pe_call GA (hr.mono (by decide)) rfl mA kA bA .nil pass0 (pa_cons (pe_call GS hr rfl mS kS bS .nil pass0 (pa_cons (pg_ages T (pv 0)) pa_nil)) pa_nil)))), ?_⟩
    by_cases e : m.ages = []
    · rw [ma_no e] at hq
      exact ⟨a, _, _, rfl, hP.1, _, _, true, rfl, rfl, ⟨fun _ => (zero_iff g).mpr e, fun _ => rfl⟩, _, rfl, iteT ⟨one1000, fun p hp => hq.put p hp⟩⟩
    · rw [ma_ok e] at hq
      refine ⟨a, _, _, rfl, hP.1, _, _, false, rfl, rfl, ⟨fun z => Bool.noConfusion z, fun z => absurd ((zero_iff g).mp z) e⟩, _, rfl, iteF ?_⟩
      exact ⟨a, _, _, rfl, hP.1, l, m.ages, m.shots, rfl, hP.2, g.sz, g.s12, fun v H1 s1 f1 => told_fr hq s1 f1⟩
abbrev sLi : Stmt := sM 15
theorem scLi : FnScope ["self", "strength_limit", "mean_age_limit"] ["self"] (defScope sLi) := ⟨rfl, rfl, rfl, by decide +kernel, rfl, by decide +kernel, by decide +kernel⟩
theorem ok_li (F : Fun K "limits" "Process.limits" sLi f fd) (T : Txt K mg C) (L : MDef P w K mg base C "limit_with" ["self", "regrind"] 4 (spLw C)) (S : Def P w K mg base "mean_age_limit_of" ["regrind", "parts"] 3 spMeanLimit) :
    FnOk P w K mg base CX0 5 f fd ["self"] (spQ0 C .limits) := by
  obtain ⟨fL, dL, mL, bL, GL⟩ := L
  obtain ⟨fS, dS, mS, kS, bS, GS⟩ := S
  refine F.ok scLi (fun vs H Q E h => ?_) (fun cdv A outer s H vs Q E hr h => ?_)
  · obtain ⟨_, _, _, rfl, _⟩ := h
    rfl
  · obtain ⟨a, l, m, rfl, hP, g, hq⟩ := h
    refine ⟨_, pss_cons (ps_set (i := 1) scLi.nd rfl (.inl rfl) (pmE T (pv 0) (by decide +kernel) mL GL hr bL (pa_cons (pg_regrind T (pv 0)) pa_nil)))
      (pss_cons (ps_set (i := 2) scLi.nd rfl (.inl rfl) (pe_call GS (hr.mono (by decide)) rfl mS kS bS .nil pass0 (pa_cons (pg_regrind T (pv 0)) (pa_cons (pg_parts T (pv 0)) pa_nil))))
      (pss_one (ps_ret (pe_lst (pa_cons pe_int (pa_cons (pe_ix ix_num (pv 1) pe_int (fun _ _ => rfl)) (pa_cons (pe_ix ix_den (pv 1) pe_int (fun _ _ => rfl))
        (pa_cons (pe_ix ix_num (pv 2) pe_int (fun _ _ => rfl)) (pa_cons (pe_ix ix_den (pv 2) pe_int (fun _ _ => rfl)) pa_nil))))))))), ?_⟩
    rw [li_ok g] at hq
    refine ⟨a, _, _, rfl, hP.1, a, _, _, rfl, hP.1, a, l, m, m.regrind, rfl, hP, g, g.r0, fun v1 H1 s1 f1 => ?_⟩
    have hP1 := hP.same s1
    refine ⟨a, _, _, rfl, hP1.1, a, _, _, rfl, hP1.1, m.regrind, m.parts, rfl, g.r0, g.p1, fun v2 H2 s2 f2 => ?_⟩
    have f1' := f1.same s2
    exact ⟨_, rfl, _, rfl, f1', _, rfl, _, rfl, f1', _, rfl, _, rfl, f2, _, rfl, _, rfl, f2, small12 (by show 5 ≤ 1000; decide), fun p hp => (hq.new (s1.trans s2)).put p hp⟩
abbrev sSl : Stmt := sM 16
theorem scSl : FnScope ["self"] ["self"] (defScope sSl) := ⟨rfl, rfl, rfl, by decide +kernel, rfl, by decide +kernel, by decide +kernel⟩
theorem ok_sl {t2 : Tok} (F : Fun K "strength_above_limit" "Process.strength_above_limit" sSl f fd) (T : Txt K mg C) (gN : mg "NO_SHOT" = some (.int (-6) t2)) (N : MDef P w K mg base C "strength_now" ["self"] 5 (spNow C)) (L : MDef P w K mg base C "limit_with" ["self", "regrind"] 4 (spLw C))
    (M : Def P w K mg base "minus" ["one", "other"] 3 (spBin SrFraction.sub)) (A' : Def P w K mg base "fraction_answer" ["fraction"] 1 spFa) : FnOk P w K mg base CX0 6 f fd ["self"] (spQ0 C .strengthAboveLimit) := by
  obtain ⟨fN, dN, mN, bN, GN⟩ := N
  obtain ⟨fL, dL, mL, bL, GL⟩ := L
  obtain ⟨fM, dM, mM, kM, bM, GM⟩ := M
  obtain ⟨fA, dA, mA, kA, bA, GA⟩ := A'
  refine F.ok scSl (fun vs H Q E h => ?_) (fun cdv A outer s H vs Q E hr h => ?_)
  · obtain ⟨_, _, _, rfl, _⟩ := h
    rfl
  · obtain ⟨a, l, m, rfl, hP, g, hq⟩ := h
    refine ⟨_, pss_cons (ps_if (pt_cmpR op_eqB (pg_shots T (pv 0)) pe_int (nomark _)) (pss_one (ps_ret (pe_lst (pa_cons (pe_glob rfl gN (v := .int (-6)) ⟨_, rfl⟩) pa_nil)))) pss_nil)
      (pss_one (ps_ret (pe_call GA (hr.mono (by decide)) rfl mA kA bA .nil pass0 (pa_cons (pe_call GM (hr.mono (by decide)) rfl mM kM bM .nil pass0 (pa_cons (pm0 T (pv 0) (by decide +kernel) mN GN hr bN)
        (pa_cons (pmE T (pv 0) (by decide +kernel) mL GL (hr.mono (by decide)) bL (pa_cons (pg_regrind T (pv 0)) pa_nil)) pa_nil))) pa_nil)))), ?_⟩
    by_cases e : m.ages = []
    · rw [sl_no e] at hq
      exact ⟨a, _, _, rfl, hP.1, _, _, true, rfl, rfl, ⟨fun _ => (zero_iff g).mpr e, fun _ => rfl⟩, _, rfl, iteT ⟨one1000, fun p hp => hq.put p hp⟩⟩
    · rw [sl_ok g e] at hq
      refine ⟨a, _, _, rfl, hP.1, _, _, false, rfl, rfl, ⟨fun z => Bool.noConfusion z, fun z => absurd ((zero_iff g).mp z) e⟩, _, rfl, iteF ?_⟩
      refine ⟨a, _, _, rfl, hP.1, a, l, m, rfl, hP, g, fun v H1 s1 f1 => ?_⟩
      have hP1 := hP.same s1
      refine ⟨a, _, _, rfl, hP1.1, a, _, _, rfl, hP1.1, a, l, m, m.regrind, rfl, hP1, g, g.r0, fun v2 H2 s2 f2 => ?_⟩
      exact ⟨v, v2, _, _, rfl, f1.same s2, f2, (strOf_bits g.sz g.s12 g.ret).mono (by decide), (g.lim g.r0).mono (by decide), fun v3 H3 s3 f3 => told_fr hq ((s1.trans s2).trans s3) f3⟩
abbrev sDe : Stmt := sM 21
theorem scDe : FnScope ["self"] ["self"] (defScope sDe) := ⟨rfl, rfl, rfl, by decide +kernel, rfl, by decide +kernel, by decide +kernel⟩
theorem ok_de (F : Fun K "describe" "Process.describe" sDe f fd) (T : Txt K mg C) : FnOk P w K mg base CX0 1 f fd ["self"] (spQ0 C .describe) := by
  refine F.ok scDe (fun vs H Q E h => ?_) (fun cdv A outer s H vs Q E hr h => ?_)
  · obtain ⟨_, _, _, rfl, _⟩ := h
    rfl
  · obtain ⟨a, l, m, rfl, hP, g, hq⟩ := h
    refine ⟨_, pss_one (ps_ret (pe_lst (pa_cons (pg_shots T (pv 0)) (pa_cons (pg_regrind T (pv 0)) (pa_cons (pg_parts T (pv 0)) (pa_cons (pg_kept T (pv 0)) (pa_cons (pg_keptOf T (pv 0)) pa_nil))))))), ?_⟩
    rw [de_ok] at hq
    exact ⟨a, _, _, rfl, hP.1, a, _, _, rfl, hP.1, a, _, _, rfl, hP.1, a, _, _, rfl, hP.1, a, _, _, rfl, hP.1, small12 (by show 5 ≤ 1000; decide), fun p hp => hq.put p hp⟩
/-! ### what would be -/
abbrev sSi : Stmt := sM 20
theorem scSi : FnScope ["self", "regrind", "n"] ["self", "regrind", "n"] (defScope sSi) := ⟨rfl, rfl, rfl, by decide +kernel, rfl, by decide +kernel, by decide +kernel⟩
theorem ok_si {t1 : Tok} (F : Fun K "strength_after_if" "Process.strength_after_if" sSi f fd) (T : Txt K mg C) (gO : mg "OUT_OF_RANGE" = some (.int (-22) t1)) (R : Def P w K mg base "regrind_allowed" ["regrind", "parts"] 1 (spBool2 regOk))
    (S : Def P w K mg base "shots_allowed" ["n"] 1 (spBool1 Sr119.isShotCount)) (N : MDef P w K mg base C "strength_from_start" ["self", "regrind", "n"] 6 (spFs C)) (A' : Def P w K mg base "fraction_answer" ["fraction"] 1 spFa) :
    FnOk P w K mg base CX0 7 f fd ["self", "regrind", "n"] (spQ2 C .strengthAfterIf) := by
  obtain ⟨fR, dR, mR, kR, bR, GR⟩ := R
  obtain ⟨fS, dS, mS, kS, bS, GS⟩ := S
  obtain ⟨fN, dN, mN, bN, GN⟩ := N
  obtain ⟨fA, dA, mA, kA, bA, GA⟩ := A'
  refine F.ok scSi (fun vs H Q E h => ?_) (fun cdv A outer s H vs Q E hr h => ?_)
  · obtain ⟨_, _, _, _, _, rfl, _⟩ := h
    rfl
  · obtain ⟨a, l, m, r, n, rfl, _, _, hP, g, hq⟩ := h
    refine ⟨_, pss_cons (ps_if (PW.pt (pw_or (pt_not (pt_val (pe_call GR (hr.mono (by decide)) rfl mR kR bR .nil pass0 (pa_cons (pv 1) (pa_cons (pg_parts T (pv 0)) pa_nil)))))
        (pw_or1 (pt_not (pt_val (pe_call GS (hr.mono (by decide)) rfl mS kS bS .nil pass0 (pa_cons (pv 2) pa_nil))))))) (pss_one (ps_ret (pe_lst (pa_cons (pe_glob rfl gO (v := .int (-22)) ⟨_, rfl⟩) pa_nil)))) pss_nil)
      (pss_one (ps_ret (pe_call GA (hr.mono (by decide)) rfl mA kA bA .nil pass0 (pa_cons (pmE T (pv 0) (by decide +kernel) mN GN hr bN (pa_cons (pv 1) (pa_cons (pv 2) pa_nil))) pa_nil)))), ?_⟩
    refine ⟨_, rfl, a, _, _, rfl, hP.1, _, _, rfl, _, rfl, ?_⟩
    cases h1 : regOk r m.parts with
    | false =>
      rw [si_no (.inl h1)] at hq
      exact iteT (iteT ⟨one1000, fun p hp => hq.put p hp⟩)
    | true =>
      refine iteF ⟨_, rfl, _, rfl, _, rfl, ?_⟩
      cases h2 : Sr119.isShotCount n with
      | false =>
        rw [si_no (.inr h2)] at hq
        exact iteT ⟨one1000, fun p hp => hq.put p hp⟩
      | true =>
        rw [si_ok h1 h2] at hq
        have b1 := reg_iff h1
        have b2 := cnt_iff h2
        have e1 : V.int r = V.int (r.toNat : Int) := by rw [Int.toNat_of_nonneg b1.1]
        have e2 : V.int n = V.int (n.toNat : Int) := by rw [Int.toNat_of_nonneg (by omega)]
        refine iteF ⟨a, _, _, rfl, hP.1, _, rfl, _, rfl, ?_⟩
        refine ⟨a, l, m, r.toNat, n.toNat, by rw [e1, e2]; rfl, hP, g, by omega, by omega, fun v H1 s1 f1 => told_fr hq s1 f1⟩
abbrev sSa' : Stmt := sM 17
theorem scSa' : FnScope ["self", "n"] ["self", "n"] (defScope sSa') := ⟨rfl, rfl, rfl, by decide +kernel, rfl, by decide +kernel, by decide +kernel⟩
theorem ok_sa' (F : Fun K "strength_after" "Process.strength_after" sSa' f fd) (T : Txt K mg C) (S : MDef P w K mg base C "strength_after_if" ["self", "regrind", "n"] 7 (spQ2 C .strengthAfterIf)) : FnOk P w K mg base CX0 8 f fd ["self", "n"] (spQ1 C .strengthAfter) := by
  obtain ⟨fS, dS, mS, bS, GS⟩ := S
  refine F.ok scSa' (fun vs H Q E h => ?_) (fun cdv A outer s H vs Q E hr h => ?_)
  · obtain ⟨_, _, _, _, rfl, _⟩ := h
    rfl
  · obtain ⟨a, l, m, n, rfl, hn, hP, g, hq⟩ := h
    refine ⟨_, pss_one (ps_ret (pmE T (pv 0) (by decide +kernel) mS GS hr bS (pa_cons (pg_regrind T (pv 0)) (pa_cons (pv 1) pa_nil)))), ?_⟩
    rw [sa_if g] at hq
    have := g.r0
    have := g.p1
    exact ⟨a, _, _, rfl, hP.1, a, _, _, rfl, hP.1, _, rfl, a, l, m, m.regrind, n, rfl, ⟨by omega, by omega⟩, hn, hP, g, hq⟩
end
end Rg
set_option Elab.async false
set_option linter.all false
set_option maxRecDepth 100000
set_option maxHeartbeats 4000000
set_option exponentiation.threshold 10000
namespace Rg
open PySem PySem.Spec PyProof.Rows L2
open SrFraction (Fraction ofInt)
theorem thr_bits {n d : Int} (hn : I32 n) (h : Sr119.isThreshold n d = true) : Bits 3000 (mk n d.toNat) := by
  have a := thr_iff h
  have b := hn.2
  refine Bits.mono (a := 32) (bits_mk (by omega) (by show n.natAbs < 4294967296; omega) (by show d.toNat < 4294967296; omega)) (by decide)
section
variable {P : Program} {w : World} {K : PySem.W.Frag} {mg : Str → Option Value} {base : Heap} {f : Addr} {fd : FuncData} {C : Addr}
abbrev sMr : Stmt := sM 18
theorem scMr : FnScope ["self", "num", "den", "threshold", "regrind"] ["self", "num", "den"] (defScope sMr) := ⟨rfl, rfl, rfl, by decide +kernel, rfl, by decide +kernel, by decide +kernel⟩
theorem ok_mr {t1 t2 : Tok} (F : Fun K "max_regrind" "Process.max_regrind" sMr f fd) (T : Txt K mg C) (gran : mg "range" = none) (gO : mg "OUT_OF_RANGE" = some (.int (-22) t1)) (gN : mg "NO_SUCH_VALUE" = some (.int (-33) t2))
    (A' : Def P w K mg base "threshold_allowed" ["num", "den"] 1 (spBool2 Sr119.isThreshold)) (R : Def P w K mg base "reduced" ["num", "den"] 2 spReduced) (L : Def P w K mg base "less" ["one", "other"] 1 spLess) (W : MDef P w K mg base C "limit_with" ["self", "regrind"] 4 (spLw C)) :
    FnOk P w K mg base CX0 5 f fd ["self", "num", "den"] (spQ2 C .maxRegrind) := by
  obtain ⟨fA, dA, mA, kA, bA, GA⟩ := A'
  obtain ⟨fR, dR, mR, kR, bR, GR⟩ := R
  obtain ⟨fL, dL, mL, kL, bL, GL⟩ := L
  obtain ⟨fW, dW, mW, bW, GW⟩ := W
  refine F.ok scMr (fun vs H Q E h => ?_) (fun cdv A outer s H vs Q E hr h => ?_)
  · obtain ⟨_, _, _, _, _, rfl, _⟩ := h
    rfl
  · obtain ⟨a, l, m, n, d, rfl, hn, hd, hP, g, hq⟩ := h
    refine ⟨_, pss_cons (ps_if (pt_not (pt_val (pe_call GA (hr.mono (by decide)) rfl mA kA bA .nil pass0 (pa_cons (pv 1) (pa_cons (pv 2) pa_nil))))) (pss_one (ps_ret (pe_lst (pa_cons (pe_glob rfl gO (v := .int (-22)) ⟨_, rfl⟩) pa_nil)))) pss_nil)
      (pss_cons (ps_set (i := 3) scMr.nd rfl (.inl rfl) (pe_call GR (hr.mono (by decide)) rfl mR kR bR .nil pass0 (pa_cons (pv 1) (pa_cons (pv 2) pa_nil))))
      (pss_cons (ps_for PassesOwn.never rfl (pi_range3 rfl gran (pa_cons (pe_op op_subZ (pg_parts T (pv 0)) pe_int) (pa_cons (pe_un un_neg pe_int) (pa_cons (pe_un un_neg pe_int) pa_nil)))) (pg_name (i := 4) scMr.nd rfl (Or.inl rfl))
        (pss_one (ps_if (pt_not (pt_val (pe_call GL (hr.mono (by decide)) rfl mL kL bL .nil pass0 (pa_cons (pmE T (pv 0) (by decide +kernel) mW GW hr bW (pa_cons (pv 4) pa_nil)) (pa_cons (pv 3) pa_nil)))))
          (pss_one (ps_ret (pe_lst (pa_cons (pv 4) pa_nil)))) pss_nil)))
      (pss_one (ps_ret (pe_lst (pa_cons (pe_glob rfl gN (v := .int (-33)) ⟨_, rfl⟩) pa_nil)))))), ?_⟩
    refine ⟨_, rfl, _, rfl, _, _, rfl, _, rfl, ?_⟩
    cases h : Sr119.isThreshold n d with
    | false =>
      rw [mr_no h] at hq
      exact iteT ⟨one1000, fun p hp => hq.put p hp⟩
    | true =>
      have b := thr_iff h
      have tb := thr_bits hn h
      have ed : V.int d = V.int (d.toNat : Int) := by rw [Int.toNat_of_nonneg (by omega)]
      refine iteF ⟨_, rfl, _, rfl, n, d.toNat, by rw [ed]; rfl, by omega, lt8000 (by omega), fun tv H1 s1 ft => ?_⟩
      have hP1 := hP.same s1
      have p1 := g.p1
      have p0 := g.p0
      have er : ((m.parts : Int) - 1 - -1).toNat = m.parts := by omega
      have rg : RgC ((m.parts : Int) - 1) (-1) (-1) m.parts := by
        have z := RgC.neg (i := (m.parts : Int) - 1) (j := -1) (by omega) (by omega) (by decide) (by decide)
        rw [er] at z
        exact z
      refine ⟨a, _, _, rfl, hP1.1, _, _, (m.parts : Int) - 1, rfl, rfl, trivial, rfl, 1, rfl, 1, rfl, (m.parts : Int) - 1, -1, -1, m.parts, rfl, rg, ?_⟩
      refine for_rangeC (lo := (m.parts : Int) - 1) (c := -1) (n := m.parts) (fun i σ H' => ∃ v : Option V, σ = [some (.ref a), some (.int n), some (.int d), some tv, v] ∧ Same H1 H' ∧
          ∀ j, j < i → SrFraction.lt (limOf m.parts m.kept m.keptOf (m.parts - 1 - j)) (mk n d.toNat) = true)
        ⟨none, rfl, Same.refl _, fun j hj => absurd hj (by omega)⟩ ?_ ?_
      · rintro i σ H' hi ⟨v, rfl, s2, hb⟩
        have ev : V.int ((m.parts : Int) - 1 + (i : Nat) * -1) = V.int ((m.parts - 1 - i : Nat) : Int) := by
          refine congrArg V.int ?_
          omega
        rw [ev]
        have hP2 := hP1.same s2
        have hri : m.parts - 1 - i < m.parts := by omega
        refine ⟨a, _, _, rfl, hP2.1, _, rfl, a, l, m, m.parts - 1 - i, rfl, hP2, g, hri, fun v1 H2 s3 f1 => ?_⟩
        refine ⟨_, rfl, v1, tv, _, _, rfl, f1, ft.same (s2.trans s3), (g.lim hri).mono (by decide), tb, _, rfl, ?_⟩
        cases hlt : SrFraction.lt (limOf m.parts m.kept m.keptOf (m.parts - 1 - i)) (mk n d.toNat) with
        | true =>
          refine iteF ⟨_, rfl, s2.trans s3, fun j hj => ?_⟩
          by_cases e : j = i
          · rw [e]
            exact hlt
          · exact hb j (by omega)
        | false =>
          rw [mr_some h (max_some g hi hlt hb)] at hq
          exact iteT ⟨_, rfl, one1000, fun p hp => (hq.new ((s1.trans s2).trans s3)).put p hp⟩
      · rintro σ H' ⟨v, rfl, s2, hb⟩
        rw [mr_none h (max_none g hb)] at hq
        exact ⟨one1000, fun p hp => (hq.new (s1.trans s2)).put p hp⟩
abbrev sFw : Stmt := sM 19
theorem scFw : FnScope ["self", "num", "den", "threshold", "n"] ["self", "num", "den"] (defScope sFw) := ⟨rfl, rfl, rfl, by decide +kernel, rfl, by decide +kernel, by decide +kernel⟩
theorem ok_fw {t1 t2 t3 : Tok} (F : Fun K "first_weak_shot" "Process.first_weak_shot" sFw f fd) (T : Txt K mg C) (gran : mg "range" = none) (gO : mg "OUT_OF_RANGE" = some (.int (-22) t1)) (gN : mg "NO_SUCH_VALUE" = some (.int (-33) t2)) (gM : mg "MOST_SHOTS" = some (.int 12 t3))
    (A' : Def P w K mg base "threshold_allowed" ["num", "den"] 1 (spBool2 Sr119.isThreshold)) (R : Def P w K mg base "reduced" ["num", "den"] 2 spReduced) (L : Def P w K mg base "less" ["one", "other"] 1 spLess) (W : MDef P w K mg base C "strength_from_start" ["self", "regrind", "n"] 6 (spFs C)) :
    FnOk P w K mg base CX0 7 f fd ["self", "num", "den"] (spQ2 C .firstWeakShot) := by
  obtain ⟨fA, dA, mA, kA, bA, GA⟩ := A'
  obtain ⟨fR, dR, mR, kR, bR, GR⟩ := R
  obtain ⟨fL, dL, mL, kL, bL, GL⟩ := L
  obtain ⟨fW, dW, mW, bW, GW⟩ := W
  refine F.ok scFw (fun vs H Q E h => ?_) (fun cdv A outer s H vs Q E hr h => ?_)
  · obtain ⟨_, _, _, _, _, rfl, _⟩ := h
    rfl
  · obtain ⟨a, l, m, n, d, rfl, hn, hd, hP, g, hq⟩ := h
    refine ⟨_, pss_cons (ps_if (pt_not (pt_val (pe_call GA (hr.mono (by decide)) rfl mA kA bA .nil pass0 (pa_cons (pv 1) (pa_cons (pv 2) pa_nil))))) (pss_one (ps_ret (pe_lst (pa_cons (pe_glob rfl gO (v := .int (-22)) ⟨_, rfl⟩) pa_nil)))) pss_nil)
      (pss_cons (ps_set (i := 3) scFw.nd rfl (.inl rfl) (pe_call GR (hr.mono (by decide)) rfl mR kR bR .nil pass0 (pa_cons (pv 1) (pa_cons (pv 2) pa_nil))))
      (pss_cons (ps_for PassesOwn.never rfl (pi_range2 (by rfl) gran (pa_cons pe_int (pa_cons (pe_op op_addZ (pe_glob rfl gM (v := .int 12) ⟨_, rfl⟩) pe_int) pa_nil))) (pg_name (i := 4) scFw.nd rfl (Or.inl rfl))
        (pss_one (ps_if (pt_val (pe_call GL (hr.mono (by decide)) rfl mL kL bL .nil pass0 (pa_cons (pmE T (pv 0) (by decide +kernel) mW GW hr bW (pa_cons (pg_regrind T (pv 0)) (pa_cons (pv 4) pa_nil))) (pa_cons (pv 3) pa_nil))))
          (pss_one (ps_ret (pe_lst (pa_cons (pv 4) pa_nil)))) pss_nil)))
      (pss_one (ps_ret (pe_lst (pa_cons (pe_glob rfl gN (v := .int (-33)) ⟨_, rfl⟩) pa_nil)))))), ?_⟩
    refine ⟨_, rfl, _, rfl, _, _, rfl, _, rfl, ?_⟩
    cases h : Sr119.isThreshold n d with
    | false =>
      rw [fw_no h] at hq
      exact iteT ⟨one1000, fun p hp => hq.put p hp⟩
    | true =>
      have b := thr_iff h
      have tb := thr_bits hn h
      have ed : V.int d = V.int (d.toNat : Int) := by rw [Int.toNat_of_nonneg (by omega)]
      refine iteF ⟨_, rfl, _, rfl, n, d.toNat, by rw [ed]; rfl, by omega, lt8000 (by omega), fun tv H1 s1 ft => ?_⟩
      have hP1 := hP.same s1
      refine ⟨12, 1, 13, rfl, rfl, trivial, rfl, 1, 13, rfl, ⟨by decide, by decide, by decide, by decide⟩, ?_⟩
      refine for_range (lo := 1) (n := 12) (fun i σ H' => ∃ v : Option V, σ = [some (.ref a), some (.int n), some (.int d), some tv, v] ∧ Same H1 H' ∧
          ∀ j, j < i → SrFraction.lt (strM m (agesN m.regrind m.parts (j + 1))) (mk n d.toNat) = false)
        ⟨none, rfl, Same.refl _, fun j hj => absurd hj (by omega)⟩ ?_ ?_
      · rintro i σ H' hi ⟨v, rfl, s2, hb⟩
        have ev : V.int (1 + (i : Nat)) = V.int ((i + 1 : Nat) : Int) := by
          refine congrArg V.int ?_
          omega
        rw [ev]
        have hP2 := hP1.same s2
        refine ⟨a, _, _, rfl, hP2.1, a, _, _, rfl, hP2.1, _, rfl, a, l, m, m.regrind, i + 1, rfl, hP2, g, g.r0, by omega, fun v1 H2 s3 f1 => ?_⟩
        refine ⟨_, rfl, v1, tv, _, _, rfl, f1, ft.same (s2.trans s3), (strOf_bits (Sized.ofN g.p0 g.p1 g.r0 (i + 1)) (by omega) g.ret).mono (by decide), tb, _, rfl, ?_⟩
        cases hlt : SrFraction.lt (strM m (agesN m.regrind m.parts (i + 1))) (mk n d.toNat) with
        | false =>
          refine iteF ⟨_, rfl, s2.trans s3, fun j hj => ?_⟩
          by_cases e : j = i
          · rw [e]
            exact hlt
          · exact hb j (by omega)
        | true =>
          rw [fw_some h (weak_some hi hlt hb)] at hq
          exact iteT ⟨_, rfl, one1000, fun p hp => (hq.new ((s1.trans s2).trans s3)).put p hp⟩
      · rintro σ H' ⟨v, rfl, s2, hb⟩
        rw [fw_none h (weak_none hb)] at hq
        exact ⟨one1000, fun p hp => (hq.new (s1.trans s2)).put p hp⟩
end
end Rg
set_option Elab.async false
set_option linter.all false
set_option maxRecDepth 100000
set_option maxHeartbeats 4000000
set_option exponentiation.threshold 10000
namespace Rg
open PySem PySem.Spec PyProof.Rows L2
open SrFraction (Fraction ofInt)
/-! ### given[i]; process is None -/
def rGiv : R2 := fun x y H Q => ∃ (l : Addr) (xs : List Int) (i : Nat) (z : Int), x = .ref l ∧ y = .int i ∧ H l = some (.lst (zsV xs)) ∧ xs[i]? = some z ∧ Q (.int z) H
def rNone : R2 := fun x y H Q => ∃ c : Bool, y = .non ∧ (c = true ↔ x = .non) ∧ Q (.bl c) H
theorem ix_giv {X : Cx} : IxR X rGiv := fun a b pins s σ H x y v u Q I rx ry h hs => by
  obtain ⟨l, xs, i, z, rfl, rfl, h1, h2, q⟩ := h
  exact ix_list a b pins s σ H _ _ v u Q I rx ry ⟨l, _, i, .int z, rfl, rfl, SqL.of h1, at_of (j := i) rfl (by rw [List.getElem?_map, h2]; rfl), q⟩ hs
theorem op_none {X : Cx} : OpR X (compareOp .Is) rNone := fun pins s σ H x y v u Q I rx ry h => by
  obtain ⟨c, rfl, e, q⟩ := h
  rw [letter e] at q
  exact op_isN pins s σ H x _ v u Q I rx ry ⟨rfl, q⟩
/-! ### promises -/
abbrev pcall (n : Nat) (xs : List Int) : Option Sr119.Call := Sr119Neutral.parseCall [(n : Int) :: xs]
def spCh (C : Addr) : Sp := fun vs H Q _ => ∃ (a l g : Addr) (m : Sr119.Process) (n : Nat) (xs : List Int) (c : Sr119.Call), vs = [.ref a, .int n, .ref g] ∧ H g = some (.lst (zsV xs)) ∧ 1 ≤ n ∧ n ≤ 5 ∧ xs.length = arity.getD n 0 ∧ pcall n xs = some c ∧
  PAt C H a l m ∧ Good m ∧ Done C H a (newOf m c) (outOf m c) (OldNew H l) Q
def spAq (C : Addr) : Sp := fun vs H Q _ => ∃ (a l : Addr) (m : Sr119.Process) (n : Nat) (c : Sr119.Call), vs = [.ref a, .int n] ∧ 6 ≤ n ∧ n < 18 ∧ arity.getD n 0 = 0 ∧ pcall n [] = some c ∧ PAt C H a l m ∧ Good m ∧ Told H (outOf m c) Q
def spAw (C : Addr) : Sp := fun vs H Q _ => ∃ (a l g : Addr) (m : Sr119.Process) (n : Nat) (xs : List Int) (c : Sr119.Call), vs = [.ref a, .int n, .ref g] ∧ H g = some (.lst (zsV xs)) ∧ 6 ≤ n ∧ n < 18 ∧ arity.getD n 0 ≠ 0 ∧ xs.length = arity.getD n 0 ∧ (∀ z ∈ xs, I32 z) ∧ pcall n xs = some c ∧
  PAt C H a l m ∧ Good m ∧ Told H (outOf m c) Q
def spAc (C : Addr) : Sp := fun vs H Q _ => ∃ (x : V) (g : Addr) (n : Nat) (xs : List Int) (c : Sr119.Call), vs = [x, .int n, .ref g] ∧ H g = some (.lst (zsV xs)) ∧ 1 ≤ n ∧ n < 18 ∧ xs.length = arity.getD n 0 ∧ (∀ z ∈ xs, I32 z) ∧ pcall n xs = some c ∧
  ((x = .non ∧ Told H [-11] Q) ∨ ∃ (a l : Addr) (m : Sr119.Process), x = .ref a ∧ PAt C H a l m ∧ Good m ∧ Done C H a (newOf m c) (outOf m c) (OldNew H l) Q)
theorem ff {p : Prop} (h : ¬ p) : false = true ↔ p := ⟨fun z => Bool.noConfusion z, fun z => absurd z h⟩
theorem tt' {p : Prop} (h : p) : true = true ↔ p := ⟨fun _ => h, fun _ => rfl⟩
section
variable {P : Program} {w : World} {K : PySem.W.Frag} {mg : Str → Option Value} {base : Heap} {f : Addr} {fd : FuncData} {C : Addr}
/-! ### answer_change -/
abbrev sCh : Stmt := top 49
theorem scCh : FnScope ["process", "number", "given"] ["process", "number", "given"] (defScope sCh) := ⟨rfl, rfl, rfl, by decide +kernel, rfl, by decide +kernel, by decide +kernel⟩
theorem ok_ch {t1 t2 t3 t4 : Tok} (F : Fun K "answer_change" "answer_change" sCh f fd) (T : Txt K mg C) (g1 : mg "MAKE_SHOT" = some (.int 1 t1)) (g2 : mg "MAKE_VIRGIN_SHOT" = some (.int 2 t2)) (g3 : mg "SET_REGRIND" = some (.int 3 t3)) (g4 : mg "SET_RETENTION" = some (.int 4 t4))
    (M1 : MDef P w K mg base C "make_shot" ["self"] 7 (spM0 C .makeShot)) (M2 : MDef P w K mg base C "make_virgin_shot" ["self"] 7 (spM0 C .makeVirginShot)) (M3 : MDef P w K mg base C "set_regrind" ["self", "regrind"] 2 (spM1 C .setRegrind))
    (M4 : MDef P w K mg base C "set_retention" ["self", "kept", "kept_of"] 2 (spM2 C .setRetention)) (M5 : MDef P w K mg base C "reset" ["self"] 1 (spM0 C .reset)) : FnOk P w K mg base CX0 8 f fd ["process", "number", "given"] (spCh C) := by
  obtain ⟨f1, d1, m1, b1, G1⟩ := M1
  obtain ⟨f2, d2, m2, b2, G2⟩ := M2
  obtain ⟨f3, d3, m3, b3, G3⟩ := M3
  obtain ⟨f4, d4, m4, b4, G4⟩ := M4
  obtain ⟨f5, d5, m5, b5, G5⟩ := M5
  refine F.ok scCh (fun vs H Q E h => ?_) (fun cdv A outer s H vs Q E hr h => ?_)
  · obtain ⟨_, _, _, _, _, _, _, rfl, _⟩ := h
    rfl
  · obtain ⟨a, l, gv, m, n, xs, c, rfl, hg, n1, n5, hl, hc, hP, g, hq⟩ := h
    refine ⟨_, pss_cons (ps_if (pt_cmpR op_eqB (pv 1) (pe_glob rfl g1 (v := .int 1) ⟨_, rfl⟩) (nomark _)) (pss_one (ps_ret (pm0 T (pv 0) (by decide +kernel) m1 G1 hr b1))) pss_nil)
      (pss_cons (ps_if (pt_cmpR op_eqB (pv 1) (pe_glob rfl g2 (v := .int 2) ⟨_, rfl⟩) (nomark _)) (pss_one (ps_ret (pm0 T (pv 0) (by decide +kernel) m2 G2 hr b2))) pss_nil)
      (pss_cons (ps_if (pt_cmpR op_eqB (pv 1) (pe_glob rfl g3 (v := .int 3) ⟨_, rfl⟩) (nomark _)) (pss_one (ps_ret (pmE T (pv 0) (by decide +kernel) m3 G3 (hr.mono (by decide)) b3 (pa_cons (pe_ix ix_giv (pv 2) pe_int (fun _ _ => rfl)) pa_nil)))) pss_nil)
      (pss_cons (ps_if (pt_cmpR op_eqB (pv 1) (pe_glob rfl g4 (v := .int 4) ⟨_, rfl⟩) (nomark _)) (pss_one (ps_ret (pmE T (pv 0) (by decide +kernel) m4 G4 (hr.mono (by decide)) b4 (pa_cons (pe_ix ix_giv (pv 2) pe_int (fun _ _ => rfl)) (pa_cons (pe_ix ix_giv (pv 2) pe_int (fun _ _ => rfl)) pa_nil))))) pss_nil)
      (pss_one (ps_ret (pm0 T (pv 0) (by decide +kernel) m5 G5 (hr.mono (by decide)) b5)))))), ?_⟩
    have hn : n = 1 ∨ n = 2 ∨ n = 3 ∨ n = 4 ∨ n = 5 := by omega
    rcases hn with rfl | rfl | rfl | rfl | rfl
    · obtain rfl := len0 hl
      cases hc
      exact ⟨_, rfl, _, _, true, rfl, rfl, tt' (by decide), _, rfl, iteT ⟨a, _, _, rfl, hP.1, a, l, m, rfl, hP, g, hq⟩⟩
    · obtain rfl := len0 hl
      cases hc
      refine ⟨_, rfl, _, _, false, rfl, rfl, ff (by decide), _, rfl, iteF ?_⟩
      exact ⟨_, rfl, _, _, true, rfl, rfl, tt' (by decide), _, rfl, iteT ⟨a, _, _, rfl, hP.1, a, l, m, rfl, hP, g, hq⟩⟩
    · obtain ⟨z, rfl⟩ := len1 hl
      cases hc
      refine ⟨_, rfl, _, _, false, rfl, rfl, ff (by decide), _, rfl, iteF ?_⟩
      refine ⟨_, rfl, _, _, false, rfl, rfl, ff (by decide), _, rfl, iteF ?_⟩
      exact ⟨_, rfl, _, _, true, rfl, rfl, tt' (by decide), _, rfl, iteT ⟨a, _, _, rfl, hP.1, _, rfl, gv, _, 0, z, rfl, rfl, hg, rfl, a, l, m, z, rfl, hP, g, hq⟩⟩
    · obtain ⟨z, y, rfl⟩ := len2 hl
      cases hc
      refine ⟨_, rfl, _, _, false, rfl, rfl, ff (by decide), _, rfl, iteF ?_⟩
      refine ⟨_, rfl, _, _, false, rfl, rfl, ff (by decide), _, rfl, iteF ?_⟩
      refine ⟨_, rfl, _, _, false, rfl, rfl, ff (by decide), _, rfl, iteF ?_⟩
      exact ⟨_, rfl, _, _, true, rfl, rfl, tt' (by decide), _, rfl, iteT ⟨a, _, _, rfl, hP.1, _, rfl, gv, _, 0, z, rfl, rfl, hg, rfl, _, rfl, gv, _, 1, y, rfl, rfl, hg, rfl, a, l, m, z, y, rfl, hP, g, hq⟩⟩
    · obtain rfl := len0 hl
      cases hc
      refine ⟨_, rfl, _, _, false, rfl, rfl, ff (by decide), _, rfl, iteF ?_⟩
      refine ⟨_, rfl, _, _, false, rfl, rfl, ff (by decide), _, rfl, iteF ?_⟩
      refine ⟨_, rfl, _, _, false, rfl, rfl, ff (by decide), _, rfl, iteF ?_⟩
      refine ⟨_, rfl, _, _, false, rfl, rfl, ff (by decide), _, rfl, iteF ?_⟩
      exact ⟨a, _, _, rfl, hP.1, a, l, m, rfl, hP, g, hq⟩
/-! ### answer_query -/
abbrev sAq : Stmt := top 50
theorem scAq : FnScope ["process", "number"] ["process", "number"] (defScope sAq) := ⟨rfl, rfl, rfl, by decide +kernel, rfl, by decide +kernel, by decide +kernel⟩
theorem ok_aq {t1 t2 t3 t4 t5 : Tok} (F : Fun K "answer_query" "answer_query" sAq f fd) (T : Txt K mg C) (g1 : mg "AGE_DISTRIBUTION" = some (.int 8 t1)) (g2 : mg "STRENGTH" = some (.int 9 t2)) (g3 : mg "MEAN_AGE" = some (.int 10 t3)) (g4 : mg "LIMITS" = some (.int 11 t4)) (g5 : mg "STRENGTH_ABOVE_LIMIT" = some (.int 12 t5))
    (M1 : MDef P w K mg base C "age_distribution" ["self"] 1 (spQ0 C .ageDistribution)) (M2 : MDef P w K mg base C "strength" ["self"] 6 (spQ0 C .strength)) (M3 : MDef P w K mg base C "mean_age" ["self"] 6 (spQ0 C .meanAge))
    (M4 : MDef P w K mg base C "limits" ["self"] 5 (spQ0 C .limits)) (M5 : MDef P w K mg base C "strength_above_limit" ["self"] 6 (spQ0 C .strengthAboveLimit)) (M6 : MDef P w K mg base C "describe" ["self"] 1 (spQ0 C .describe)) : FnOk P w K mg base CX0 7 f fd ["process", "number"] (spAq C) := by
  obtain ⟨f1, d1, m1, b1, G1⟩ := M1
  obtain ⟨f2, d2, m2, b2, G2⟩ := M2
  obtain ⟨f3, d3, m3, b3, G3⟩ := M3
  obtain ⟨f4, d4, m4, b4, G4⟩ := M4
  obtain ⟨f5, d5, m5, b5, G5⟩ := M5
  obtain ⟨f6, d6, m6, b6, G6⟩ := M6
  refine F.ok scAq (fun vs H Q E h => ?_) (fun cdv A outer s H vs Q E hr h => ?_)
  · obtain ⟨_, _, _, _, _, rfl, _⟩ := h
    rfl
  · obtain ⟨a, l, m, n, c, rfl, n6, n18, ha, hc, hP, g, hq⟩ := h
    refine ⟨_, pss_cons (ps_if (pt_cmpR op_eqB (pv 1) (pe_glob rfl g1 (v := .int 8) ⟨_, rfl⟩) (nomark _)) (pss_one (ps_ret (pm0 T (pv 0) (by decide +kernel) m1 G1 (hr.mono (by decide)) b1))) pss_nil)
      (pss_cons (ps_if (pt_cmpR op_eqB (pv 1) (pe_glob rfl g2 (v := .int 9) ⟨_, rfl⟩) (nomark _)) (pss_one (ps_ret (pm0 T (pv 0) (by decide +kernel) m2 G2 (hr.mono (by decide)) b2))) pss_nil)
      (pss_cons (ps_if (pt_cmpR op_eqB (pv 1) (pe_glob rfl g3 (v := .int 10) ⟨_, rfl⟩) (nomark _)) (pss_one (ps_ret (pm0 T (pv 0) (by decide +kernel) m3 G3 (hr.mono (by decide)) b3))) pss_nil)
      (pss_cons (ps_if (pt_cmpR op_eqB (pv 1) (pe_glob rfl g4 (v := .int 11) ⟨_, rfl⟩) (nomark _)) (pss_one (ps_ret (pm0 T (pv 0) (by decide +kernel) m4 G4 (hr.mono (by decide)) b4))) pss_nil)
      (pss_cons (ps_if (pt_cmpR op_eqB (pv 1) (pe_glob rfl g5 (v := .int 12) ⟨_, rfl⟩) (nomark _)) (pss_one (ps_ret (pm0 T (pv 0) (by decide +kernel) m5 G5 (hr.mono (by decide)) b5))) pss_nil)
      (pss_one (ps_ret (pm0 T (pv 0) (by decide +kernel) m6 G6 (hr.mono (by decide)) b6))))))), ?_⟩
    have all : ∀ k : Nat, k < 18 → 6 ≤ k → arity.getD k 0 = 0 → k = 8 ∨ k = 9 ∨ k = 10 ∨ k = 11 ∨ k = 12 ∨ k = 17 := by decide
    rcases all n n18 n6 ha with rfl | rfl | rfl | rfl | rfl | rfl
    · cases hc
      exact ⟨_, rfl, _, _, true, rfl, rfl, tt' (by decide), _, rfl, iteT ⟨a, _, _, rfl, hP.1, a, l, m, rfl, hP, g, hq⟩⟩
    · cases hc
      refine ⟨_, rfl, _, _, false, rfl, rfl, ff (by decide), _, rfl, iteF ?_⟩
      exact ⟨_, rfl, _, _, true, rfl, rfl, tt' (by decide), _, rfl, iteT ⟨a, _, _, rfl, hP.1, a, l, m, rfl, hP, g, hq⟩⟩
    · cases hc
      refine ⟨_, rfl, _, _, false, rfl, rfl, ff (by decide), _, rfl, iteF ?_⟩
      refine ⟨_, rfl, _, _, false, rfl, rfl, ff (by decide), _, rfl, iteF ?_⟩
      exact ⟨_, rfl, _, _, true, rfl, rfl, tt' (by decide), _, rfl, iteT ⟨a, _, _, rfl, hP.1, a, l, m, rfl, hP, g, hq⟩⟩
    · cases hc
      refine ⟨_, rfl, _, _, false, rfl, rfl, ff (by decide), _, rfl, iteF ?_⟩
      refine ⟨_, rfl, _, _, false, rfl, rfl, ff (by decide), _, rfl, iteF ?_⟩
      refine ⟨_, rfl, _, _, false, rfl, rfl, ff (by decide), _, rfl, iteF ?_⟩
      exact ⟨_, rfl, _, _, true, rfl, rfl, tt' (by decide), _, rfl, iteT ⟨a, _, _, rfl, hP.1, a, l, m, rfl, hP, g, hq⟩⟩
    · cases hc
      refine ⟨_, rfl, _, _, false, rfl, rfl, ff (by decide), _, rfl, iteF ?_⟩
      refine ⟨_, rfl, _, _, false, rfl, rfl, ff (by decide), _, rfl, iteF ?_⟩
      refine ⟨_, rfl, _, _, false, rfl, rfl, ff (by decide), _, rfl, iteF ?_⟩
      refine ⟨_, rfl, _, _, false, rfl, rfl, ff (by decide), _, rfl, iteF ?_⟩
      exact ⟨_, rfl, _, _, true, rfl, rfl, tt' (by decide), _, rfl, iteT ⟨a, _, _, rfl, hP.1, a, l, m, rfl, hP, g, hq⟩⟩
    · cases hc
      refine ⟨_, rfl, _, _, false, rfl, rfl, ff (by decide), _, rfl, iteF ?_⟩
      refine ⟨_, rfl, _, _, false, rfl, rfl, ff (by decide), _, rfl, iteF ?_⟩
      refine ⟨_, rfl, _, _, false, rfl, rfl, ff (by decide), _, rfl, iteF ?_⟩
      refine ⟨_, rfl, _, _, false, rfl, rfl, ff (by decide), _, rfl, iteF ?_⟩
      refine ⟨_, rfl, _, _, false, rfl, rfl, ff (by decide), _, rfl, iteF ?_⟩
      exact ⟨a, _, _, rfl, hP.1, a, l, m, rfl, hP, g, hq⟩
/-! ### answer_query_with -/
abbrev sAw : Stmt := top 51
theorem scAw : FnScope ["process", "number", "given"] ["process", "number", "given"] (defScope sAw) := ⟨rfl, rfl, rfl, by decide +kernel, rfl, by decide +kernel, by decide +kernel⟩
theorem ok_aw {t1 t2 t3 t4 t5 : Tok} (F : Fun K "answer_query_with" "answer_query_with" sAw f fd) (T : Txt K mg C) (g1 : mg "AGE_FRACTION" = some (.int 6 t1)) (g2 : mg "OLDER_THAN" = some (.int 7 t2)) (g3 : mg "STRENGTH_AFTER" = some (.int 13 t3)) (g4 : mg "MAX_REGRIND" = some (.int 14 t4)) (g5 : mg "FIRST_WEAK_SHOT" = some (.int 15 t5))
    (M1 : MDef P w K mg base C "age_fraction" ["self", "k"] 3 (spQ1 C .ageFraction)) (M2 : MDef P w K mg base C "older_than" ["self", "k"] 5 (spQ1 C .olderThan)) (M3 : MDef P w K mg base C "strength_after" ["self", "n"] 8 (spQ1 C .strengthAfter))
    (M4 : MDef P w K mg base C "max_regrind" ["self", "num", "den"] 5 (spQ2 C .maxRegrind)) (M5 : MDef P w K mg base C "first_weak_shot" ["self", "num", "den"] 7 (spQ2 C .firstWeakShot)) (M6 : MDef P w K mg base C "strength_after_if" ["self", "regrind", "n"] 7 (spQ2 C .strengthAfterIf)) :
    FnOk P w K mg base CX0 9 f fd ["process", "number", "given"] (spAw C) := by
  obtain ⟨f1, d1, m1, b1, G1⟩ := M1
  obtain ⟨f2, d2, m2, b2, G2⟩ := M2
  obtain ⟨f3, d3, m3, b3, G3⟩ := M3
  obtain ⟨f4, d4, m4, b4, G4⟩ := M4
  obtain ⟨f5, d5, m5, b5, G5⟩ := M5
  obtain ⟨f6, d6, m6, b6, G6⟩ := M6
  refine F.ok scAw (fun vs H Q E h => ?_) (fun cdv A outer s H vs Q E hr h => ?_)
  · obtain ⟨_, _, _, _, _, _, _, rfl, _⟩ := h
    rfl
  · obtain ⟨a, l, gv, m, n, xs, c, rfl, hg, n6, n18, ha, hl, hi, hc, hP, g, hq⟩ := h
    refine ⟨_, pss_cons (ps_if (pt_cmpR op_eqB (pv 1) (pe_glob rfl g1 (v := .int 6) ⟨_, rfl⟩) (nomark _)) (pss_one (ps_ret (pmE T (pv 0) (by decide +kernel) m1 G1 (hr.mono (by decide)) b1 (pa_cons (pe_ix ix_giv (pv 2) pe_int (fun _ _ => rfl)) pa_nil)))) pss_nil)
      (pss_cons (ps_if (pt_cmpR op_eqB (pv 1) (pe_glob rfl g2 (v := .int 7) ⟨_, rfl⟩) (nomark _)) (pss_one (ps_ret (pmE T (pv 0) (by decide +kernel) m2 G2 (hr.mono (by decide)) b2 (pa_cons (pe_ix ix_giv (pv 2) pe_int (fun _ _ => rfl)) pa_nil)))) pss_nil)
      (pss_cons (ps_if (pt_cmpR op_eqB (pv 1) (pe_glob rfl g3 (v := .int 13) ⟨_, rfl⟩) (nomark _)) (pss_one (ps_ret (pmE T (pv 0) (by decide +kernel) m3 G3 (hr.mono (by decide)) b3 (pa_cons (pe_ix ix_giv (pv 2) pe_int (fun _ _ => rfl)) pa_nil)))) pss_nil)
      (pss_cons (ps_if (pt_cmpR op_eqB (pv 1) (pe_glob rfl g4 (v := .int 14) ⟨_, rfl⟩) (nomark _)) (pss_one (ps_ret (pmE T (pv 0) (by decide +kernel) m4 G4 (hr.mono (by decide)) b4 (pa_cons (pe_ix ix_giv (pv 2) pe_int (fun _ _ => rfl)) (pa_cons (pe_ix ix_giv (pv 2) pe_int (fun _ _ => rfl)) pa_nil))))) pss_nil)
      (pss_cons (ps_if (pt_cmpR op_eqB (pv 1) (pe_glob rfl g5 (v := .int 15) ⟨_, rfl⟩) (nomark _)) (pss_one (ps_ret (pmE T (pv 0) (by decide +kernel) m5 G5 (hr.mono (by decide)) b5 (pa_cons (pe_ix ix_giv (pv 2) pe_int (fun _ _ => rfl)) (pa_cons (pe_ix ix_giv (pv 2) pe_int (fun _ _ => rfl)) pa_nil))))) pss_nil)
      (pss_one (ps_ret (pmE T (pv 0) (by decide +kernel) m6 G6 (hr.mono (by decide)) b6 (pa_cons (pe_ix ix_giv (pv 2) pe_int (fun _ _ => rfl)) (pa_cons (pe_ix ix_giv (pv 2) pe_int (fun _ _ => rfl)) pa_nil))))))))), ?_⟩
    have all : ∀ k : Nat, k < 18 → 6 ≤ k → arity.getD k 0 ≠ 0 → k = 6 ∨ k = 7 ∨ k = 13 ∨ k = 14 ∨ k = 15 ∨ k = 16 := by decide
    rcases all n n18 n6 ha with rfl | rfl | rfl | rfl | rfl | rfl
    · obtain ⟨z, rfl⟩ := len1 hl
      cases hc
      have iz := hi z (by simp)
      exact ⟨_, rfl, _, _, true, rfl, rfl, tt' (by decide), _, rfl, iteT ⟨a, _, _, rfl, hP.1, _, rfl, gv, _, 0, z, rfl, rfl, hg, rfl, a, l, m, z, rfl, iz, hP, g, hq⟩⟩
    · obtain ⟨z, rfl⟩ := len1 hl
      cases hc
      have iz := hi z (by simp)
      refine ⟨_, rfl, _, _, false, rfl, rfl, ff (by decide), _, rfl, iteF ?_⟩
      exact ⟨_, rfl, _, _, true, rfl, rfl, tt' (by decide), _, rfl, iteT ⟨a, _, _, rfl, hP.1, _, rfl, gv, _, 0, z, rfl, rfl, hg, rfl, a, l, m, z, rfl, iz, hP, g, hq⟩⟩
    · obtain ⟨z, rfl⟩ := len1 hl
      cases hc
      have iz := hi z (by simp)
      refine ⟨_, rfl, _, _, false, rfl, rfl, ff (by decide), _, rfl, iteF ?_⟩
      refine ⟨_, rfl, _, _, false, rfl, rfl, ff (by decide), _, rfl, iteF ?_⟩
      exact ⟨_, rfl, _, _, true, rfl, rfl, tt' (by decide), _, rfl, iteT ⟨a, _, _, rfl, hP.1, _, rfl, gv, _, 0, z, rfl, rfl, hg, rfl, a, l, m, z, rfl, iz, hP, g, hq⟩⟩
    · obtain ⟨z, y, rfl⟩ := len2 hl
      cases hc
      have iz := hi z (by simp)
      have iy := hi y (by simp)
      refine ⟨_, rfl, _, _, false, rfl, rfl, ff (by decide), _, rfl, iteF ?_⟩
      refine ⟨_, rfl, _, _, false, rfl, rfl, ff (by decide), _, rfl, iteF ?_⟩
      refine ⟨_, rfl, _, _, false, rfl, rfl, ff (by decide), _, rfl, iteF ?_⟩
      exact ⟨_, rfl, _, _, true, rfl, rfl, tt' (by decide), _, rfl, iteT ⟨a, _, _, rfl, hP.1, _, rfl, gv, _, 0, z, rfl, rfl, hg, rfl, _, rfl, gv, _, 1, y, rfl, rfl, hg, rfl, a, l, m, z, y, rfl, iz, iy, hP, g, hq⟩⟩
    · obtain ⟨z, y, rfl⟩ := len2 hl
      cases hc
      have iz := hi z (by simp)
      have iy := hi y (by simp)
      refine ⟨_, rfl, _, _, false, rfl, rfl, ff (by decide), _, rfl, iteF ?_⟩
      refine ⟨_, rfl, _, _, false, rfl, rfl, ff (by decide), _, rfl, iteF ?_⟩
      refine ⟨_, rfl, _, _, false, rfl, rfl, ff (by decide), _, rfl, iteF ?_⟩
      refine ⟨_, rfl, _, _, false, rfl, rfl, ff (by decide), _, rfl, iteF ?_⟩
      exact ⟨_, rfl, _, _, true, rfl, rfl, tt' (by decide), _, rfl, iteT ⟨a, _, _, rfl, hP.1, _, rfl, gv, _, 0, z, rfl, rfl, hg, rfl, _, rfl, gv, _, 1, y, rfl, rfl, hg, rfl, a, l, m, z, y, rfl, iz, iy, hP, g, hq⟩⟩
    · obtain ⟨z, y, rfl⟩ := len2 hl
      cases hc
      have iz := hi z (by simp)
      have iy := hi y (by simp)
      refine ⟨_, rfl, _, _, false, rfl, rfl, ff (by decide), _, rfl, iteF ?_⟩
      refine ⟨_, rfl, _, _, false, rfl, rfl, ff (by decide), _, rfl, iteF ?_⟩
      refine ⟨_, rfl, _, _, false, rfl, rfl, ff (by decide), _, rfl, iteF ?_⟩
      refine ⟨_, rfl, _, _, false, rfl, rfl, ff (by decide), _, rfl, iteF ?_⟩
      refine ⟨_, rfl, _, _, false, rfl, rfl, ff (by decide), _, rfl, iteF ?_⟩
      exact ⟨a, _, _, rfl, hP.1, _, rfl, gv, _, 0, z, rfl, rfl, hg, rfl, _, rfl, gv, _, 1, y, rfl, rfl, hg, rfl, a, l, m, z, y, rfl, iz, iy, hP, g, hq⟩
/-! ### answer_call -/
theorem new_asks {m : Sr119.Process} {n : Nat} {xs : List Int} {c : Sr119.Call} (h6 : 6 ≤ n) (h18 : n < 18) (hl : xs.length = arity.getD n 0) (hc : pcall n xs = some c) : newOf m c = m := by
  have all : ∀ k : Nat, k < 18 → 6 ≤ k → k = 6 ∨ k = 7 ∨ k = 8 ∨ k = 9 ∨ k = 10 ∨ k = 11 ∨ k = 12 ∨ k = 13 ∨ k = 14 ∨ k = 15 ∨ k = 16 ∨ k = 17 := by omega
  rcases all n h18 h6 with rfl | rfl | rfl | rfl | rfl | rfl | rfl | rfl | rfl | rfl | rfl | rfl
  · obtain ⟨z, rfl⟩ := len1 hl
    cases hc
    rfl
  · obtain ⟨z, rfl⟩ := len1 hl
    cases hc
    rfl
  · obtain rfl := len0 hl
    cases hc
    rfl
  · obtain rfl := len0 hl
    cases hc
    rfl
  · obtain rfl := len0 hl
    cases hc
    rfl
  · obtain rfl := len0 hl
    cases hc
    rfl
  · obtain rfl := len0 hl
    cases hc
    rfl
  · obtain ⟨z, rfl⟩ := len1 hl
    cases hc
    rfl
  · obtain ⟨z, y, rfl⟩ := len2 hl
    cases hc
    rfl
  · obtain ⟨z, y, rfl⟩ := len2 hl
    cases hc
    rfl
  · obtain ⟨z, y, rfl⟩ := len2 hl
    cases hc
    rfl
  · obtain rfl := len0 hl
    cases hc
    rfl
abbrev sAc : Stmt := top 52
theorem scAc : FnScope ["process", "number", "given"] ["process", "number", "given"] (defScope sAc) := ⟨rfl, rfl, rfl, by decide +kernel, rfl, by decide +kernel, by decide +kernel⟩
theorem ok_ac {t1 t2 : Tok} (F : Fun K "answer_call" "answer_call" sAc f fd) (T : Txt K mg C) (glen : mg "len" = none) (g1 : mg "NO_INSTANCE" = some (.int (-11) t1)) (g2 : mg "RESET" = some (.int 5 t2))
    (D1 : Def P w K mg base "answer_change" ["process", "number", "given"] 8 (spCh C)) (D2 : Def P w K mg base "answer_query" ["process", "number"] 7 (spAq C)) (D3 : Def P w K mg base "answer_query_with" ["process", "number", "given"] 9 (spAw C)) :
    FnOk P w K mg base CX0 10 f fd ["process", "number", "given"] (spAc C) := by
  obtain ⟨f1, d1, m1, k1, b1, G1⟩ := D1
  obtain ⟨f2, d2, m2, k2, b2, G2⟩ := D2
  obtain ⟨f3, d3, m3, k3, b3, G3⟩ := D3
  refine F.ok scAc (fun vs H Q E h => ?_) (fun cdv A outer s H vs Q E hr h => ?_)
  · obtain ⟨_, _, _, _, _, rfl, _⟩ := h
    rfl
  · obtain ⟨x, gv, n, xs, c, rfl, hg, n1, n18, hl, hi, hc, hq⟩ := h
    refine ⟨_, pss_cons (ps_if (pt_cmpR op_none (pv 0) pe_non (nomark _)) (pss_one (ps_ret (pe_lst (pa_cons (pe_glob rfl g1 (v := .int (-11)) ⟨_, rfl⟩) pa_nil)))) pss_nil)
      (pss_cons (ps_if (pt_cmpR op_leB (pv 1) (pe_glob rfl g2 (v := .int 5) ⟨_, rfl⟩) (nomark _)) (pss_one (ps_ret (pe_call G1 (hr.mono (by decide)) rfl m1 k1 b1 .nil pass0 (pa_cons (pv 0) (pa_cons (pv 1) (pa_cons (pv 2) pa_nil)))))) pss_nil)
      (pss_cons (ps_if (pt_cmpR op_eqB (pe_callB call_len_seq (by rfl) glen PySem.boot_len (pa_cons (pv 2) pa_nil)) pe_int (nomark _)) (pss_one (ps_ret (pe_call G2 (hr.mono (by decide)) rfl m2 k2 b2 .nil pass0 (pa_cons (pv 0) (pa_cons (pv 1) pa_nil))))) pss_nil)
      (pss_one (ps_ret (pe_call G3 hr rfl m3 k3 b3 .nil pass0 (pa_cons (pv 0) (pa_cons (pv 1) (pa_cons (pv 2) pa_nil)))))))), ?_⟩
    rcases hq with ⟨rfl, hq⟩ | ⟨a, l, m, rfl, hP, g, hq⟩
    · exact ⟨_, rfl, true, rfl, tt' rfl, _, rfl, iteT ⟨one1000, fun p hp => hq.put p hp⟩⟩
    · refine ⟨_, rfl, false, rfl, ff (by intro z; cases z), _, rfl, iteF ?_⟩
      by_cases h5 : n ≤ 5
      · exact ⟨_, rfl, _, _, true, rfl, rfl, tt' (by omega), _, rfl, iteT ⟨_, rfl, _, rfl, _, rfl, a, l, gv, m, n, xs, c, rfl, hg, n1, h5, hl, hc, hP, g, hq⟩⟩
      · refine ⟨_, rfl, _, _, false, rfl, rfl, ff (by omega), _, rfl, iteF ?_⟩
        have e := new_asks (m := m) (by omega) n18 hl hc
        have ht : Told H (outOf m c) Q := fun p H' s np e2 => hq p l H' (But.of s) (by rw [e]; exact hP.same s) (.inl rfl) np e2
        have zl : (zsV xs).length = xs.length := List.length_map ..
        by_cases h0 : xs.length = 0
        · refine ⟨_, rfl, gv, _, rfl, .inl (SqL.of hg), _, _, true, rfl, rfl, tt' (by rw [zl, h0]; rfl), _, rfl, iteT ?_⟩
          obtain rfl := len0 h0
          exact ⟨_, rfl, _, rfl, a, l, m, n, c, rfl, by omega, n18, hl.symm, hc, hP, g, ht⟩
        · refine ⟨_, rfl, gv, _, rfl, .inl (SqL.of hg), _, _, false, rfl, rfl, ff (by rw [zl]; omega), _, rfl, iteF ?_⟩
          exact ⟨_, rfl, _, rfl, _, rfl, a, l, gv, m, n, xs, c, rfl, hg, by omega, n18, by rw [← hl]; exact h0, hl, hi, hc, hP, g, ht⟩
end
end Rg
set_option Elab.async false
set_option linter.all false
set_option maxRecDepth 100000
set_option maxHeartbeats 4000000
set_option exponentiation.threshold 10000
namespace Rg
open PySem PySem.Spec PyProof.Rows L2
open SrFraction (Fraction ofInt)
/-! ### the walk over the calls, without Python -/
theorem create_ok {st : Sr119.State} {r p k q : Int} (h : setOk r p k q = true) : Sr119Neutral.step st [[0, r, p, k, q]] = (some ⟨r.toNat, p.toNat, k.toNat, q.toNat, 0, []⟩, [0]) ∧ Good ⟨r.toNat, p.toNat, k.toNat, q.toNat, 0, []⟩ := by
  unfold setOk at h
  rw [Bool.and_eq_true, Bool.and_eq_true] at h
  obtain ⟨h1, h2, h3⟩ := h
  refine ⟨?_, Good.fresh h1 h2 h3⟩
  show ((Sr119.step st (.create r p k q)).1, (Sr119.step st (.create r p k q)).2.code :: (Sr119.step st (.create r p k q)).2.values) = _
  have e : Sr119.step st (.create r p k q) = (some ⟨r.toNat, p.toNat, k.toNat, q.toNat, 0, []⟩, .ofCode 0) := by
    unfold Sr119.step
    simp only [h1, show Sr119.isRegrind p r = true from h2, h3, Bool.true_eq_false, or_self, if_false]
  rw [e]
  rfl
theorem create_no {st : Sr119.State} {r p k q : Int} (h : setOk r p k q = false) : Sr119Neutral.step st [[0, r, p, k, q]] = (st, [-22]) := by
  show ((Sr119.step st (.create r p k q)).1, (Sr119.step st (.create r p k q)).2.code :: (Sr119.step st (.create r p k q)).2.values) = _
  have e : Sr119.step st (.create r p k q) = (st, .ofCode (-22)) := by
    unfold Sr119.step
    have h2 : SrCommon.inRange p 1 20 = false ∨ Sr119.isRegrind p r = false ∨ Sr119.isRetention k q = false := by
      unfold setOk at h
      cases a : SrCommon.inRange p 1 20 with
      | false => exact .inl rfl
      | true =>
        cases b : Sr119.isRegrind p r with
        | false => exact .inr (.inl rfl)
        | true =>
          cases c : Sr119.isRetention k q with
          | false => exact .inr (.inr rfl)
          | true =>
            rw [a, c, show regOk r p = true from b] at h
            cases h
    simp only [h2, if_true]
    rfl
  rw [e]
  rfl
theorem told_cons (o : List Int) (r : List (List Int)) : PyFlat.told (o :: r) = (o.length : Int) :: o ++ PyFlat.told r := by
  unfold PyFlat.told
  rw [List.flatMap_cons]
theorem cut_take {xs : List V} {i j : Nat} (h : i ≤ j) (hj : j ≤ xs.length) : L2.cutV xs (some ((i : Nat) : Int)) (some ((j : Nat) : Int)) = (xs.drop i).take (j - i) := by
  unfold L2.cutV
  rw [HT.sIx_nat, HT.sIx_nat, Nat.min_eq_left hj, Nat.min_eq_left (show i ≤ xs.length by omega)]
/-- what stands between two turns: at numbers are read, out is told, st is the process -/
structure Sofar (ns : List Int) (i : Nat) (out : List Int) (st : Sr119.State) : Prop where
  le : i ≤ ns.length
  rest : ∃ f cs, PyFlat.calls PySr119.shape f (ns.drop i) = some cs ∧ out ++ PyFlat.told (PyFlat.played Sr119Neutral.step st cs) = PySr119.answers ns
theorem Sofar.start {ns : List Int} (h : PySr119.answers_asked ns = true) : Sofar ns 0 [] none := by
  obtain ⟨cs, h1, _⟩ := asked_some h
  exact ⟨Nat.zero_le _, _, cs, h1, (answers_eq h1).symm⟩
theorem Sofar.stop {ns : List Int} {i : Nat} {out : List Int} {st : Sr119.State} (h : Sofar ns i out st) (e : ¬ i < ns.length) : out = PySr119.answers ns := by
  obtain ⟨f, cs, h1, h2⟩ := h.rest
  rw [List.drop_eq_nil_of_le (by omega)] at h1
  rw [calls_nil h1] at h2
  rw [← h2]
  show out = out ++ []
  rw [List.append_nil]
theorem Sofar.turn {ns : List Int} {i : Nat} {out : List Int} {st : Sr119.State} (h : Sofar ns i out st) (hi : i < ns.length) : ∃ n : Nat, ns[i]? = some (n : Int) ∧ n < 18 ∧ i + 1 + arity.getD n 0 ≤ ns.length ∧
    ((ns.drop (i + 1)).take (arity.getD n 0)).length = arity.getD n 0 ∧
    ∀ st' o, Sr119Neutral.step st [(n : Int) :: (ns.drop (i + 1)).take (arity.getD n 0)] = (st', o) → Sofar ns (i + 1 + arity.getD n 0) (out ++ [(o.length : Int)] ++ o) st' ∧ (out ++ [(o.length : Int)] ++ o).length ≤ (PySr119.answers ns).length := by
  obtain ⟨f, cs, h1, h2⟩ := h.rest
  rw [List.drop_eq_getElem_cons hi] at h1
  obtain ⟨n, f', cs', e1, e2, e3, rfl, e5⟩ := calls_cons h1
  rw [List.length_drop] at e3
  refine ⟨n, by rw [List.getElem?_eq_getElem hi, e1], e2, by omega, by rw [List.length_take, List.length_drop]; omega, fun st' o hs => ?_⟩
  have e6 : out ++ [(o.length : Int)] ++ o ++ PyFlat.told (PyFlat.played Sr119Neutral.step st' cs') = PySr119.answers ns := by
    have e7 : ∀ c, PyFlat.played Sr119Neutral.step st (c :: cs') = (Sr119Neutral.step st c).2 :: PyFlat.played Sr119Neutral.step (Sr119Neutral.step st c).1 cs' := fun _ => rfl
    rw [e7, e1, hs, told_cons] at h2
    rw [← h2]
    simp only [List.append_assoc, List.cons_append, List.nil_append]
  refine ⟨⟨by omega, f', cs', ?_, e6⟩, ?_⟩
  · rw [List.drop_drop] at e5
    exact e5
  · have e8 := congrArg List.length e6
    rw [List.length_append] at e8
    omega
end Rg
set_option Elab.async false
set_option linter.all false
set_option maxRecDepth 100000
set_option maxHeartbeats 4000000
set_option exponentiation.threshold 10000
namespace Rg
open PySem PySem.Spec PyProof.Rows L2
open SrFraction (Fraction ofInt)
theorem Lst.told {H : Hp} {t l : Addr} {xs ys : List V} {fs : List Fraction} (ht : H t = some (.lst xs)) (n : l ≠ t) (h : Lst H l fs) : Lst (upd H t (.lst ys)) l fs := by
  obtain ⟨vs, h1, h2⟩ := h
  exact ⟨vs, by rw [upd_ne n]; exact h1, h2.put ht⟩
/-- what the name process holds: H is the heap at the start, t the list of what is told -/
def StAt (C : Addr) (H H' : Hp) (t : Addr) (st : Sr119.State) (x : V) : Prop := match st with
  | none => x = .non
  | some m => ∃ a l, x = .ref a ∧ H a = none ∧ l ≠ t ∧ PAt C H' a l m ∧ Good m
theorem StAt.same {C : Addr} {H H1 H2 : Hp} {t : Addr} {st : Sr119.State} {x : V} (h : StAt C H H1 t st x) (s : Same H1 H2) : StAt C H H2 t st x := by
  cases st with
  | none => exact h
  | some m =>
    obtain ⟨a, l, e, n, nl, hP, g⟩ := h
    exact ⟨a, l, e, n, nl, hP.same s, g⟩
theorem StAt.told {C : Addr} {H H1 : Hp} {t : Addr} {st : Sr119.State} {x : V} {xs ys : List V} (h : StAt C H H1 t st x) (ht : H1 t = some (.lst xs)) : StAt C H (upd H1 t (.lst ys)) t st x := by
  cases st with
  | none => exact h
  | some m =>
    obtain ⟨a, l, e, n, nl, ⟨⟨dx, h1⟩, h2⟩, g⟩ := h
    exact ⟨a, l, e, n, nl, ⟨⟨dx, by rw [upd_ne (ne_of h1 ht (by intro z; cases z))]; exact h1⟩, h2.told ht nl⟩, g⟩
/-- told.append(len(answer)); told.extend(answer) -/
def tEnd : TS := fun D σ H => ∃ (t p : Addr) (out o : List Int), σ[1]? = some (some (.ref t)) ∧ σ[7]? = some (some (.ref p)) ∧ H t = some (.lst (zsV out)) ∧ H p = some (.lst (zsV o)) ∧ p ≠ t ∧ (out ++ [(o.length : Int)] ++ o).length ≤ 10000000 ∧
  D.nx σ (upd H t (.lst (zsV (out ++ [(o.length : Int)] ++ o))))
theorem pss_imp {X : Cx} {b : List Stmt} {t t' : TS} (h : PSs X b t) (i : ∀ D σ H, t' D σ H → t D σ H) : PSs X b t' := ⟨fun pins s σ H D I q => h.run pins s σ H D I (i D σ H q)⟩
theorem ten7 {n : Nat} (h : n ≤ 10000000) : n ≤ sizeLine := Nat.le_trans h (by decide)
def anM (k : Nat) (σ : L2.St) : Nat := match σ with
  | [_, _, _, some (V.int z), _, _, _, _] => k - z.toNat
  | _ => 0
def spAns (K : PySem.W.Frag) : Sp := fun vs H Q _ => ∃ (a : Addr) (ns : List Int), vs = [.ref a] ∧ SqL K H a (zsV ns) ∧ PySr119.answers_asked ns = true ∧ (∀ z ∈ ns, I32 z) ∧ ∀ (H' : Hp) (p : Addr), H' p = some (.lst (zsV (PySr119.answers ns))) → Q (.ref p) H'
section
variable {P : Program} {w : World} {K : PySem.W.Frag} {mg : Str → Option Value} {base : Heap} {f : Addr} {fd : FuncData} {C : Addr}
abbrev sAns : Stmt := top 53
abbrev nAns : List Str := ["calls", "told", "process", "at", "number", "behind", "given", "answer"]
theorem scAns : FnScope nAns ["calls"] (defScope sAns) := ⟨rfl, rfl, rfl, by decide +kernel, rfl, by decide +kernel, by decide +kernel⟩
theorem ok_ans {t1 t2 : Tok} {aC fI : Addr} {dI : FuncData} (F : Fun K "answers" "answers" sAns f fd) (T : Txt K mg C) (glen : mg "len" = none) (gC : mg "CREATE" = some (.int 0 t1)) (gO : mg "OUT_OF_RANGE" = some (.int (-22) t2)) (gA : mg "ARGUMENT_COUNTS" = some (.ref aC))
    (hA : ∀ H : Hp, SqT K H aC (arity.map fun n => V.int (n : Nat))) (gP : mg "Process" = some (.ref C)) (M : Mk K C fI) (bI : Binds K dI ["self", "regrind", "parts", "kept", "kept_of"] []) (GI : FnOk P w K mg base CX0 1 fI dI ["self", "regrind", "parts", "kept", "kept_of"] (spInit C))
    (D1 : Def P w K mg base "answer_call" ["process", "number", "given"] 10 (spAc C)) (D2 : Def P w K mg base "settings_allowed" ["regrind", "parts", "kept", "kept_of"] 2 (spBool4 setOk)) : FnOk P w K mg base CX0 11 f fd ["calls"] (spAns K) := by
  obtain ⟨f1, d1, m1, k1, b1, G1⟩ := D1
  obtain ⟨f2, d2, m2, k2, b2, G2⟩ := D2
  refine F.ok scAns (fun vs H Q E h => ?_) (fun cdv A outer s H vs Q E hr h => ?_)
  · obtain ⟨_, _, rfl, _⟩ := h
    rfl
  · obtain ⟨a, ns, rfl, hS, hask, hi, hq⟩ := h
    refine ⟨_, pss_cons (ps_set (i := 1) scAns.nd rfl (.inl rfl) (pe_lst pa_nil)) (pss_cons (ps_set (i := 2) scAns.nd rfl (.inl rfl) pe_non) (pss_cons (ps_set (i := 3) scAns.nd rfl (.inl rfl) pe_int)
      (pss_cons (ps_while PassesOwn.never (pt_cmpR op_ltB (pv 3) (pe_callB call_len_seq (by rfl) glen PySem.boot_len (pa_cons (pv 0) pa_nil)) (nomark _))
        (pss_cons (ps_set (i := 4) scAns.nd rfl (.inl rfl) (pe_ix ix_list (pv 0) (pv 3) (fun _ _ => rfl)))
        (pss_cons (ps_set (i := 5) scAns.nd rfl (.inl rfl) (pe_op op_addZ (pe_op op_addZ (pv 3) pe_int) (pe_ix ix_tup (pe_glob rfl gA (v := .ref aC) rfl) (pv 4) (fun _ _ => rfl))))
        (pss_cons (ps_set (i := 6) scAns.nd rfl (.inl rfl) (pe_slice sl_list (pv 0) (po_some (pe_op op_addZ (pv 3) pe_int)) (po_some (pv 5))))
        (pss_cons (ps_set (i := 3) scAns.nd rfl (.inl rfl) (pv 5))
        (pss_cons (ps_if (pt_cmpR op_neB (pv 4) (pe_glob rfl gC (v := .int 0) ⟨_, rfl⟩) (nomark _))
          (pss_one (ps_set (i := 7) scAns.nd rfl (.inl rfl) (pe_call G1 hr rfl m1 k1 b1 .nil pass0 (pa_cons (pv 2) (pa_cons (pv 4) (pa_cons (pv 6) pa_nil))))))
          (pss_one (ps_if (pt_val (pe_call G2 (hr.mono (by decide)) rfl m2 k2 b2 .nil pass0 (pa_cons (pe_ix ix_giv (pv 6) pe_int (fun _ _ => rfl)) (pa_cons (pe_ix ix_giv (pv 6) pe_int (fun _ _ => rfl)) (pa_cons (pe_ix ix_giv (pv 6) pe_int (fun _ _ => rfl)) (pa_cons (pe_ix ix_giv (pv 6) pe_int (fun _ _ => rfl)) pa_nil))))))
            (pss_cons (ps_set (i := 2) scAns.nd rfl (.inl rfl) (pe_make M GI (hr.mono (by decide)) rfl gP bI .nil pass0 (pa_cons (pe_ix ix_giv (pv 6) pe_int (fun _ _ => rfl)) (pa_cons (pe_ix ix_giv (pv 6) pe_int (fun _ _ => rfl)) (pa_cons (pe_ix ix_giv (pv 6) pe_int (fun _ _ => rfl)) (pa_cons (pe_ix ix_giv (pv 6) pe_int (fun _ _ => rfl)) pa_nil))))))
            (pss_one (ps_set (i := 7) scAns.nd rfl (.inl rfl) (pe_lst (pa_cons pe_int pa_nil)))))
            (pss_one (ps_set (i := 7) scAns.nd rfl (.inl rfl) (pe_lst (pa_cons (pe_glob rfl gO (v := .int (-22)) ⟨_, rfl⟩) pa_nil)))))))
        (pss_imp (t' := tEnd) (pss_cons (ps_expr (pe_bm PySem.F.plainAttrs_list PySem.F.slot_list_append PySem.F.type_list_append mt_append (pv 1) (pa_cons (pe_callB call_len_seq (by rfl) glen PySem.boot_len (pa_cons (pv 7) pa_nil)) pa_nil)))
          (pss_one (ps_expr (pe_bm PySem.F.plainAttrs_list PySem.F.slot_list_extend PySem.F.type_list_extend mt_extend (pv 1) (pa_cons (pv 7) pa_nil))))) (by
            rintro D σ H1 ⟨t, p, out, o, h1, h7, ht, hp, np, hz, q⟩
            have zl : (zsV o).length = o.length := List.length_map ..
            have zo : (zsV out).length = out.length := List.length_map ..
            rw [List.length_append, List.length_append] at hz
            have hz2 : out.length + 1 + o.length ≤ 10000000 := hz
            refine ⟨_, h1, .inl ⟨rfl, _, SqL.of ht⟩, _, h7, p, _, rfl, .inl (SqL.of hp), t, _, _, rfl, rfl, ht, Nat.lt_of_le_of_lt (show _ ≤ 10000000 by omega) (by decide), ?_⟩
            refine ⟨_, h1, .inl ⟨rfl, _, SqL.of upd_same⟩, _, h7, t, p, _, _, rfl, rfl, upd_same, by rw [upd_ne np]; exact hp, ten7 (by rw [List.length_append]; show _ + 1 + _ ≤ _; omega), ?_⟩
            rw [upd_upd]
            have e : zsV out ++ [V.int ((zsV o).length : Int)] ++ zsV o = zsV (out ++ [(o.length : Int)] ++ o) := by
              rw [zl]
              simp [zsV]
            rw [e]
            exact q))))))))
      (pss_one (ps_ret (pv 1)))))), ?_⟩
    refine ⟨Nat.zero_le _, fun t ht0 => ?_⟩
    have zn : (zsV ns).length = ns.length := List.length_map ..
    obtain ⟨_, _, hbig⟩ := asked_some hask
    refine while_by (fun σ H' => ∃ (i : Nat) (out : List Int) (st : Sr119.State) (x : V) (v4 v5 v6 v7 : Option V), σ = [some (.ref a), some (.ref t), some x, some (.int i), v4, v5, v6, v7] ∧ Same H H' ∧ H' t = some (.lst (zsV out)) ∧ StAt C H H' t st x ∧ Sofar ns i out st)
      (fun σ _ => anM ns.length σ) ⟨0, [], none, .non, none, none, none, none, rfl, Same.new ht0, upd_same, rfl, Sofar.start hask⟩ ?_ ?_
    · rintro σ H1 ⟨i, out, st, x, v4, v5, v6, v7, rfl, s1, hT, hX, hF⟩
      have hS1 := s1.seq hS
      by_cases hlt : i < ns.length
      · refine ⟨_, rfl, _, rfl, a, _, rfl, .inl hS1, _, _, true, rfl, rfl, tt' (by rw [zn]; omega), _, rfl, iteT ?_⟩
        obtain ⟨n, hn, n18, hle, hlen, hstep⟩ := hF.turn hlt
        have hk : (arity.map fun n => V.int (n : Nat))[n]? = some (V.int (arity.getD n 0 : Nat)) := by
          have all : ∀ k : Nat, k < 18 → arity[k]? = some (arity.getD k 0) := by decide
          rw [List.getElem?_map, all n n18]
          rfl
        refine ⟨_, rfl, _, rfl, a, _, (i : Int), .int n, rfl, rfl, hS1, at_of (j := i) rfl (by rw [List.getElem?_map, hn]; rfl), ?_⟩
        refine ⟨_, rfl, _, _, ((i + 1 : Nat) : Int), rfl, rfl, trivial, rfl, _, rfl, aC, _, (n : Int), _, rfl, rfl, hA H1, at_of (j := n) rfl hk, _, _, ((i + 1 + arity.getD n 0 : Nat) : Int), rfl, rfl, trivial, Int.natCast_add _ _, ?_⟩
        refine ⟨_, rfl, _, rfl, _, _, ((i + 1 : Nat) : Int), rfl, rfl, trivial, rfl, _, rfl, _, rfl, _, rfl, a, _, rfl, hS1, fun gl hgl => ?_⟩
        rw [cut_take (by omega) (by rw [zn]; omega), show i + 1 + arity.getD n 0 - (i + 1) = arity.getD n 0 by omega, show (List.drop (i + 1) (zsV ns)).take (arity.getD n 0) = zsV ((ns.drop (i + 1)).take (arity.getD n 0)) by simp [zsV]]
        generalize hxs : (ns.drop (i + 1)).take (arity.getD n 0) = xs at *
        have hxi : ∀ z ∈ xs, I32 z := fun z hz => hi z (by
          rw [← hxs] at hz
          exact List.mem_of_mem_drop (List.mem_of_mem_take hz))
        have s2 : Same H1 (upd H1 gl (.lst (zsV xs))) := Same.new hgl
        have hT2 := s2 _ _ hT
        have hX2 := hX.same s2
        have hG : upd H1 gl (.lst (zsV xs)) gl = some (.lst (zsV xs)) := upd_same
        generalize upd H1 gl (.lst (zsV xs)) = H2 at *
        have s02 := s1.trans s2
        have key : ∀ (st' : Sr119.State) (o : List Int) (x' : V) (p : Addr) (H3 : Hp), Sr119Neutral.step st [(n : Int) :: xs] = (st', o) → Same H H3 → H3 t = some (.lst (zsV out)) → StAt C H H3 t st' x' → H3 p = some (.lst (zsV o)) → p ≠ t →
            tEnd { nx := fun σ' H' => (∃ (i : Nat) (out : List Int) (st : Sr119.State) (x : V) (v4 v5 v6 v7 : Option V), σ' = [some (.ref a), some (.ref t), some x, some (.int i), v4, v5, v6, v7] ∧ Same H H' ∧ H' t = some (.lst (zsV out)) ∧ StAt C H H' t st x ∧ Sofar ns i out st) ∧
                anM ns.length σ' < anM ns.length [some (.ref a), some (.ref t), some x, some (.int i), v4, v5, v6, v7], rt := Q }
              [some (.ref a), some (.ref t), some x', some (.int ((i + 1 + arity.getD n 0 : Nat) : Int)), some (.int n), some (.int ((i + 1 + arity.getD n 0 : Nat) : Int)), some (.ref gl), some (.ref p)] H3 := by
          intro st' o x' p H3 hs s3 ht3 hx3 hp3 np
          obtain ⟨hF3, hb3⟩ := hstep st' o hs
          refine ⟨t, p, out, o, rfl, rfl, ht3, hp3, np, Nat.le_trans hb3 hbig, ⟨i + 1 + arity.getD n 0, _, st', x', _, _, _, _, rfl, same_put ht0 s3, upd_same, hx3.told ht3, hF3⟩, ?_⟩
          show ns.length - (((i + 1 + arity.getD n 0 : Nat) : Int)).toNat < ns.length - ((i : Int)).toNat
          omega
        refine ⟨_, rfl, ?_⟩
        by_cases h0 : n = 0
        · subst h0
          obtain ⟨r, p, k, q, rfl⟩ := len4 hlen
          refine ⟨_, rfl, _, _, false, rfl, rfl, ff (by decide), _, rfl, iteF ?_⟩
          refine ⟨_, rfl, gl, _, 0, r, rfl, rfl, hG, rfl, _, rfl, gl, _, 1, p, rfl, rfl, hG, rfl, _, rfl, gl, _, 2, k, rfl, rfl, hG, rfl, _, rfl, gl, _, 3, q, rfl, rfl, hG, rfl, r, p, k, q, rfl, _, rfl, ?_⟩
          cases hs : setOk r p k q with
          | false =>
            refine iteF ⟨one1000, fun p' hp' => ?_⟩
            exact key st [-22] x p' _ (create_no hs) (s02.trans (Same.new hp')) (Same.new hp' _ _ hT2) (hX2.same (Same.new hp')) upd_same (ne_of_none hT2 hp').symm
          | true =>
            obtain ⟨hst, hgood⟩ := create_ok (st := st) hs
            have hs' := hs
            unfold setOk at hs'
            rw [Bool.and_eq_true, Bool.and_eq_true] at hs'
            have i1 := reg_iff hs'.2.1
            have i2 := ret_iff hs'.2.2
            have er : V.int r = V.int (r.toNat : Int) := by rw [Int.toNat_of_nonneg (by omega)]
            have ep : V.int p = V.int (p.toNat : Int) := by rw [Int.toNat_of_nonneg (by omega)]
            have ek : V.int k = V.int (k.toNat : Int) := by rw [Int.toNat_of_nonneg (by omega)]
            have eq' : V.int q = V.int (q.toNat : Int) := by rw [Int.toNat_of_nonneg (by omega)]
            refine iteT ⟨_, rfl, gl, _, 0, r, rfl, rfl, hG, rfl, _, rfl, gl, _, 1, p, rfl, rfl, hG, rfl, _, rfl, gl, _, 2, k, rfl, rfl, hG, rfl, _, rfl, gl, _, 3, q, rfl, rfl, hG, rfl, fun y dx hy hdx ne => ?_⟩
            refine ⟨y, dx, r.toNat, p.toNat, k.toNat, q.toNat, by rw [er, ep, ek, eq']; rfl, upd_same, fun H4 l bt hPA nl hl => ⟨rfl, ?_⟩⟩
            have back : ∀ b o, H2 b = some o → (upd (upd H2 dx (.own y)) y (.ins C dx [])) b = some o := fun b o e => by
              rw [upd_ne (ne_of_none e hy), upd_ne (ne_of_none e hdx)]
              exact e
            have s4 : Same H2 H4 := fun b o e => bt b o (back b o e) (ne_of_none e hy)
            refine ⟨one1000, fun p' hp' => ?_⟩
            have s5 : Same H4 (upd H4 p' (.lst (zsV [0]))) := Same.new hp'
            exact key _ [0] (.ref y) p' _ hst ((s02.trans s4).trans s5) (s5 _ _ (s4 _ _ hT2)) ⟨y, l, rfl, s02.free hy, (ne_of_none (back _ _ hT2) hl).symm, hPA.same s5, hgood⟩ upd_same (ne_of_none (s4 _ _ hT2) hp').symm
        · obtain ⟨c, hc, hpl⟩ := parse_all n18 hlen
          refine ⟨_, rfl, _, _, true, rfl, rfl, tt' (by omega), _, rfl, iteT ?_⟩
          refine ⟨_, rfl, _, rfl, _, rfl, x, gl, n, xs, c, rfl, hG, by omega, n18, hlen, hxi, hc, ?_⟩
          cases st with
          | none =>
            exact .inl ⟨hX2, fun p' H4 s4 np e => key none [-11] x p' H4 (step_none hc (hpl h0)) (s02.trans s4) (s4 _ _ hT2) hX2 e (ne_of_none hT2 np).symm⟩
          | some m =>
            obtain ⟨a', l, rfl, na, nl, hP, g⟩ := hX2
            refine .inr ⟨a', l, m, rfl, hP, g, fun p' l' H4 b4 hP4 hN np e => ?_⟩
            have nta : t ≠ a' := by
              obtain ⟨⟨dx, h1⟩, _⟩ := hP
              exact ne_of hT2 h1 (by intro z; cases z)
            have nl' : l' ≠ t := by
              rcases hN with rfl | h
              · exact nl
              · exact (ne_of_none hT2 h).symm
            exact key _ _ (.ref a') p' H4 (step_some hc (hpl h0)) (fun b o z => b4 b o (s02 b o z) (ne_of_none z na)) (b4 _ _ hT2 nta) ⟨a', l', rfl, na, nl', hP4, g.new c⟩ e (ne_of_none hT2 np).symm
      · refine ⟨_, rfl, _, rfl, a, _, rfl, .inl hS1, _, _, false, rfl, rfl, ff (by rw [zn]; omega), _, rfl, iteF ?_⟩
        rw [hF.stop hlt] at hT
        exact ⟨_, rfl, hq H1 t hT⟩
    · rintro σ H' Q' Q'' hi' ⟨v, h1, v2, h2, p, ys, h3, h4, i, j, c, h5, h6, h7, k, h8, h9⟩
      exact ⟨v, h1, v2, h2, p, ys, h3, h4, i, j, c, h5, h6, h7, k, h8, hi' _ _ h9⟩
end
end Rg
set_option Elab.async false
set_option linter.all false
set_option maxRecDepth 100000
set_option maxHeartbeats 0
namespace Rg
open PySem PySem.Spec PyProof.Rows L2
/-! ### what the top leaves, by names -/
def fnc (x : Str) (i : Nat) : He.FnD := ⟨(x, none), x, x, defArgs (top i), defBody (top i), defScope (top i)⟩
def mth (x q : Str) (j : Nat) : He.FnD := ⟨("Process", some x), x, q, defArgs (inClass (top 29) j), defBody (inClass (top 29) j), defScope (inClass (top 29) j)⟩
def fnA : List He.FnD := [fnc "common_divisor" 1, fnc "reduced" 2, fnc "plus" 3, fnc "minus" 4, fnc "times" 5, fnc "less" 6, fnc "total_of" 7, fnc "next_ages" 9, fnc "ages_after" 10, fnc "strength_of" 11, fnc "mean_age_of" 12, fnc "strength_limit_of" 13, fnc "mean_age_limit_of" 14, fnc "regrind_allowed" 23, fnc "retention_allowed" 24, fnc "settings_allowed" 25, fnc "threshold_allowed" 26, fnc "shots_allowed" 27, fnc "fraction_answer" 28, fnc "answer_change" 49, fnc "answer_query" 50, fnc "answer_query_with" 51, fnc "answer_call" 52, fnc "answers" 53]
def fnB : List He.FnD := [mth "__init__" "Process.__init__" 0, mth "make_shot" "Process.make_shot" 1, mth "make_virgin_shot" "Process.make_virgin_shot" 2, mth "add_shot" "Process.add_shot" 3, mth "set_regrind" "Process.set_regrind" 4, mth "set_retention" "Process.set_retention" 5, mth "reset" "Process.reset" 6, mth "age_fraction" "Process.age_fraction" 7, mth "older_than" "Process.older_than" 8, mth "age_distribution" "Process.age_distribution" 9, mth "strength_now" "Process.strength_now" 10, mth "limit_with" "Process.limit_with" 11, mth "strength_from_start" "Process.strength_from_start" 12, mth "strength" "Process.strength" 13, mth "mean_age" "Process.mean_age" 14, mth "limits" "Process.limits" 15, mth "strength_above_limit" "Process.strength_above_limit" 16, mth "strength_after" "Process.strength_after" 17, mth "max_regrind" "Process.max_regrind" 18, mth "first_weak_shot" "Process.first_weak_shot" 19, mth "strength_after_if" "Process.strength_after_if" 20, mth "describe" "Process.describe" 21]
def fn : List He.FnD := fnA ++ fnB
def faA : List He.Fa := [.glo "common_divisor", .glo "reduced", .glo "plus", .glo "minus", .glo "times", .glo "less", .glo "total_of", .glo "next_ages", .glo "ages_after", .glo "strength_of", .glo "mean_age_of", .glo "strength_limit_of", .glo "mean_age_limit_of", .glo "regrind_allowed", .glo "retention_allowed", .glo "settings_allowed", .glo "threshold_allowed", .glo "shots_allowed", .glo "fraction_answer", .glo "answer_change", .glo "answer_query", .glo "answer_query_with", .glo "answer_call", .glo "answers"]
def faB : List He.Fa := [.keep "common_divisor", .keep "reduced", .keep "plus", .keep "minus", .keep "times", .keep "less", .keep "total_of", .keep "next_ages", .keep "ages_after", .keep "strength_of", .keep "mean_age_of", .keep "strength_limit_of", .keep "mean_age_limit_of", .keep "regrind_allowed", .keep "retention_allowed", .keep "settings_allowed", .keep "threshold_allowed", .keep "shots_allowed", .keep "fraction_answer", .keep "answer_change", .keep "answer_query", .keep "answer_query_with", .keep "answer_call", .keep "answers"]
def faC : List He.Fa := [.meth "Process" "make_shot", .meth "Process" "make_virgin_shot", .meth "Process" "add_shot", .meth "Process" "set_regrind", .meth "Process" "set_retention", .meth "Process" "reset", .meth "Process" "age_fraction", .meth "Process" "older_than", .meth "Process" "age_distribution", .meth "Process" "strength_now", .meth "Process" "limit_with", .meth "Process" "strength_from_start", .meth "Process" "strength", .meth "Process" "mean_age", .meth "Process" "limits", .meth "Process" "strength_above_limit", .meth "Process" "strength_after", .meth "Process" "max_regrind", .meth "Process" "first_weak_shot", .meth "Process" "strength_after_if", .meth "Process" "describe"]
def faD : List He.Fa := [.int "OUT_OF_RANGE" (-22), .int "NO_SHOT" (-6), .int "NO_SHOT_LEFT" (-28), .int "NO_SUCH_VALUE" (-33), .int "LARGEST_DENOMINATOR" 20, .int "LARGEST_THRESHOLD_DENOMINATOR" 1000, .int "MOST_SHOTS" 12, .int "NO_INSTANCE" (-11), .int "CREATE" 0, .int "MAKE_SHOT" 1, .int "MAKE_VIRGIN_SHOT" 2, .int "SET_REGRIND" 3, .int "SET_RETENTION" 4, .int "RESET" 5, .int "AGE_FRACTION" 6, .int "OLDER_THAN" 7, .int "AGE_DISTRIBUTION" 8, .int "STRENGTH" 9, .int "MEAN_AGE" 10, .int "LIMITS" 11, .int "STRENGTH_ABOVE_LIMIT" 12, .int "STRENGTH_AFTER" 13, .int "MAX_REGRIND" 14, .int "FIRST_WEAK_SHOT" 15]
def faE : List He.Fa := [.glo "Process", .cls "Process", .mkr "Process", .glo "ARGUMENT_COUNTS", .meth "Process" "__init__", .free "len", .free "range", .free "enumerate", .free "abs", .noat "Process" "regrind", .noat "Process" "parts", .noat "Process" "kept", .noat "Process" "kept_of", .noat "Process" "shots", .noat "Process" "ages"]
def fa : List He.Fa := faA ++ (faB ++ (faC ++ (faD ++ faE)))
def countsD : List He.Dv := [.int 4, .int 0, .int 0, .int 1, .int 2, .int 0, .int 1, .int 1, .int 0, .int 0, .int 0, .int 0, .int 0, .int 1, .int 2, .int 2, .int 2, .int 0]
abbrev AlR : Type := He.Al × Bool
def obsR (K : PySem.W.Frag) : AlR := (He.obsE fa fn K, He.tupB K "ARGUMENT_COUNTS" countsD)
def valR : AlR := (He.valE fn, true)
def reachR (g : Addr → Option Obj) : PySem.W.Frag := He.frG g (He.asG g 5)
def hookR : PySem.W.Hook where
  α := AlR
  obs := fun s => obsR (reachR s.heap.get?)
  val := fun _ => valR
  says := fun _ h => ∃ K : PySem.W.Frag, K.In h ∧ obsR K = valR
  of := fun _ _ e => ⟨_, He.frG_in, e⟩
  keeps := fun _ _ _ ⟨K, hK, c⟩ k => ⟨K, PySem.W.Frag.In.keeps hK k, c⟩
def obR (s : PySem.W.SharedT) : AlR := obsR (reachR (HeadRun.getT s))
theorem obR_eq (s : PySem.W.SharedT) : obR s = hookR.obs s.abs := by
  have e : HeadRun.getT s = s.abs.heap.get? := funext fun a => HeadRun.getT_eq s a
  show obsR (reachR (HeadRun.getT s)) = obsR (reachR s.abs.heap.get?)
  rw [e]
abbrev row : PySem.W.OpenSpec := PySem.Challenge.rw_regroundshots_s01_answers
def looseA : List PySem.Str := ["common_divisor", "reduced", "plus", "minus", "times", "less", "total_of", "next_ages", "ages_after", "strength_of", "mean_age_of", "strength_limit_of", "mean_age_limit_of", "regrind_allowed", "retention_allowed", "settings_allowed", "threshold_allowed", "shots_allowed", "fraction_answer", "answer_change", "answer_query", "answer_query_with", "answer_call", "Process", "ARGUMENT_COUNTS"]
def looseB : List PySem.Str := ["OUT_OF_RANGE", "NO_SHOT", "NO_SHOT_LEFT", "NO_SUCH_VALUE", "LARGEST_DENOMINATOR", "LARGEST_THRESHOLD_DENOMINATOR", "MOST_SHOTS", "NO_INSTANCE", "CREATE", "MAKE_SHOT", "MAKE_VIRGIN_SHOT", "SET_REGRIND", "SET_RETENTION", "RESET", "AGE_FRACTION", "OLDER_THAN", "AGE_DISTRIBUTION", "STRENGTH", "MEAN_AGE", "LIMITS", "STRENGTH_ABOVE_LIMIT", "STRENGTH_AFTER", "MAX_REGRIND", "FIRST_WEAK_SHOT"]
def loose : List PySem.Str := looseA ++ looseB
theorem runR (w : World) : HeadRun.RunEqS row (PySem.W.view row.prog [53]) hookR obR 2000 loose w := by
  intro os
  kernel_rfl
end Rg
set_option Elab.async false
set_option linter.all false
set_option maxRecDepth 100000
set_option maxHeartbeats 4000000
namespace Rg
open PySem PySem.Spec PyProof.Rows L2
/-! ### the defs where the top has left them -/
abbrev pC (K : PySem.W.Frag) : Addr := He.ga K "Process"
abbrev SE (K : PySem.W.Frag) : Prop := He.SaysE fa fn K
section
variable {P : Program} {w : World} {K : PySem.W.Frag} {mg : Str → Option Value} {base h : Heap}
theorem fun_at {x : Str} {n i j : Nat} (c : SE K) (hi : fn[i]? = some (fnc x n)) (hj : fa[j]? = some (.keep x)) : ∃ fd, Fun K x x (top n) (He.ga K x) fd := by
  obtain ⟨oc, od, osl, kV, doc, pm, an, cdv, ct, l, cd⟩ := c.def_ i hi
  exact ⟨_, fun_mk l cd (He.keep_ok (c.fact j hj))⟩
theorem meth_at {x q : Str} {n i j : Nat} (c : SE K) (hi : fn[i]? = some (mth x q n)) (hj : fa[j]? = some (.meth "Process" x)) : ∃ fd, Fun K x q (sM n) (He.ma K (pC K) x) fd ∧ Meth K (pC K) x (He.ma K (pC K) x) := by
  obtain ⟨oc, od, osl, kV, doc, pm, an, cdv, ct, l, cd⟩ := c.def_ i hi
  have m := He.meth_ok (c.fact j hj)
  exact ⟨_, fun_mk l cd m.kp, m⟩
theorem int_at {x : Str} {z : Int} (X : K.In h) (G : h.Ns mainGlobals mg) (c : SE K) (j : Nat) (hj : fa[j]? = some (.int x z)) : ∃ t, mg x = some (.int z t) := He.int_ok X G (c.fact j hj)
theorem free_at {x : Str} (X : K.In h) (G : h.Ns mainGlobals mg) (c : SE K) (j : Nat) (hj : fa[j]? = some (.free x)) : mg x = none := He.free_ok X G (c.fact j hj)
theorem glo_at {x : Str} (X : K.In h) (G : h.Ns mainGlobals mg) (c : SE K) (j : Nat) (hj : fa[j]? = some (.glo x)) : mg x = some (.ref (He.ga K x)) := He.glo_ok X G (c.fact j hj)
theorem txt_at (c : SE K) : Txt K mg (pC K) :=
  ⟨He.cls_ok (c.fact 94 (f := .cls "Process") rfl), He.noat_ok (c.fact 102 (f := .noat "Process" "regrind") rfl), He.noat_ok (c.fact 103 (f := .noat "Process" "parts") rfl), He.noat_ok (c.fact 104 (f := .noat "Process" "kept") rfl),
    He.noat_ok (c.fact 105 (f := .noat "Process" "kept_of") rfl), He.noat_ok (c.fact 106 (f := .noat "Process" "shots") rfl), He.noat_ok (c.fact 107 (f := .noat "Process" "ages") rfl)⟩
theorem d_common_divisor (X : K.In h) (G : h.Ns mainGlobals mg) (c : SE K) : Def P w K mg base "common_divisor" ["one", "other"] 1 spCd := by
  obtain ⟨fd, F⟩ := fun_at (x := "common_divisor") (n := 1) (i := 0) (j := 24) c rfl rfl
  exact ⟨_, fd, glo_at X G c 0 rfl, F.kp, F.binds (ps := ["one", "other"]) (fun _ _ _ _ _ _ us hl => match us, hl with | [_, _], _ => rfl), ok_cd F ⟩
theorem d_reduced (X : K.In h) (G : h.Ns mainGlobals mg) (c : SE K) : Def P w K mg base "reduced" ["num", "den"] 2 spReduced := by
  obtain ⟨fd, F⟩ := fun_at (x := "reduced") (n := 2) (i := 1) (j := 25) c rfl rfl
  exact ⟨_, fd, glo_at X G c 1 rfl, F.kp, F.binds (ps := ["num", "den"]) (fun _ _ _ _ _ _ us hl => match us, hl with | [_, _], _ => rfl), ok_reduced F (free_at X G c 101 rfl) (d_common_divisor X G c)⟩
theorem d_plus (X : K.In h) (G : h.Ns mainGlobals mg) (c : SE K) : Def P w K mg base "plus" ["one", "other"] 3 (spBin SrFraction.add) := by
  obtain ⟨fd, F⟩ := fun_at (x := "plus") (n := 3) (i := 2) (j := 26) c rfl rfl
  exact ⟨_, fd, glo_at X G c 2 rfl, F.kp, F.binds (ps := ["one", "other"]) (fun _ _ _ _ _ _ us hl => match us, hl with | [_, _], _ => rfl), ok_plus F (d_reduced X G c)⟩
theorem d_minus (X : K.In h) (G : h.Ns mainGlobals mg) (c : SE K) : Def P w K mg base "minus" ["one", "other"] 3 (spBin SrFraction.sub) := by
  obtain ⟨fd, F⟩ := fun_at (x := "minus") (n := 4) (i := 3) (j := 27) c rfl rfl
  exact ⟨_, fd, glo_at X G c 3 rfl, F.kp, F.binds (ps := ["one", "other"]) (fun _ _ _ _ _ _ us hl => match us, hl with | [_, _], _ => rfl), ok_minus F (d_reduced X G c)⟩
theorem d_times (X : K.In h) (G : h.Ns mainGlobals mg) (c : SE K) : Def P w K mg base "times" ["one", "other"] 3 (spBin SrFraction.mul) := by
  obtain ⟨fd, F⟩ := fun_at (x := "times") (n := 5) (i := 4) (j := 28) c rfl rfl
  exact ⟨_, fd, glo_at X G c 4 rfl, F.kp, F.binds (ps := ["one", "other"]) (fun _ _ _ _ _ _ us hl => match us, hl with | [_, _], _ => rfl), ok_times F (d_reduced X G c)⟩
theorem d_less (X : K.In h) (G : h.Ns mainGlobals mg) (c : SE K) : Def P w K mg base "less" ["one", "other"] 1 spLess := by
  obtain ⟨fd, F⟩ := fun_at (x := "less") (n := 6) (i := 5) (j := 29) c rfl rfl
  exact ⟨_, fd, glo_at X G c 5 rfl, F.kp, F.binds (ps := ["one", "other"]) (fun _ _ _ _ _ _ us hl => match us, hl with | [_, _], _ => rfl), ok_less F ⟩
theorem d_total_of (X : K.In h) (G : h.Ns mainGlobals mg) (c : SE K) : Def P w K mg base "total_of" ["ratios"] 4 spTotal := by
  obtain ⟨fd, F⟩ := fun_at (x := "total_of") (n := 7) (i := 6) (j := 30) c rfl rfl
  exact ⟨_, fd, glo_at X G c 6 rfl, F.kp, F.binds (ps := ["ratios"]) (fun _ _ _ _ _ _ us hl => match us, hl with | [_], _ => rfl), ok_total F (d_reduced X G c) (d_plus X G c)⟩
theorem d_next_ages (X : K.In h) (G : h.Ns mainGlobals mg) (c : SE K) : Def P w K mg base "next_ages" ["ages", "regrind", "parts"] 4 spNext := by
  obtain ⟨fd, F⟩ := fun_at (x := "next_ages") (n := 9) (i := 7) (j := 31) c rfl rfl
  exact ⟨_, fd, glo_at X G c 7 rfl, F.kp, F.binds (ps := ["ages", "regrind", "parts"]) (fun _ _ _ _ _ _ us hl => match us, hl with | [_, _, _], _ => rfl), ok_next F (free_at X G c 98 rfl) (d_reduced X G c) (d_times X G c)⟩
theorem d_ages_after (X : K.In h) (G : h.Ns mainGlobals mg) (c : SE K) : Def P w K mg base "ages_after" ["n", "regrind", "parts"] 5 spAfter := by
  obtain ⟨fd, F⟩ := fun_at (x := "ages_after") (n := 10) (i := 8) (j := 32) c rfl rfl
  exact ⟨_, fd, glo_at X G c 8 rfl, F.kp, F.binds (ps := ["n", "regrind", "parts"]) (fun _ _ _ _ _ _ us hl => match us, hl with | [_, _, _], _ => rfl), ok_after F (free_at X G c 99 rfl) (d_next_ages X G c)⟩
theorem d_strength_of (X : K.In h) (G : h.Ns mainGlobals mg) (c : SE K) : Def P w K mg base "strength_of" ["ages", "kept", "kept_of"] 4 spStrength := by
  obtain ⟨fd, F⟩ := fun_at (x := "strength_of") (n := 11) (i := 9) (j := 33) c rfl rfl
  exact ⟨_, fd, glo_at X G c 9 rfl, F.kp, F.binds (ps := ["ages", "kept", "kept_of"]) (fun _ _ _ _ _ _ us hl => match us, hl with | [_, _, _], _ => rfl), ok_str F (d_reduced X G c) (d_plus X G c) (d_times X G c)⟩
theorem d_mean_age_of (X : K.In h) (G : h.Ns mainGlobals mg) (c : SE K) : Def P w K mg base "mean_age_of" ["ages"] 5 spMean := by
  obtain ⟨fd, F⟩ := fun_at (x := "mean_age_of") (n := 12) (i := 10) (j := 34) c rfl rfl
  exact ⟨_, fd, glo_at X G c 10 rfl, F.kp, F.binds (ps := ["ages"]) (fun _ _ _ _ _ _ us hl => match us, hl with | [_], _ => rfl), ok_mean F (free_at X G c 100 rfl) (d_reduced X G c) (d_times X G c) (d_total_of X G c)⟩
theorem d_strength_limit_of (X : K.In h) (G : h.Ns mainGlobals mg) (c : SE K) : Def P w K mg base "strength_limit_of" ["regrind", "parts", "kept", "kept_of"] 3 spLimit := by
  obtain ⟨fd, F⟩ := fun_at (x := "strength_limit_of") (n := 13) (i := 11) (j := 35) c rfl rfl
  exact ⟨_, fd, glo_at X G c 11 rfl, F.kp, F.binds (ps := ["regrind", "parts", "kept", "kept_of"]) (fun _ _ _ _ _ _ us hl => match us, hl with | [_, _, _, _], _ => rfl), ok_lim F (d_reduced X G c)⟩
theorem d_mean_age_limit_of (X : K.In h) (G : h.Ns mainGlobals mg) (c : SE K) : Def P w K mg base "mean_age_limit_of" ["regrind", "parts"] 3 spMeanLimit := by
  obtain ⟨fd, F⟩ := fun_at (x := "mean_age_limit_of") (n := 14) (i := 12) (j := 36) c rfl rfl
  exact ⟨_, fd, glo_at X G c 12 rfl, F.kp, F.binds (ps := ["regrind", "parts"]) (fun _ _ _ _ _ _ us hl => match us, hl with | [_, _], _ => rfl), ok_mlim F (d_reduced X G c)⟩
theorem d_regrind_allowed (X : K.In h) (G : h.Ns mainGlobals mg) (c : SE K) : Def P w K mg base "regrind_allowed" ["regrind", "parts"] 1 (spBool2 regOk) := by
  obtain ⟨fd, F⟩ := fun_at (x := "regrind_allowed") (n := 23) (i := 13) (j := 37) c rfl rfl
  exact ⟨_, fd, glo_at X G c 13 rfl, F.kp, F.binds (ps := ["regrind", "parts"]) (fun _ _ _ _ _ _ us hl => match us, hl with | [_, _], _ => rfl), ok_ra F ⟩
theorem d_retention_allowed (X : K.In h) (G : h.Ns mainGlobals mg) (c : SE K) : Def P w K mg base "retention_allowed" ["kept", "kept_of"] 1 (spBool2 Sr119.isRetention) := by
  obtain ⟨t0, g0⟩ := int_at X G c 73 rfl
  obtain ⟨fd, F⟩ := fun_at (x := "retention_allowed") (n := 24) (i := 14) (j := 38) c rfl rfl
  exact ⟨_, fd, glo_at X G c 14 rfl, F.kp, F.binds (ps := ["kept", "kept_of"]) (fun _ _ _ _ _ _ us hl => match us, hl with | [_, _], _ => rfl), ok_ta F g0⟩
theorem d_settings_allowed (X : K.In h) (G : h.Ns mainGlobals mg) (c : SE K) : Def P w K mg base "settings_allowed" ["regrind", "parts", "kept", "kept_of"] 2 (spBool4 setOk) := by
  obtain ⟨t0, g0⟩ := int_at X G c 73 rfl
  obtain ⟨fd, F⟩ := fun_at (x := "settings_allowed") (n := 25) (i := 15) (j := 39) c rfl rfl
  exact ⟨_, fd, glo_at X G c 15 rfl, F.kp, F.binds (ps := ["regrind", "parts", "kept", "kept_of"]) (fun _ _ _ _ _ _ us hl => match us, hl with | [_, _, _, _], _ => rfl), ok_sa F g0 (d_regrind_allowed X G c) (d_retention_allowed X G c)⟩
theorem d_threshold_allowed (X : K.In h) (G : h.Ns mainGlobals mg) (c : SE K) : Def P w K mg base "threshold_allowed" ["num", "den"] 1 (spBool2 Sr119.isThreshold) := by
  obtain ⟨t0, g0⟩ := int_at X G c 74 rfl
  obtain ⟨fd, F⟩ := fun_at (x := "threshold_allowed") (n := 26) (i := 16) (j := 40) c rfl rfl
  exact ⟨_, fd, glo_at X G c 16 rfl, F.kp, F.binds (ps := ["num", "den"]) (fun _ _ _ _ _ _ us hl => match us, hl with | [_, _], _ => rfl), ok_th F g0⟩
theorem d_shots_allowed (X : K.In h) (G : h.Ns mainGlobals mg) (c : SE K) : Def P w K mg base "shots_allowed" ["n"] 1 (spBool1 Sr119.isShotCount) := by
  obtain ⟨t0, g0⟩ := int_at X G c 75 rfl
  obtain ⟨fd, F⟩ := fun_at (x := "shots_allowed") (n := 27) (i := 17) (j := 41) c rfl rfl
  exact ⟨_, fd, glo_at X G c 17 rfl, F.kp, F.binds (ps := ["n"]) (fun _ _ _ _ _ _ us hl => match us, hl with | [_], _ => rfl), ok_sh F g0⟩
theorem d_fraction_answer (X : K.In h) (G : h.Ns mainGlobals mg) (c : SE K) : Def P w K mg base "fraction_answer" ["fraction"] 1 spFa := by
  obtain ⟨fd, F⟩ := fun_at (x := "fraction_answer") (n := 28) (i := 18) (j := 42) c rfl rfl
  exact ⟨_, fd, glo_at X G c 18 rfl, F.kp, F.binds (ps := ["fraction"]) (fun _ _ _ _ _ _ us hl => match us, hl with | [_], _ => rfl), ok_fa F ⟩
theorem m_strength_now (X : K.In h) (G : h.Ns mainGlobals mg) (c : SE K) : MDef P w K mg base (pC K) "strength_now" ["self"] 5 (spNow (pC K)) := by
  obtain ⟨fd, F, M⟩ := meth_at (x := "strength_now") (q := "Process.strength_now") (n := 10) (i := 34) (j := 57) c rfl rfl
  exact ⟨_, fd, M, F.binds (ps := ["self"]) (fun _ _ _ _ _ _ us hl => match us, hl with | [_], _ => rfl), ok_now F (txt_at c) (d_strength_of X G c)⟩
theorem m_limit_with (X : K.In h) (G : h.Ns mainGlobals mg) (c : SE K) : MDef P w K mg base (pC K) "limit_with" ["self", "regrind"] 4 (spLw (pC K)) := by
  obtain ⟨fd, F, M⟩ := meth_at (x := "limit_with") (q := "Process.limit_with") (n := 11) (i := 35) (j := 58) c rfl rfl
  exact ⟨_, fd, M, F.binds (ps := ["self", "regrind"]) (fun _ _ _ _ _ _ us hl => match us, hl with | [_, _], _ => rfl), ok_lw F (txt_at c) (d_strength_limit_of X G c)⟩
theorem m_strength_from_start (X : K.In h) (G : h.Ns mainGlobals mg) (c : SE K) : MDef P w K mg base (pC K) "strength_from_start" ["self", "regrind", "n"] 6 (spFs (pC K)) := by
  obtain ⟨fd, F, M⟩ := meth_at (x := "strength_from_start") (q := "Process.strength_from_start") (n := 12) (i := 36) (j := 59) c rfl rfl
  exact ⟨_, fd, M, F.binds (ps := ["self", "regrind", "n"]) (fun _ _ _ _ _ _ us hl => match us, hl with | [_, _, _], _ => rfl), ok_fs F (txt_at c) (d_strength_of X G c) (d_ages_after X G c)⟩
theorem m_add_shot (X : K.In h) (G : h.Ns mainGlobals mg) (c : SE K) : MDef P w K mg base (pC K) "add_shot" ["self", "ages"] 6 (spAdd (pC K)) := by
  obtain ⟨t1, g1⟩ := int_at X G c 75 rfl
  obtain ⟨t2, g2⟩ := int_at X G c 71 rfl
  obtain ⟨fd, F, M⟩ := meth_at (x := "add_shot") (q := "Process.add_shot") (n := 3) (i := 27) (j := 50) c rfl rfl
  exact ⟨_, fd, M, F.binds (ps := ["self", "ages"]) (fun _ _ _ _ _ _ us hl => match us, hl with | [_, _], _ => rfl), ok_add F (txt_at c) g1 g2 (m_strength_now X G c)⟩
theorem m_make_shot (X : K.In h) (G : h.Ns mainGlobals mg) (c : SE K) : MDef P w K mg base (pC K) "make_shot" ["self"] 7 (spM0 (pC K) .makeShot) := by
  obtain ⟨fd, F, M⟩ := meth_at (x := "make_shot") (q := "Process.make_shot") (n := 1) (i := 25) (j := 48) c rfl rfl
  exact ⟨_, fd, M, F.binds (ps := ["self"]) (fun _ _ _ _ _ _ us hl => match us, hl with | [_], _ => rfl), ok_ms F (txt_at c) (d_next_ages X G c) (m_add_shot X G c)⟩
theorem m_make_virgin_shot (X : K.In h) (G : h.Ns mainGlobals mg) (c : SE K) : MDef P w K mg base (pC K) "make_virgin_shot" ["self"] 7 (spM0 (pC K) .makeVirginShot) := by
  obtain ⟨fd, F, M⟩ := meth_at (x := "make_virgin_shot") (q := "Process.make_virgin_shot") (n := 2) (i := 26) (j := 49) c rfl rfl
  exact ⟨_, fd, M, F.binds (ps := ["self"]) (fun _ _ _ _ _ _ us hl => match us, hl with | [_], _ => rfl), ok_mv F (txt_at c) (d_reduced X G c) (m_add_shot X G c)⟩
theorem m_set_regrind (X : K.In h) (G : h.Ns mainGlobals mg) (c : SE K) : MDef P w K mg base (pC K) "set_regrind" ["self", "regrind"] 2 (spM1 (pC K) .setRegrind) := by
  obtain ⟨t1, g1⟩ := int_at X G c 69 rfl
  obtain ⟨fd, F, M⟩ := meth_at (x := "set_regrind") (q := "Process.set_regrind") (n := 4) (i := 28) (j := 51) c rfl rfl
  exact ⟨_, fd, M, F.binds (ps := ["self", "regrind"]) (fun _ _ _ _ _ _ us hl => match us, hl with | [_, _], _ => rfl), ok_sr F (txt_at c) g1 (d_regrind_allowed X G c)⟩
theorem m_set_retention (X : K.In h) (G : h.Ns mainGlobals mg) (c : SE K) : MDef P w K mg base (pC K) "set_retention" ["self", "kept", "kept_of"] 2 (spM2 (pC K) .setRetention) := by
  obtain ⟨t1, g1⟩ := int_at X G c 69 rfl
  obtain ⟨fd, F, M⟩ := meth_at (x := "set_retention") (q := "Process.set_retention") (n := 5) (i := 29) (j := 52) c rfl rfl
  exact ⟨_, fd, M, F.binds (ps := ["self", "kept", "kept_of"]) (fun _ _ _ _ _ _ us hl => match us, hl with | [_, _, _], _ => rfl), ok_st F (txt_at c) g1 (d_retention_allowed X G c)⟩
theorem m_reset (X : K.In h) (G : h.Ns mainGlobals mg) (c : SE K) : MDef P w K mg base (pC K) "reset" ["self"] 1 (spM0 (pC K) .reset) := by
  obtain ⟨fd, F, M⟩ := meth_at (x := "reset") (q := "Process.reset") (n := 6) (i := 30) (j := 53) c rfl rfl
  exact ⟨_, fd, M, F.binds (ps := ["self"]) (fun _ _ _ _ _ _ us hl => match us, hl with | [_], _ => rfl), ok_re F (txt_at c)⟩
theorem m_age_fraction (X : K.In h) (G : h.Ns mainGlobals mg) (c : SE K) : MDef P w K mg base (pC K) "age_fraction" ["self", "k"] 3 (spQ1 (pC K) .ageFraction) := by
  obtain ⟨t2, g2⟩ := int_at X G c 69 rfl
  obtain ⟨t3, g3⟩ := int_at X G c 70 rfl
  obtain ⟨fd, F, M⟩ := meth_at (x := "age_fraction") (q := "Process.age_fraction") (n := 7) (i := 31) (j := 54) c rfl rfl
  exact ⟨_, fd, M, F.binds (ps := ["self", "k"]) (fun _ _ _ _ _ _ us hl => match us, hl with | [_, _], _ => rfl), ok_af F (txt_at c) (free_at X G c 98 rfl) g2 g3 (d_reduced X G c) (d_fraction_answer X G c)⟩
theorem m_older_than (X : K.In h) (G : h.Ns mainGlobals mg) (c : SE K) : MDef P w K mg base (pC K) "older_than" ["self", "k"] 5 (spQ1 (pC K) .olderThan) := by
  obtain ⟨t1, g1⟩ := int_at X G c 69 rfl
  obtain ⟨t2, g2⟩ := int_at X G c 70 rfl
  obtain ⟨fd, F, M⟩ := meth_at (x := "older_than") (q := "Process.older_than") (n := 8) (i := 32) (j := 55) c rfl rfl
  exact ⟨_, fd, M, F.binds (ps := ["self", "k"]) (fun _ _ _ _ _ _ us hl => match us, hl with | [_, _], _ => rfl), ok_ot F (txt_at c) g1 g2 (d_total_of X G c) (d_fraction_answer X G c)⟩
theorem m_age_distribution (X : K.In h) (G : h.Ns mainGlobals mg) (c : SE K) : MDef P w K mg base (pC K) "age_distribution" ["self"] 1 (spQ0 (pC K) .ageDistribution) := by
  obtain ⟨fd, F, M⟩ := meth_at (x := "age_distribution") (q := "Process.age_distribution") (n := 9) (i := 33) (j := 56) c rfl rfl
  exact ⟨_, fd, M, F.binds (ps := ["self"]) (fun _ _ _ _ _ _ us hl => match us, hl with | [_], _ => rfl), ok_ad F (txt_at c) (free_at X G c 98 rfl)⟩
theorem m_strength (X : K.In h) (G : h.Ns mainGlobals mg) (c : SE K) : MDef P w K mg base (pC K) "strength" ["self"] 6 (spQ0 (pC K) .strength) := by
  obtain ⟨t1, g1⟩ := int_at X G c 70 rfl
  obtain ⟨fd, F, M⟩ := meth_at (x := "strength") (q := "Process.strength") (n := 13) (i := 37) (j := 60) c rfl rfl
  exact ⟨_, fd, M, F.binds (ps := ["self"]) (fun _ _ _ _ _ _ us hl => match us, hl with | [_], _ => rfl), ok_s0 F (txt_at c) g1 (m_strength_now X G c) (d_fraction_answer X G c)⟩
theorem m_mean_age (X : K.In h) (G : h.Ns mainGlobals mg) (c : SE K) : MDef P w K mg base (pC K) "mean_age" ["self"] 6 (spQ0 (pC K) .meanAge) := by
  obtain ⟨t1, g1⟩ := int_at X G c 70 rfl
  obtain ⟨fd, F, M⟩ := meth_at (x := "mean_age") (q := "Process.mean_age") (n := 14) (i := 38) (j := 61) c rfl rfl
  exact ⟨_, fd, M, F.binds (ps := ["self"]) (fun _ _ _ _ _ _ us hl => match us, hl with | [_], _ => rfl), ok_ma F (txt_at c) g1 (d_mean_age_of X G c) (d_fraction_answer X G c)⟩
theorem m_limits (X : K.In h) (G : h.Ns mainGlobals mg) (c : SE K) : MDef P w K mg base (pC K) "limits" ["self"] 5 (spQ0 (pC K) .limits) := by
  obtain ⟨fd, F, M⟩ := meth_at (x := "limits") (q := "Process.limits") (n := 15) (i := 39) (j := 62) c rfl rfl
  exact ⟨_, fd, M, F.binds (ps := ["self"]) (fun _ _ _ _ _ _ us hl => match us, hl with | [_], _ => rfl), ok_li F (txt_at c) (m_limit_with X G c) (d_mean_age_limit_of X G c)⟩
theorem m_strength_above_limit (X : K.In h) (G : h.Ns mainGlobals mg) (c : SE K) : MDef P w K mg base (pC K) "strength_above_limit" ["self"] 6 (spQ0 (pC K) .strengthAboveLimit) := by
  obtain ⟨t1, g1⟩ := int_at X G c 70 rfl
  obtain ⟨fd, F, M⟩ := meth_at (x := "strength_above_limit") (q := "Process.strength_above_limit") (n := 16) (i := 40) (j := 63) c rfl rfl
  exact ⟨_, fd, M, F.binds (ps := ["self"]) (fun _ _ _ _ _ _ us hl => match us, hl with | [_], _ => rfl), ok_sl F (txt_at c) g1 (m_strength_now X G c) (m_limit_with X G c) (d_minus X G c) (d_fraction_answer X G c)⟩
theorem m_describe (X : K.In h) (G : h.Ns mainGlobals mg) (c : SE K) : MDef P w K mg base (pC K) "describe" ["self"] 1 (spQ0 (pC K) .describe) := by
  obtain ⟨fd, F, M⟩ := meth_at (x := "describe") (q := "Process.describe") (n := 21) (i := 45) (j := 68) c rfl rfl
  exact ⟨_, fd, M, F.binds (ps := ["self"]) (fun _ _ _ _ _ _ us hl => match us, hl with | [_], _ => rfl), ok_de F (txt_at c)⟩
theorem m_strength_after_if (X : K.In h) (G : h.Ns mainGlobals mg) (c : SE K) : MDef P w K mg base (pC K) "strength_after_if" ["self", "regrind", "n"] 7 (spQ2 (pC K) .strengthAfterIf) := by
  obtain ⟨t1, g1⟩ := int_at X G c 69 rfl
  obtain ⟨fd, F, M⟩ := meth_at (x := "strength_after_if") (q := "Process.strength_after_if") (n := 20) (i := 44) (j := 67) c rfl rfl
  exact ⟨_, fd, M, F.binds (ps := ["self", "regrind", "n"]) (fun _ _ _ _ _ _ us hl => match us, hl with | [_, _, _], _ => rfl), ok_si F (txt_at c) g1 (d_regrind_allowed X G c) (d_shots_allowed X G c) (m_strength_from_start X G c) (d_fraction_answer X G c)⟩
theorem m_strength_after (X : K.In h) (G : h.Ns mainGlobals mg) (c : SE K) : MDef P w K mg base (pC K) "strength_after" ["self", "n"] 8 (spQ1 (pC K) .strengthAfter) := by
  obtain ⟨fd, F, M⟩ := meth_at (x := "strength_after") (q := "Process.strength_after") (n := 17) (i := 41) (j := 64) c rfl rfl
  exact ⟨_, fd, M, F.binds (ps := ["self", "n"]) (fun _ _ _ _ _ _ us hl => match us, hl with | [_, _], _ => rfl), ok_sa' F (txt_at c) (m_strength_after_if X G c)⟩
theorem m_max_regrind (X : K.In h) (G : h.Ns mainGlobals mg) (c : SE K) : MDef P w K mg base (pC K) "max_regrind" ["self", "num", "den"] 5 (spQ2 (pC K) .maxRegrind) := by
  obtain ⟨t2, g2⟩ := int_at X G c 69 rfl
  obtain ⟨t3, g3⟩ := int_at X G c 72 rfl
  obtain ⟨fd, F, M⟩ := meth_at (x := "max_regrind") (q := "Process.max_regrind") (n := 18) (i := 42) (j := 65) c rfl rfl
  exact ⟨_, fd, M, F.binds (ps := ["self", "num", "den"]) (fun _ _ _ _ _ _ us hl => match us, hl with | [_, _, _], _ => rfl), ok_mr F (txt_at c) (free_at X G c 99 rfl) g2 g3 (d_threshold_allowed X G c) (d_reduced X G c) (d_less X G c) (m_limit_with X G c)⟩
theorem m_first_weak_shot (X : K.In h) (G : h.Ns mainGlobals mg) (c : SE K) : MDef P w K mg base (pC K) "first_weak_shot" ["self", "num", "den"] 7 (spQ2 (pC K) .firstWeakShot) := by
  obtain ⟨t2, g2⟩ := int_at X G c 69 rfl
  obtain ⟨t3, g3⟩ := int_at X G c 72 rfl
  obtain ⟨t4, g4⟩ := int_at X G c 75 rfl
  obtain ⟨fd, F, M⟩ := meth_at (x := "first_weak_shot") (q := "Process.first_weak_shot") (n := 19) (i := 43) (j := 66) c rfl rfl
  exact ⟨_, fd, M, F.binds (ps := ["self", "num", "den"]) (fun _ _ _ _ _ _ us hl => match us, hl with | [_, _, _], _ => rfl), ok_fw F (txt_at c) (free_at X G c 99 rfl) g2 g3 g4 (d_threshold_allowed X G c) (d_reduced X G c) (d_less X G c) (m_strength_from_start X G c)⟩
theorem d_answer_change (X : K.In h) (G : h.Ns mainGlobals mg) (c : SE K) : Def P w K mg base "answer_change" ["process", "number", "given"] 8 (spCh (pC K)) := by
  obtain ⟨t1, g1⟩ := int_at X G c 78 rfl
  obtain ⟨t2, g2⟩ := int_at X G c 79 rfl
  obtain ⟨t3, g3⟩ := int_at X G c 80 rfl
  obtain ⟨t4, g4⟩ := int_at X G c 81 rfl
  obtain ⟨fd, F⟩ := fun_at (x := "answer_change") (n := 49) (i := 19) (j := 43) c rfl rfl
  exact ⟨_, fd, glo_at X G c 19 rfl, F.kp, F.binds (ps := ["process", "number", "given"]) (fun _ _ _ _ _ _ us hl => match us, hl with | [_, _, _], _ => rfl), ok_ch F (txt_at c) g1 g2 g3 g4 (m_make_shot X G c) (m_make_virgin_shot X G c) (m_set_regrind X G c) (m_set_retention X G c) (m_reset X G c)⟩
theorem d_answer_query (X : K.In h) (G : h.Ns mainGlobals mg) (c : SE K) : Def P w K mg base "answer_query" ["process", "number"] 7 (spAq (pC K)) := by
  obtain ⟨t1, g1⟩ := int_at X G c 85 rfl
  obtain ⟨t2, g2⟩ := int_at X G c 86 rfl
  obtain ⟨t3, g3⟩ := int_at X G c 87 rfl
  obtain ⟨t4, g4⟩ := int_at X G c 88 rfl
  obtain ⟨t5, g5⟩ := int_at X G c 89 rfl
  obtain ⟨fd, F⟩ := fun_at (x := "answer_query") (n := 50) (i := 20) (j := 44) c rfl rfl
  exact ⟨_, fd, glo_at X G c 20 rfl, F.kp, F.binds (ps := ["process", "number"]) (fun _ _ _ _ _ _ us hl => match us, hl with | [_, _], _ => rfl), ok_aq F (txt_at c) g1 g2 g3 g4 g5 (m_age_distribution X G c) (m_strength X G c) (m_mean_age X G c) (m_limits X G c) (m_strength_above_limit X G c) (m_describe X G c)⟩
theorem d_answer_query_with (X : K.In h) (G : h.Ns mainGlobals mg) (c : SE K) : Def P w K mg base "answer_query_with" ["process", "number", "given"] 9 (spAw (pC K)) := by
  obtain ⟨t1, g1⟩ := int_at X G c 83 rfl
  obtain ⟨t2, g2⟩ := int_at X G c 84 rfl
  obtain ⟨t3, g3⟩ := int_at X G c 90 rfl
  obtain ⟨t4, g4⟩ := int_at X G c 91 rfl
  obtain ⟨t5, g5⟩ := int_at X G c 92 rfl
  obtain ⟨fd, F⟩ := fun_at (x := "answer_query_with") (n := 51) (i := 21) (j := 45) c rfl rfl
  exact ⟨_, fd, glo_at X G c 21 rfl, F.kp, F.binds (ps := ["process", "number", "given"]) (fun _ _ _ _ _ _ us hl => match us, hl with | [_, _, _], _ => rfl), ok_aw F (txt_at c) g1 g2 g3 g4 g5 (m_age_fraction X G c) (m_older_than X G c) (m_strength_after X G c) (m_max_regrind X G c) (m_first_weak_shot X G c) (m_strength_after_if X G c)⟩
theorem d_answer_call (X : K.In h) (G : h.Ns mainGlobals mg) (c : SE K) : Def P w K mg base "answer_call" ["process", "number", "given"] 10 (spAc (pC K)) := by
  obtain ⟨t2, g2⟩ := int_at X G c 76 rfl
  obtain ⟨t3, g3⟩ := int_at X G c 82 rfl
  obtain ⟨fd, F⟩ := fun_at (x := "answer_call") (n := 52) (i := 22) (j := 46) c rfl rfl
  exact ⟨_, fd, glo_at X G c 22 rfl, F.kp, F.binds (ps := ["process", "number", "given"]) (fun _ _ _ _ _ _ us hl => match us, hl with | [_, _, _], _ => rfl), ok_ac F (txt_at c) (free_at X G c 98 rfl) g2 g3 (d_answer_change X G c) (d_answer_query X G c) (d_answer_query_with X G c)⟩
theorem d_answers (X : K.In h) (G : h.Ns mainGlobals mg) (c : SE K) (hT : He.tupB K "ARGUMENT_COUNTS" countsD = true) : Def P w K mg base "answers" ["calls"] 11 (spAns K) := by
  obtain ⟨t1, g1⟩ := int_at X G c 77 rfl
  obtain ⟨t2, g2⟩ := int_at X G c 69 rfl
  obtain ⟨fd, F⟩ := fun_at (x := "answers") (n := 53) (i := 23) (j := 47) c rfl rfl
  obtain ⟨fi, FI, _⟩ := meth_at (x := "__init__") (q := "Process.__init__") (n := 0) (i := 24) (j := 97) c rfl rfl
  have bI := FI.binds (ps := ["self", "regrind", "parts", "kept", "kept_of"]) (fun _ _ _ _ _ _ us hl => match us, hl with | [_, _, _, _, _], _ => rfl)
  exact ⟨_, fd, glo_at X G c 23 rfl, F.kp, F.binds (ps := ["calls"]) (fun _ _ _ _ _ _ us hl => match us, hl with | [_], _ => rfl),
    ok_ans F (txt_at c) (free_at X G c 98 rfl) g1 g2 (glo_at X G c 96 rfl) (fun H => He.tupB_ok hT H) (glo_at X G c 93 rfl) (He.mkr_ok (c.fact 95 (f := .mkr "Process") rfl)) bI (ok_init FI (txt_at c)) (d_answer_call X G c) (d_settings_allowed X G c)⟩
end
end Rg
set_option Elab.async false
set_option linter.all false
set_option maxRecDepth 100000
set_option maxHeartbeats 4000000
namespace Rg
open PySem PySem.Spec PyProof.Rows L2
open PySem.W (Codec)
theorem all_ok {P : Program} {w : World} {K : PySem.W.Frag} {h : Heap} {mg : Str → Option Value} {f0 : Addr} (X : K.In h) (G : h.Ns mainGlobals mg) (hf : mg "answers" = some (.ref f0)) (cc : obsR K = valR) :
    ∃ fd : FuncData, (∀ (s : Shared) (us : List Value), us.length = (["calls"] : List Str).length → BindsTo s fd ⟨us, []⟩ ((["calls"] : List Str).zip us)) ∧
      ∀ base : Heap, K.In base → base.Ns mainGlobals mg → FnOk P w K mg base CX0 11 f0 fd ["calls"] (spAns K) := by
  have c : SE K := congrArg Prod.fst cc
  have hT : He.tupB K "ARGUMENT_COUNTS" countsD = true := congrArg Prod.snd cc
  have e := hf.symm.trans (glo_at X G c 23 rfl)
  cases e
  obtain ⟨t1, g1⟩ := int_at X G c 77 rfl
  obtain ⟨t2, g2⟩ := int_at X G c 69 rfl
  obtain ⟨fd, F⟩ := fun_at (x := "answers") (n := 53) (i := 23) (j := 47) c rfl rfl
  obtain ⟨fi, FI, _⟩ := meth_at (x := "__init__") (q := "Process.__init__") (n := 0) (i := 24) (j := 97) c rfl rfl
  have bI := FI.binds (ps := ["self", "regrind", "parts", "kept", "kept_of"]) (fun _ _ _ _ _ _ us hl => match us, hl with | [_, _, _, _, _], _ => rfl)
  refine ⟨fd, ?_, fun base _ _ => ok_ans F (txt_at c) (free_at X G c 98 rfl) g1 g2 (glo_at X G c 96 rfl) (fun H => He.tupB_ok hT H) (glo_at X G c 93 rfl) (He.mkr_ok (c.fact 95 (f := .mkr "Process") rfl)) bI (ok_init FI (txt_at c)) (d_answer_call X G c) (d_settings_allowed X G c)⟩
  obtain ⟨oc, od, kV, doc, pm, an, cdv, ct, osl, rfl, lk, hcd⟩ := F.ex
  intro s us hu
  match us, hu with
  | [_], _ => exact .of_eq rfl
end Rg
open PySem PySem.W PyProof.Rows
set_option maxRecDepth 100000 in
set_option maxHeartbeats 0 in
theorem PySem.Challenge.cw_regroundshots_s01_answers_holds : PySem.Challenge.rw_regroundshots_s01_answers.Holds := by
  w_on
  refine HeadRun.head_spec (r := Rg.row) (q := PySem.W.view Rg.row.prog [53]) (H := Rg.hookR) (ob := Rg.obR) (M := 2000) (loose := Rg.loose) (d := HeadRun.topDef Rg.row.prog 53) (kwd := []) Rg.obR_eq (by kernel_rfl) (fun s => by kernel_rfl) Rg.runR
    (by kernel_rfl) (by kernel_rfl) (by kernel_rfl) os_shapes (by first | assumption | decide +kernel) (by decide +kernel) ⟨rfl, rfl, rfl, rfl, rfl, by decide +kernel⟩ ?hw ?hc
  case hw => exact ⟨[.list [.int 17]], by decide +kernel, by decide +kernel⟩
  case hc =>
    intro w s₀ s₁ mg mb G Y
    obtain ⟨K0, KX, cc⟩ := Y
    refine L2.walk_specK (r := Rg.row) (k := 11) (CX := L2.CX0) (ps := ["calls"]) (sp := Rg.spAns) (K := fun _ => K0) (YP := fun w' h' => w' = w ∧ h' = s₁.heap) (by decide +kernel) (by kernel_rfl) rfl ⟨rfl, by decide, by decide⟩ ?hY ?F ?S (fun _ _ _ _ z => z) w s₀ s₁ mg mb G ⟨rfl, rfl⟩
    case hY =>
      rintro w' h' ⟨rfl, rfl⟩
      exact KX
    case F =>
      rintro w' mg' fa' h' ⟨rfl, rfl⟩ X' G' hm
      have e : (HeadRun.topDef Rg.row.prog 53).name = ("answers" : PySem.Str) := by kernel_rfl
      rw [e] at hm
      exact Rg.all_ok X' G' hm cc
    case S =>
      intro K H xs a hO hwi hask hx
      cases hx with
      | cons h1 h2 =>
        cases h2
        cases h1 with
        | lst hs ha =>
          have e := L2.ints_dw a.1 _ ha
          subst e
          have q : ((Codec.inLen 0 400 a.1 && a.1.all (Codec.inInt (-2147483648) 2147483647)) && true) = true := hwi
          rw [Bool.and_eq_true, Bool.and_eq_true] at q
          refine ⟨_, a.1, rfl, hs, hask, fun z hz => ?_, fun H' p hp => .lst (L2.SqL.of hp) (L2.dw_ints _)⟩
          have q2 := List.all_eq_true.mp q.1.2 z hz
          unfold Codec.inInt at q2
          rw [Bool.and_eq_true] at q2
          exact ⟨of_decide_eq_true q2.1, of_decide_eq_true q2.2⟩
#print axioms PySem.Challenge.cw_regroundshots_s01_answers_holds
