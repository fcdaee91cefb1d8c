import PyProof.Rows.All
import Wide.All
import OpenK.AllK
import Wide.FinOn
import KE.KDictWalk
import KE.KPairComp
import PyProof.Rows.TupDisplay
import HandS.Base
import HandS.Call
import HandS.List
import HandS.Comp
import HandS.Dict
import HandS.Iter
import Open.SpecLaws
import KE.OsGo
import HandS.ForSpec
import HandS.ForMost
import HandS.Wide
import HandS.CallLocal
import HandS.Walk
import PySem.Challenge.RW_toldapartdesk_s01_answers
namespace My
open Kp340
/-! ### Fractions in lowest terms -/
theorem fr_pos {a b : Int} (hb : 0 < b) : fr a b = (a / (Int.gcd a b : Int), b / (Int.gcd a b : Int)) := by
  have hg : Nat.gcd a.natAbs b.natAbs ≠ 0 := by
    intro h
    have := Nat.eq_zero_of_gcd_eq_zero_right h
    omega
  unfold fr
  simp only [if_neg hg]
  rw [if_neg (by omega)]
  rfl
theorem gcd_pos {a b : Int} (hb : 0 < b) : (0 : Int) < (Int.gcd a b : Int) := by
  have : Int.gcd a b ≠ 0 := by
    intro h
    have := Nat.eq_zero_of_gcd_eq_zero_right (m := a.natAbs) (n := b.natAbs) h
    omega
  omega
theorem fr_scale {a b k : Int} (hb : 0 < b) (hk : 0 < k) : fr (a * k) (b * k) = fr a b := by
  have hbk : 0 < b * k := Int.mul_pos hb hk
  rw [fr_pos hbk, fr_pos hb]
  have e : (Int.gcd (a * k) (b * k) : Int) = (Int.gcd a b : Int) * k := by
    rw [Int.gcd_mul_right]
    have : (k.natAbs : Int) = k := Int.natAbs_of_nonneg (by omega)
    rw [Int.natCast_mul, this]
  rw [e, Int.mul_ediv_mul_of_pos_left _ _ hk, Int.mul_ediv_mul_of_pos_left _ _ hk]
theorem fr_eq {a b c d : Int} (hb : 0 < b) (hd : 0 < d) (h : a * d = c * b) : fr a b = fr c d := by
  rw [← fr_scale hb hd, ← fr_scale hd hb, h, Int.mul_comm b d]
theorem fr_den {a b : Int} (hb : 0 < b) : 0 < (fr a b).2 := by
  rw [fr_pos hb]
  have hg := gcd_pos (a := a) hb
  have hd : (Int.gcd a b : Int) ∣ b := Int.gcd_dvd_right _ _
  exact Int.ediv_pos_of_pos_of_dvd hb (Int.le_of_lt hg) hd
theorem fr_cross {a b : Int} (hb : 0 < b) : (fr a b).1 * b = a * (fr a b).2 := by
  rw [fr_pos hb]
  have h1 : (Int.gcd a b : Int) ∣ a := Int.gcd_dvd_left _ _
  have h2 : (Int.gcd a b : Int) ∣ b := Int.gcd_dvd_right _ _
  obtain ⟨x, hx⟩ := h1
  obtain ⟨y, hy⟩ := h2
  have hg := gcd_pos (a := a) hb
  generalize hgg : (Int.gcd a b : Int) = g at *
  show a / g * b = a * (b / g)
  rw [hx, hy, Int.mul_ediv_cancel_left _ (by omega), Int.mul_ediv_cancel_left _ (by omega)]
  rw [Int.mul_assoc g x y, Int.mul_left_comm]
theorem fr_inj {a b c d : Int} (hb : 0 < b) (hd : 0 < d) (h : fr a b = fr c d) : a * d = c * b := by
  have h1 := fr_cross (a := a) hb
  have h2 := fr_cross (a := c) hd
  have p := fr_den (a := c) hd
  rw [h] at h1
  generalize (fr c d).1 = x at *
  generalize (fr c d).2 = y at *
  have : (a * d) * y = (c * b) * y := by
    rw [Int.mul_right_comm a d y, ← h1, Int.mul_right_comm c b y, ← h2, Int.mul_right_comm]
  exact Int.eq_of_mul_eq_mul_right (by omega) this
theorem fr_iff {a b c d : Int} (hb : 0 < b) (hd : 0 < d) : fr a b = fr c d ↔ a * d = c * b := ⟨fr_inj hb hd, fr_eq hb hd⟩
theorem fr_zero {b : Int} (hb : 0 < b) : fr 0 b = (0, 1) := (fr_eq (c := 0) (d := 1) hb (by decide) (by omega)).trans (by decide)
theorem fr_mul {a b c d : Int} (hb : 0 < b) (hd : 0 < d) : mul (fr a b) (fr c d) = fr (a * c) (b * d) := by
  unfold mul
  refine fr_eq (Int.mul_pos (fr_den hb) (fr_den hd)) (Int.mul_pos hb hd) ?_
  have h1 := fr_cross (a := a) hb
  have h2 := fr_cross (a := c) hd
  generalize (fr a b).1 = x at *
  generalize (fr a b).2 = x' at *
  generalize (fr c d).1 = y at *
  generalize (fr c d).2 = y' at *
  calc x * y * (b * d) = (x * b) * (y * d) := by ac_rfl
    _ = (a * x') * (c * y') := by rw [h1, h2]
    _ = a * c * (x' * y') := by ac_rfl
theorem fr_add {a b c d : Int} (hb : 0 < b) (hd : 0 < d) : add (fr a b) (fr c d) = fr (a * d + c * b) (b * d) := by
  unfold add
  refine fr_eq (Int.mul_pos (fr_den hb) (fr_den hd)) (Int.mul_pos hb hd) ?_
  have h1 := fr_cross (a := a) hb
  have h2 := fr_cross (a := c) hd
  generalize (fr a b).1 = x at *
  generalize (fr a b).2 = x' at *
  generalize (fr c d).1 = y at *
  generalize (fr c d).2 = y' at *
  rw [Int.add_mul, Int.add_mul]
  have e1 : x * y' * (b * d) = (x * b) * (y' * d) := by ac_rfl
  have e2 : y * x' * (b * d) = (y * d) * (x' * b) := by ac_rfl
  rw [e1, e2, h1, h2]
  have e3 : a * x' * (y' * d) = a * d * (x' * y') := by ac_rfl
  have e4 : c * y' * (x' * b) = c * b * (x' * y') := by ac_rfl
  rw [e3, e4]
theorem fr_add_same {a c b : Int} (hb : 0 < b) : add (fr a b) (fr c b) = fr (a + c) b := by
  rw [fr_add hb hb, ← Int.add_mul]
  exact fr_scale hb hb
theorem fr_neg {a b : Int} (hb : 0 < b) : neg (fr a b) = fr (-a) b := by
  rw [fr_pos hb, fr_pos hb]
  have e : Int.gcd (-a) b = Int.gcd a b := Int.neg_gcd
  unfold neg
  rw [e]
  have hd : (Int.gcd a b : Int) ∣ a := Int.gcd_dvd_left _ _
  rw [Int.neg_ediv_of_dvd hd]
theorem fr_sub {a b c d : Int} (hb : 0 < b) (hd : 0 < d) : Kp346.sub (fr a b) (fr c d) = fr (a * d - c * b) (b * d) := by
  unfold Kp346.sub
  rw [fr_neg hd, fr_add hb hd]
  congr 1
  rw [Int.neg_mul]
  omega
theorem fr_sub_same {a c b : Int} (hb : 0 < b) : Kp346.sub (fr a b) (fr c b) = fr (a - c) b := by
  unfold Kp346.sub
  rw [fr_neg hb, fr_add_same hb]
  rfl
theorem fr_lt {a b c d : Int} (hb : 0 < b) (hd : 0 < d) : Kp346.ltF (fr a b) (fr c d) = decide (a * d < c * b) := by
  unfold Kp346.ltF
  have h1 := fr_cross (a := a) hb
  have h2 := fr_cross (a := c) hd
  have p1 := fr_den (a := a) hb
  have p2 := fr_den (a := c) hd
  generalize (fr a b).1 = x at *
  generalize (fr a b).2 = x' at *
  generalize (fr c d).1 = y at *
  generalize (fr c d).2 = y' at *
  have hbd : 0 < b * d := Int.mul_pos hb hd
  have hxy : 0 < x' * y' := Int.mul_pos p1 p2
  have e : (x * y') * (b * d) = (a * d) * (x' * y') := by
    have : (x * y') * (b * d) = (x * b) * (y' * d) := by ac_rfl
    rw [this, h1]; ac_rfl
  have e' : (y * x') * (b * d) = (c * b) * (x' * y') := by
    have : (y * x') * (b * d) = (y * d) * (x' * b) := by ac_rfl
    rw [this, h2]; ac_rfl
  have : (x * y' < y * x') ↔ (a * d < c * b) := by
    constructor
    · intro h
      have := Int.mul_lt_mul_of_pos_right h hbd
      rw [e, e'] at this
      exact Int.lt_of_mul_lt_mul_right this (Int.le_of_lt hxy)
    · intro h
      have := Int.mul_lt_mul_of_pos_right h hxy
      rw [← e, ← e'] at this
      exact Int.lt_of_mul_lt_mul_right this (Int.le_of_lt hbd)
  exact decide_eq_decide.mpr this
theorem fr_one : fr 1 1 = (1, 1) := by decide
theorem fr_half : fr 1 2 = (1, 2) := by decide
theorem fr_nil : fr 0 1 = (0, 1) := by decide
theorem ofNat_fr (n : Nat) : ofNat n = fr n 1 := by
  rw [fr_pos (by decide)]
  simp [ofNat]
theorem fr_sign {a b : Int} (hb : 0 < b) : (fr a b).1 < 0 ↔ a < 0 := by
  have h1 := fr_cross (a := a) hb
  have p1 := fr_den (a := a) hb
  generalize (fr a b).1 = x at *
  generalize (fr a b).2 = x' at *
  constructor
  · intro h
    have := Int.mul_neg_of_neg_of_pos h hb
    rw [h1] at this
    exact Int.neg_of_mul_neg_left this p1
  · intro h
    have := Int.mul_neg_of_neg_of_pos h p1
    rw [← h1] at this
    exact Int.neg_of_mul_neg_left this hb
theorem fr_num_zero {a b : Int} (hb : 0 < b) : (fr a b).1 = 0 ↔ a = 0 := by
  have h1 := fr_cross (a := a) hb
  have p1 := fr_den (a := a) hb
  constructor
  · intro h
    rw [h, Int.zero_mul] at h1
    rcases Int.mul_eq_zero.mp h1.symm with h | h <;> omega
  · intro h
    subst h
    rw [Int.zero_mul] at h1
    rcases Int.mul_eq_zero.mp h1 with h | h <;> omega
theorem fr_abs {a b : Int} (hb : 0 < b) : Kp385.absF (fr a b) = fr (if a < 0 then -a else a) b := by
  unfold Kp385.absF
  by_cases h : a < 0
  · rw [if_pos ((fr_sign hb).mpr h), if_pos h, ← fr_nil, fr_sub (by decide) hb]
    congr 1 <;> omega
  · rw [if_neg (fun h' => h ((fr_sign hb).mp h')), if_neg h]
/-- sums over one lower number -/
def isum : List Int → Int
  | [] => 0
  | x :: l => x + isum l
theorem foldl_add {b : Int} (hb : 0 < b) : ∀ (l : List Int) (x : Int), (l.map fun a => fr a b).foldl add (fr x b) = fr (x + isum l) b
  | [], x => by simp [isum]
  | a :: l, x => by
    rw [List.map_cons, List.foldl_cons, fr_add_same hb, foldl_add hb l]
    congr 1
    simp only [isum]
    omega
theorem sumF_fr {b : Int} (hb : 0 < b) (l : List Int) : sumF (l.map fun a => fr a b) = fr (isum l) b := by
  unfold sumF
  rw [← fr_zero hb, foldl_add hb]
  congr 1
  omega
theorem sumF_map {α : Type} {b : Int} (hb : 0 < b) (l : List α) (g : α → Fr) (f : α → Int) (h : ∀ x ∈ l, g x = fr (f x) b) : sumF (l.map g) = fr (isum (l.map f)) b := by
  rw [← sumF_fr hb, List.map_map]
  congr 1
  exact List.map_congr_left fun x hx => h x hx
end My
namespace My
open Kp340
/-! ### Words and their letters' counts -/
def words (a : Nat) : Nat → List (List Nat)
  | 0 => [[]]
  | n + 1 => (words a n).flatMap fun w => (List.range a).map fun l => w ++ [l]
def cnt (a : Nat) (w : List Nat) : List Nat := (List.range a).map fun l => w.count l
def inc (a : Nat) (c : List Nat) (l : Nat) : List Nat := (List.range a).map fun j => c.getD j 0 + if j = l then 1 else 0
theorem getD_map_range {β : Type} {a j : Nat} (f : Nat → β) (z : β) (h : j < a) : ((List.range a).map f).getD j z = f j := by
  rw [List.getD_eq_getElem?_getD, List.getElem?_map, List.getElem?_range h]
  rfl
theorem cnt_snoc (a : Nat) (w : List Nat) (l : Nat) : cnt a (w ++ [l]) = inc a (cnt a w) l := by
  unfold cnt inc
  refine List.map_congr_left fun j hj => ?_
  rw [getD_map_range _ _ (List.mem_range.mp hj), List.count_append]
  congr 1
  by_cases h : j = l
  · subst h
    simp
  · rw [if_neg h]
    simp [Ne.symm h]
theorem isum_append : ∀ (l m : List Int), isum (l ++ m) = isum l + isum m
  | [], m => by simp [isum]
  | x :: l, m => by
    simp only [List.cons_append, isum, isum_append l m]
    omega
theorem isum_flatMap {α β : Type} (f : α → List β) (g : β → Int) : ∀ l : List α, isum ((l.flatMap f).map g) = isum (l.map fun x => isum ((f x).map g))
  | [] => rfl
  | x :: l => by
    rw [List.flatMap_cons, List.map_append, isum_append, isum_flatMap f g l]
    rfl
theorem isum_mul {α : Type} (k : Int) (f : α → Int) : ∀ l : List α, isum (l.map fun x => k * f x) = k * isum (l.map f)
  | [] => by simp [isum]
  | x :: l => by
    simp only [List.map_cons, isum, isum_mul k f l, Int.mul_add]
theorem isum_add {α : Type} (f g : α → Int) : ∀ l : List α, isum (l.map fun x => f x + g x) = isum (l.map f) + isum (l.map g)
  | [] => by simp [isum]
  | x :: l => by
    simp only [List.map_cons, isum, isum_add f g l]
    omega
theorem isum_congr {α : Type} {f g : α → Int} {l : List α} (h : ∀ x ∈ l, f x = g x) : isum (l.map f) = isum (l.map g) := by
  rw [List.map_congr_left h]
/-! ### One key once -/
def lsum (k : List Nat) : List (List Nat × Nat) → Nat
  | [] => 0
  | p :: l => (if p.1 == k then p.2 else 0) + lsum k l
theorem isum_one (g : List Nat → Int) (k : List Nat) (m : Nat) : ∀ K : List (List Nat), K.Nodup → isum (K.map fun x => ((if k == x then m else 0 : Nat) : Int) * g x) = if k ∈ K then (m : Int) * g k else 0
  | [], _ => rfl
  | x :: K, h => by
    have h' := List.nodup_cons.mp h
    rw [List.map_cons, isum, isum_one g k m K h'.2]
    by_cases e : k = x
    · subst e
      rw [if_neg h'.1, if_pos List.mem_cons_self]
      simp
    · have : (k == x) = false := by simp [e]
      rw [this]
      simp [e]
theorem merge (g : List Nat → Int) (K : List (List Nat)) (hK : K.Nodup) : ∀ L : List (List Nat × Nat), (∀ p ∈ L, p.1 ∈ K) → isum (L.map fun p => (p.2 : Int) * g p.1) = isum (K.map fun k => (lsum k L : Int) * g k)
  | [], _ => by
    have : isum (K.map fun k => (lsum k [] : Int) * g k) = isum (K.map fun k => 0 * g k) := rfl
    rw [this, isum_mul]
    simp [isum]
  | p :: L, h => by
    have ih := merge g K hK L fun q hq => h q (List.mem_cons_of_mem _ hq)
    rw [List.map_cons, isum, ih]
    have e : (K.map fun k => (lsum k (p :: L) : Int) * g k) = K.map fun k => (((if p.1 == k then p.2 else 0 : Nat) : Int) * g k + (lsum k L : Int) * g k) := by
      refine List.map_congr_left fun k _ => ?_
      rw [lsum, Int.natCast_add, Int.add_mul]
    rw [e, isum_add, isum_one g p.1 p.2 K hK, if_pos (h p List.mem_cons_self)]
/-! ### Grouping words by their counts -/
def spread (a n : Nat) : List (List Nat × Nat) := (Kp385.counts a n).flatMap fun c => (List.range a).map fun l => (inc a c l, Kp385.manyWords c)
def chk (a n : Nat) : Bool := decide (Kp385.counts a (n + 1)).Nodup && ((spread a n).all fun p => (Kp385.counts a (n + 1)).contains p.1) && (Kp385.counts a (n + 1)).all fun k => lsum k (spread a n) == Kp385.manyWords k
theorem group_step (a n : Nat) (h : chk a n = true) (ih : ∀ g : List Nat → Int, isum ((words a n).map fun w => g (cnt a w)) = isum ((Kp385.counts a n).map fun c => (Kp385.manyWords c : Int) * g c)) (g : List Nat → Int) :
    isum ((words a (n + 1)).map fun w => g (cnt a w)) = isum ((Kp385.counts a (n + 1)).map fun c => (Kp385.manyWords c : Int) * g c) := by
  unfold chk at h
  rw [Bool.and_eq_true, Bool.and_eq_true] at h
  obtain ⟨⟨h1, h2⟩, h3⟩ := h
  have hN := of_decide_eq_true h1
  have e1 : isum ((words a (n + 1)).map fun w => g (cnt a w)) = isum ((words a n).map fun w => (fun c => isum ((List.range a).map fun l => g (inc a c l))) (cnt a w)) := by
    show isum (((words a n).flatMap fun w => (List.range a).map fun l => w ++ [l]).map fun w => g (cnt a w)) = _
    rw [isum_flatMap]
    refine isum_congr fun w _ => ?_
    rw [List.map_map]
    refine isum_congr fun l _ => ?_
    show g (cnt a (w ++ [l])) = _
    rw [cnt_snoc]
  rw [e1, ih fun c => isum ((List.range a).map fun l => g (inc a c l))]
  have e2 : isum ((Kp385.counts a n).map fun c => (Kp385.manyWords c : Int) * (fun c => isum ((List.range a).map fun l => g (inc a c l))) c) = isum ((spread a n).map fun p => (p.2 : Int) * g p.1) := by
    unfold spread
    rw [isum_flatMap]
    refine isum_congr fun c _ => ?_
    rw [List.map_map, ← isum_mul]
    rfl
  rw [e2, merge g _ hN]
  · refine isum_congr fun k hk => ?_
    have := List.all_eq_true.mp h3 k hk
    rw [beq_iff_eq.mp this]
  · intro p hp
    have := List.all_eq_true.mp h2 p hp
    exact List.contains_iff_mem.mp this
theorem group_zero (a : Nat) (h : Kp385.counts a 0 = [cnt a []]) (h1 : Kp385.manyWords (cnt a []) = 1) (g : List Nat → Int) : isum ((words a 0).map fun w => g (cnt a w)) = isum ((Kp385.counts a 0).map fun c => (Kp385.manyWords c : Int) * g c) := by
  rw [h]
  simp [words, isum, h1]
theorem chk2 : ((List.range 6).all fun n => chk 2 n) = true := by decide +kernel
theorem chk3 : ((List.range 6).all fun n => chk 3 n) = true := by decide +kernel
theorem chk4 : ((List.range 6).all fun n => chk 4 n) = true := by decide +kernel
theorem group {a : Nat} (h : ((List.range 6).all fun n => chk a n) = true) (h0 : Kp385.counts a 0 = [cnt a []]) (h1 : Kp385.manyWords (cnt a []) = 1) : ∀ (n : Nat), n ≤ 6 → ∀ g : List Nat → Int, isum ((words a n).map fun w => g (cnt a w)) = isum ((Kp385.counts a n).map fun c => (Kp385.manyWords c : Int) * g c)
  | 0, _, g => group_zero a h0 h1 g
  | n + 1, hn, g => group_step a n (List.all_eq_true.mp h n (List.mem_range.mpr (by omega))) (group h h0 h1 n (by omega)) g
theorem group_all {a n : Nat} (h2 : 2 ≤ a) (h4 : a ≤ 4) (hn : n ≤ 6) (g : List Nat → Int) : isum ((words a n).map fun w => g (cnt a w)) = isum ((Kp385.counts a n).map fun c => (Kp385.manyWords c : Int) * g c) := by
  have : a = 2 ∨ a = 3 ∨ a = 4 := by omega
  rcases this with rfl | rfl | rfl
  · exact group chk2 (by decide +kernel) (by decide +kernel) n hn g
  · exact group chk3 (by decide +kernel) (by decide +kernel) n hn g
  · exact group chk4 (by decide +kernel) (by decide +kernel) n hn g
end My
namespace My
open Kp340
/-! ### How likely words are -/
def iprod : List Int → Int
  | [] => 1
  | x :: l => x * iprod l
def nsum : List Nat → Nat
  | [] => 0
  | x :: l => x + nsum l
def T (ws : List Nat) : Int := (Kp346.total ws : Int)
/-- a word's weight: its letters' weights, multiplied -/
def wW (ws : List Nat) (w : List Nat) : Int := iprod (w.map fun l => (ws.getD l 0 : Int))
def PC (ws : List Nat) (c : List Nat) : Int := iprod (c.zipIdx.map fun x => (ws.getD x.2 0 : Int) ^ x.1)
theorem ipow_pos {t : Int} (ht : 0 < t) : ∀ n : Nat, 0 < t ^ n
  | 0 => by simp
  | n + 1 => by
    rw [Int.pow_succ]
    exact Int.mul_pos (ipow_pos ht n) ht
theorem foldl_mul {α : Type} {t : Int} (ht : 0 < t) (g : α → Fr) (f : α → Int) (e : α → Nat) : ∀ (l : List α), (∀ x ∈ l, g x = fr (f x) (t ^ e x)) → ∀ (u : Int) (k : Nat), (l.map g).foldl mul (fr u (t ^ k)) = fr (u * iprod (l.map f)) (t ^ (k + nsum (l.map e)))
  | [], _, u, k => by simp [iprod, nsum]
  | x :: l, h, u, k => by
    rw [List.map_cons, List.foldl_cons, h x List.mem_cons_self, fr_mul (ipow_pos ht _) (ipow_pos ht _), ← Int.pow_add]
    rw [foldl_mul ht g f e l fun y hy => h y (List.mem_cons_of_mem _ hy)]
    simp only [List.map_cons, iprod, nsum]
    rw [Int.mul_assoc, Nat.add_assoc]
theorem product_fr {α : Type} {t : Int} (ht : 0 < t) (g : α → Fr) (f : α → Int) (e : α → Nat) (l : List α) (h : ∀ x ∈ l, g x = fr (f x) (t ^ e x)) : Kp385.product (l.map g) = fr (iprod (l.map f)) (t ^ nsum (l.map e)) := by
  have := foldl_mul ht g f e l h 1 0
  unfold Kp385.product
  rw [Int.pow_zero, fr_one, Int.one_mul, Nat.zero_add] at this
  exact this
theorem nsum_ones {α : Type} : ∀ l : List α, nsum (l.map fun _ => 1) = l.length
  | [] => rfl
  | x :: l => by
    simp only [List.map_cons, nsum, nsum_ones l, List.length_cons]
    omega
theorem letter_fr (d : Kp385.Desk) (s l : Nat) : Kp385.letter d s l = fr ((Kp385.source d s).getD l 0 : Nat) (T (Kp385.source d s)) := rfl
theorem chance_fr (d : Kp385.Desk) (s : Nat) (w : List Nat) (ht : 0 < T (Kp385.source d s)) : Kp385.chance d s w = fr (wW (Kp385.source d s) w) (T (Kp385.source d s) ^ w.length) := by
  have := product_fr ht (Kp385.letter d s) (fun l => ((Kp385.source d s).getD l 0 : Int)) (fun _ => 1) w fun l _ => by
    rw [letter_fr, Int.pow_one]
  rw [nsum_ones] at this
  exact this
theorem pow_fr {t x : Int} (ht : 0 < t) : ∀ k : Nat, Kp385.pow (fr x t) k = fr (x ^ k) (t ^ k)
  | 0 => by
    rw [Int.pow_zero, Int.pow_zero]
    exact fr_one.symm
  | k + 1 => by
    rw [Kp385.pow, pow_fr ht k, fr_mul ht (ipow_pos ht k), Int.pow_succ', Int.pow_succ']
theorem nsum_zipIdx : ∀ (c : List Nat) (i : Nat), nsum ((c.zipIdx i).map fun x => x.1) = nsum c
  | [], _ => rfl
  | x :: c, i => by
    rw [List.zipIdx_cons, List.map_cons, nsum, nsum, nsum_zipIdx c]
theorem chanceC_fr (d : Kp385.Desk) (s : Nat) (c : List Nat) (ht : 0 < T (Kp385.source d s)) : Kp385.chanceC d s c = fr (PC (Kp385.source d s) c) (T (Kp385.source d s) ^ nsum c) := by
  have := product_fr ht (fun x : Nat × Nat => Kp385.pow (Kp385.letter d s x.2) x.1) (fun x => ((Kp385.source d s).getD x.2 0 : Int) ^ x.1) (fun x => x.1) c.zipIdx fun x _ => by
    rw [letter_fr, pow_fr ht]
  rw [nsum_zipIdx] at this
  exact this
/-! ### Words' letters, counts' sums -/
theorem counts_ok : ∀ (a n : Nat) (c : List Nat), c ∈ Kp385.counts a n → c.length = a ∧ nsum c = n
  | 0, n, c, h => by
    unfold Kp385.counts at h
    by_cases e : n = 0
    · rw [if_pos e] at h
      rw [List.mem_singleton.mp h]
      exact ⟨rfl, e.symm⟩
    · rw [if_neg e] at h
      cases h
  | a + 1, n, c, h => by
    unfold Kp385.counts at h
    obtain ⟨k, hk, h⟩ := List.mem_flatMap.mp h
    obtain ⟨l, hl, rfl⟩ := List.mem_map.mp h
    have := counts_ok a (n - k) l hl
    have hk := List.mem_range.mp hk
    simp only [List.length_cons, nsum]
    omega
theorem words_ok : ∀ (a n : Nat) (w : List Nat), w ∈ words a n → w.length = n ∧ ∀ l ∈ w, l < a
  | a, 0, w, h => by
    rw [List.mem_singleton.mp h]
    exact ⟨rfl, fun _ h => by cases h⟩
  | a, n + 1, w, h => by
    obtain ⟨v, hv, h⟩ := List.mem_flatMap.mp h
    obtain ⟨l, hl, rfl⟩ := List.mem_map.mp h
    obtain ⟨h1, h2⟩ := words_ok a n v hv
    refine ⟨by simp [h1], fun x hx => ?_⟩
    rcases List.mem_append.mp hx with hx | hx
    · exact h2 x hx
    · rw [List.mem_singleton.mp hx]
      exact List.mem_range.mp hl
theorem iprod_append : ∀ (l m : List Int), iprod (l ++ m) = iprod l * iprod m
  | [], m => by simp [iprod]
  | x :: l, m => by
    simp only [List.cons_append, iprod, iprod_append l m, Int.mul_assoc]
theorem wW_snoc (ws w : List Nat) (l : Nat) : wW ws (w ++ [l]) = wW ws w * (ws.getD l 0 : Int) := by
  unfold wW
  rw [List.map_append, iprod_append]
  simp [iprod]
theorem iprod_mul {α : Type} (f g : α → Int) : ∀ l : List α, iprod (l.map fun x => f x * g x) = iprod (l.map f) * iprod (l.map g)
  | [] => by simp [iprod]
  | x :: l => by
    simp only [List.map_cons, iprod, iprod_mul f g l]
    ac_rfl
theorem iprod_one (f : Nat → Int) (l : Nat) : ∀ K : List Nat, K.Nodup → iprod (K.map fun x => if x = l then f x else 1) = if l ∈ K then f l else 1
  | [], _ => rfl
  | x :: K, h => by
    have h' := List.nodup_cons.mp h
    rw [List.map_cons, iprod, iprod_one f l K h'.2]
    by_cases e : x = l
    · subst e
      rw [if_pos rfl, if_neg h'.1, if_pos List.mem_cons_self, Int.mul_one]
    · rw [if_neg e, Int.one_mul]
      have : l ∈ x :: K ↔ l ∈ K := by simp [Ne.symm e]
      simp only [this]
theorem zipIdx_range (f : Nat → Nat) (g : Nat → Nat → Int) (a : Nat) : (((List.range a).map f).zipIdx.map fun x => g x.2 x.1) = (List.range a).map fun j => g j (f j) := by
  apply List.ext_getElem?
  intro i
  by_cases h : i < a
  · simp [h]
  · simp [h]
theorem PC_cnt (ws : List Nat) (a : Nat) (w : List Nat) : PC ws (cnt a w) = iprod ((List.range a).map fun j => (ws.getD j 0 : Int) ^ (w.count j)) := by
  unfold PC cnt
  rw [zipIdx_range (fun l => w.count l) (fun j k => (ws.getD j 0 : Int) ^ k) a]
theorem iprod_map_one {α : Type} : ∀ l : List α, iprod (l.map fun _ => 1) = 1
  | [] => rfl
  | x :: l => by
    rw [List.map_cons, iprod, iprod_map_one l]
    rfl
theorem wW_PC (ws : List Nat) (a : Nat) : ∀ w : List Nat, (∀ l ∈ w, l < a) → wW ws w = PC ws (cnt a w)
  | [], _ => by
    rw [PC_cnt]
    have : ((List.range a).map fun j => (ws.getD j 0 : Int) ^ (([] : List Nat).count j)) = (List.range a).map fun _ => 1 := by
      refine List.map_congr_left fun j _ => ?_
      rw [List.count_nil, Int.pow_zero]
    rw [this, iprod_map_one]
    rfl
  | l :: w, h => by
    have ih := wW_PC ws a w fun x hx => h x (List.mem_cons_of_mem _ hx)
    have hl := h l List.mem_cons_self
    rw [PC_cnt]
    have : ((List.range a).map fun j => (ws.getD j 0 : Int) ^ ((l :: w).count j)) = (List.range a).map fun j => (fun j => (ws.getD j 0 : Int) ^ (w.count j)) j * (fun j => if j = l then (ws.getD j 0 : Int) else 1) j := by
      refine List.map_congr_left fun j _ => ?_
      show (ws.getD j 0 : Int) ^ ((l :: w).count j) = (ws.getD j 0 : Int) ^ (w.count j) * (if j = l then (ws.getD j 0 : Int) else 1)
      by_cases e : j = l
      · subst e
        rw [if_pos rfl, List.count_cons_self, Int.pow_succ]
      · rw [if_neg e, List.count_cons_of_ne (Ne.symm e), Int.mul_one]
    rw [this, iprod_mul, iprod_one (fun j => (ws.getD j 0 : Int)) l _ List.nodup_range, if_pos (List.mem_range.mpr hl), ← PC_cnt, ← ih]
    show (ws.getD l 0 : Int) * wW ws w = _
    rw [Int.mul_comm]
/-! ### What the program makes: the weights of all words -/
def wow (ws : List Nat) : Nat → List Int
  | 0 => [1]
  | n + 1 => (wow ws n).flatMap fun p => ws.map fun (x : Nat) => p * (x : Int)
theorem map_range_getD (ws : List Nat) : (List.range ws.length).map (fun l => ws.getD l 0) = ws := by
  apply List.ext_getElem?
  intro i
  by_cases h : i < ws.length
  · simp [h, List.getD_eq_getElem?_getD]
  · simp [h]
theorem flatMap_congr {α β : Type} {f g : α → List β} : ∀ {l : List α}, (∀ x ∈ l, f x = g x) → l.flatMap f = l.flatMap g
  | [], _ => rfl
  | x :: l, h => by
    rw [List.flatMap_cons, List.flatMap_cons, h x List.mem_cons_self, flatMap_congr fun y hy => h y (List.mem_cons_of_mem _ hy)]
theorem wow_words (ws : List Nat) : ∀ n, wow ws n = (words ws.length n).map (wW ws)
  | 0 => rfl
  | n + 1 => by
    rw [wow, wow_words ws n, words, List.map_flatMap, List.flatMap_map]
    refine flatMap_congr fun w _ => ?_
    rw [List.map_map]
    show ws.map (fun (x : Nat) => wW ws w * (x : Int)) = (List.range ws.length).map fun l => wW ws (w ++ [l])
    have : ((List.range ws.length).map fun l => wW ws (w ++ [l])) = ((List.range ws.length).map fun l => ws.getD l 0).map fun (x : Nat) => wW ws w * (x : Int) := by
      rw [List.map_map]
      exact List.map_congr_left fun l _ => wW_snoc ws w l
    rw [this, map_range_getD]
end My
namespace My
open Kp340
def iabs (x : Int) : Int := if x < 0 then -x else x
/-- a desk as the program keeps it -/
structure Ok (d : Kp385.Desk) : Prop where
  lo : 2 ≤ d.a
  hi : d.a ≤ 4
  lp : d.plain.length = d.a
  lq : d.other.length = d.a
  tp : 0 < T d.plain
  tq : 0 < T d.other
  bp : ∀ x ∈ d.plain, x ≤ 9
  bq : ∀ x ∈ d.other, x ≤ 9
theorem Ok.ts {d : Kp385.Desk} (O : Ok d) (s : Nat) : 0 < T (Kp385.source d s) := by
  unfold Kp385.source
  split
  · exact O.tp
  · exact O.tq
theorem Ok.ls {d : Kp385.Desk} (O : Ok d) (s : Nat) : (Kp385.source d s).length = d.a := by
  unfold Kp385.source
  split
  · exact O.lp
  · exact O.lq
/-- sums over counts are sums over words -/
theorem sum_words {d : Kp385.Desk} (O : Ok d) {n : Nat} (hn : n ≤ 6) {b : Int} (hb : 0 < b) (F : List Nat → Fr) (g : List Nat → Int) (G : List Nat → Int)
    (hF : ∀ c, c.length = d.a → nsum c = n → F c = fr ((Kp385.manyWords c : Int) * g c) b) (hG : ∀ w, w.length = n → (∀ l ∈ w, l < d.a) → g (cnt d.a w) = G w) :
    sumF ((Kp385.counts d.a n).map F) = fr (isum ((words d.a n).map G)) b := by
  rw [sumF_map hb _ F (fun c => (Kp385.manyWords c : Int) * g c) fun c hc => hF c (counts_ok _ _ c hc).1 (counts_ok _ _ c hc).2]
  rw [← group_all O.lo O.hi hn g]
  congr 1
  exact isum_congr fun w hw => hG w (words_ok _ _ w hw).1 (words_ok _ _ w hw).2
/-- .. of some of them -/
theorem sum_filter {α : Type} {b : Int} (hb : 0 < b) (p : α → Bool) (F : α → Fr) : ∀ l : List α, (∀ x ∈ l, ∃ a, F x = fr a b) → sumF ((l.filter p).map F) = sumF (l.map fun x => if p x then F x else (0, 1)) := by
  intro l h
  have key : ∀ (l : List α), (∀ x ∈ l, ∃ a, F x = fr a b) → ∀ u : Int, ((l.filter p).map F).foldl add (fr u b) = (l.map fun x => if p x then F x else (0, 1)).foldl add (fr u b) := by
    intro l
    induction l with
    | nil => intro _ _; rfl
    | cons x l ih =>
      intro h u
      obtain ⟨a, ha⟩ := h x List.mem_cons_self
      have ih := ih fun y hy => h y (List.mem_cons_of_mem _ hy)
      cases hp : p x with
      | true =>
        rw [List.filter_cons_of_pos hp, List.map_cons, List.foldl_cons, List.map_cons, List.foldl_cons, hp, if_pos rfl, ha, fr_add_same hb]
        exact ih _
      | false =>
        rw [List.filter_cons_of_neg (by simp [hp]), List.map_cons, List.foldl_cons, hp, if_neg (by decide)]
        have e : add (fr u b) (0, 1) = fr u b := by rw [← fr_zero hb, fr_add_same hb, Int.add_zero]
        rw [e]
        exact ih _
  unfold sumF
  rw [← fr_zero hb]
  have := key l h 0
  rw [fr_zero hb] at this ⊢
  exact this
theorem many_fr (m : Nat) {x b : Int} (hb : 0 < b) : mul (ofNat m) (fr x b) = fr ((m : Int) * x) b := by
  rw [ofNat_fr, fr_mul (by decide) hb, Int.one_mul]
/-- the gap of a word: both chances as parts of one whole -/
def gapW (p q : List Nat) (n : Nat) (w : List Nat) : Int := iabs (wW p w * T q ^ n - wW q w * T p ^ n)
def gap (d : Kp385.Desk) (n : Nat) : Int := isum ((words d.a n).map (gapW d.plain d.other n))
theorem apart_fr {d : Kp385.Desk} (O : Ok d) {n : Nat} (hn : n ≤ 6) : Kp385.apart d n = fr (gap d n) (2 * T d.plain ^ n * T d.other ^ n) := by
  have h0 := ipow_pos O.tp n
  have h1 := ipow_pos O.tq n
  have h01 := Int.mul_pos h0 h1
  unfold Kp385.apart
  rw [sum_words O hn h01 _ (fun c => iabs (PC d.plain c * T d.other ^ n - PC d.other c * T d.plain ^ n)) (gapW d.plain d.other n)]
  · rw [← fr_half, fr_mul h01 (by decide), Int.mul_one]
    show fr (gap d n) _ = _
    congr 1
    rw [Int.mul_comm _ 2, Int.mul_assoc]
  · intro c _ hc
    show mul (ofNat (Kp385.manyWords c)) (Kp385.absF (Kp346.sub (Kp385.chanceC d 0 c) (Kp385.chanceC d 1 c))) = _
    rw [chanceC_fr d 0 c O.tp, chanceC_fr d 1 c O.tq, hc]
    show mul (ofNat (Kp385.manyWords c)) (Kp385.absF (Kp346.sub (fr (PC d.plain c) (T d.plain ^ n)) (fr (PC d.other c) (T d.other ^ n)))) = _
    rw [fr_sub h0 h1, fr_abs h01, many_fr _ h01]
    rfl
  · intro w _ hw
    unfold gapW
    rw [wW_PC d.plain d.a w hw, wW_PC d.other d.a w hw]
theorem errs_fr {d : Kp385.Desk} (O : Ok d) {n : Nat} (hn : n ≤ 6) : Kp385.errs d n = fr (2 * T d.plain ^ n * T d.other ^ n - gap d n) (4 * T d.plain ^ n * T d.other ^ n) := by
  have h0 := ipow_pos O.tp n
  have h1 := ipow_pos O.tq n
  have h2 : 0 < 2 * T d.plain ^ n * T d.other ^ n := Int.mul_pos (Int.mul_pos (by decide) h0) h1
  unfold Kp385.errs
  rw [apart_fr O hn, ← fr_one, fr_sub (by decide) h2, ← fr_half, fr_mul (Int.mul_pos (by decide) h2) (by decide)]
  congr 1
  · omega
  · have : 4 * T d.plain ^ n * T d.other ^ n = 2 * (2 * T d.plain ^ n * T d.other ^ n) := by
      rw [show (4 : Int) = 2 * 2 from rfl, Int.mul_assoc, Int.mul_assoc, Int.mul_assoc]
    rw [this]
    omega
/-- a told test's: all words with k or more of a letter -/
def toldW (d : Kp385.Desk) (s l k n : Nat) : Int := isum ((words d.a n).map fun w => if k ≤ w.count l then wW (Kp385.source d s) w else 0)
theorem cnt_getD {a l : Nat} (h : l < a) (w : List Nat) : (cnt a w).getD l 0 = w.count l := getD_map_range _ _ h
theorem ite_mul0 {c : Bool} {m x b : Int} (hb : 0 < b) : (if c = true then fr (m * x) b else (0, 1)) = fr (m * if c = true then x else 0) b := by
  cases c
  · simp [fr_zero hb]
  · simp
theorem atLeast_fr {d : Kp385.Desk} (O : Ok d) {s l k n : Nat} (hn : n ≤ 6) (hl : l < d.a) : Kp385.atLeast d s l k n = fr (toldW d s l k n) (T (Kp385.source d s) ^ n) := by
  have hb := ipow_pos (O.ts s) n
  unfold Kp385.atLeast
  have hF : ∀ c, nsum c = n → mul (ofNat (Kp385.manyWords c)) (Kp385.chanceC d s c) = fr ((Kp385.manyWords c : Int) * PC (Kp385.source d s) c) (T (Kp385.source d s) ^ n) := by
    intro c hc
    rw [chanceC_fr d s c (O.ts s), hc, many_fr _ hb]
  rw [sum_filter hb _ _ _ fun c hc => ⟨_, hF c (counts_ok _ _ c hc).2⟩]
  rw [sum_words O hn hb _ (fun c => if decide (k ≤ c.getD l 0) = true then PC (Kp385.source d s) c else 0) (fun w => if k ≤ w.count l then wW (Kp385.source d s) w else 0)]
  · rfl
  · intro c _ hc
    show (if decide (k ≤ c.getD l 0) = true then mul (ofNat (Kp385.manyWords c)) (Kp385.chanceC d s c) else (0, 1)) = _
    rw [hF c hc]
    exact ite_mul0 hb
  · intro w _ hw
    show (if decide (k ≤ (cnt d.a w).getD l 0) = true then PC (Kp385.source d s) (cnt d.a w) else 0) = _
    rw [cnt_getD hl, wW_PC _ d.a w hw]
    simp only [decide_eq_true_eq]
/-- how likely words that are x by y times as likely by the other source are -/
def aboveW (d : Kp385.Desk) (s n : Nat) (x y : Int) : Int := isum ((words d.a n).map fun w => if x * wW d.plain w * T d.other ^ n ≤ wW d.other w * (y * T d.plain ^ n) then wW (Kp385.source d s) w else 0)
theorem above_fr {d : Kp385.Desk} (O : Ok d) {s n : Nat} {x y : Int} (hn : n ≤ 6) (hy : 0 < y) : Kp385.above d s n (fr x y) = fr (aboveW d s n x y) (T (Kp385.source d s) ^ n) := by
  have hb := ipow_pos (O.ts s) n
  have h0 := ipow_pos O.tp n
  have h1 := ipow_pos O.tq n
  unfold Kp385.above
  have hF : ∀ c, nsum c = n → mul (ofNat (Kp385.manyWords c)) (Kp385.chanceC d s c) = fr ((Kp385.manyWords c : Int) * PC (Kp385.source d s) c) (T (Kp385.source d s) ^ n) := by
    intro c hc
    rw [chanceC_fr d s c (O.ts s), hc, many_fr _ hb]
  rw [sum_filter hb _ _ _ fun c hc => ⟨_, hF c (counts_ok _ _ c hc).2⟩]
  have hL : ∀ c, nsum c = n → (!Kp346.ltF (Kp385.chanceC d 1 c) (mul (fr x y) (Kp385.chanceC d 0 c))) = decide (x * PC d.plain c * T d.other ^ n ≤ PC d.other c * (y * T d.plain ^ n)) := by
    intro c hc
    rw [chanceC_fr d 0 c O.tp, chanceC_fr d 1 c O.tq, hc]
    show (!Kp346.ltF (fr (PC d.other c) (T d.other ^ n)) (mul (fr x y) (fr (PC d.plain c) (T d.plain ^ n)))) = _
    rw [fr_mul hy h0, fr_lt h1 (Int.mul_pos hy h0), ← decide_not]
    exact decide_eq_decide.mpr (by omega)
  rw [sum_words O hn hb _ (fun c => if decide (x * PC d.plain c * T d.other ^ n ≤ PC d.other c * (y * T d.plain ^ n)) = true then PC (Kp385.source d s) c else 0) (fun w => if x * wW d.plain w * T d.other ^ n ≤ wW d.other w * (y * T d.plain ^ n) then wW (Kp385.source d s) w else 0)]
  · rfl
  · intro c _ hc
    show (if (!Kp346.ltF (Kp385.chanceC d 1 c) (mul (fr x y) (Kp385.chanceC d 0 c))) = true then mul (ofNat (Kp385.manyWords c)) (Kp385.chanceC d s c) else (0, 1)) = _
    rw [hF c hc, hL c hc]
    exact ite_mul0 hb
  · intro w _ hw
    show (if decide _ = true then _ else _) = _
    rw [wW_PC d.plain d.a w hw, wW_PC d.other d.a w hw, wW_PC _ d.a w hw]
    simp only [decide_eq_true_eq]
/-! ### All words together; counts of words; what is left over -/
theorem isum_map_mul_right {α : Type} (k : Int) (f : α → Int) (l : List α) : isum (l.map fun x => f x * k) = isum (l.map f) * k := by
  have : (l.map fun x => f x * k) = l.map fun x => k * f x := List.map_congr_left fun x _ => Int.mul_comm _ _
  rw [this, isum_mul, Int.mul_comm]
theorem foldl_total : ∀ (l : List Nat) (x : Nat), ((l.foldl (fun (a b : Nat) => a + b) x : Nat) : Int) = (x : Int) + isum (l.map fun (k : Nat) => (k : Int))
  | [], x => by simp [isum]
  | y :: l, x => by
    rw [List.foldl_cons, foldl_total l]
    simp only [List.map_cons, isum]
    omega
theorem T_isum (ws : List Nat) : T ws = isum (ws.map fun (k : Nat) => (k : Int)) := by
  unfold T Kp346.total
  rw [foldl_total]
  omega
theorem isum_words (ws : List Nat) : ∀ n, isum ((words ws.length n).map (wW ws)) = T ws ^ n
  | 0 => rfl
  | n + 1 => by
    rw [← wow_words, wow]
    have e := isum_flatMap (fun p : Int => ws.map fun (x : Nat) => p * (x : Int)) (fun z => z) (wow ws n)
    rw [List.map_id'] at e
    rw [e]
    have : ((wow ws n).map fun p => isum ((ws.map fun (x : Nat) => p * (x : Int)).map fun z => z)) = (wow ws n).map fun p => p * T ws := by
      refine List.map_congr_left fun p _ => ?_
      rw [List.map_id', isum_mul p (fun (x : Nat) => (x : Int)), ← T_isum]
    rw [this, isum_map_mul_right, List.map_id', wow_words, isum_words ws n, Int.pow_succ]
/-- its misses: all words with fewer than k -/
def fewW (d : Kp385.Desk) (s l k n : Nat) : Int := isum ((words d.a n).map fun w => if w.count l < k then wW (Kp385.source d s) w else 0)
theorem few_told {d : Kp385.Desk} (O : Ok d) (s l k n : Nat) : toldW d s l k n + fewW d s l k n = T (Kp385.source d s) ^ n := by
  unfold toldW fewW
  rw [← isum_add, ← isum_words, O.ls s]
  refine isum_congr fun w _ => ?_
  by_cases h : k ≤ w.count l
  · rw [if_pos h, if_neg (by omega), Int.add_zero]
  · rw [if_neg h, if_pos (by omega), Int.zero_add]
theorem misses_fr {d : Kp385.Desk} (O : Ok d) {l k n : Nat} (hn : n ≤ 6) (hl : l < d.a) : Kp346.sub (1, 1) (Kp385.atLeast d 1 l k n) = fr (fewW d 1 l k n) (T d.other ^ n) := by
  have hb := ipow_pos O.tq n
  have e := few_told O 1 l k n
  rw [atLeast_fr O hn hl]
  show Kp346.sub (1, 1) (fr (toldW d 1 l k n) (T d.other ^ n)) = _
  have e' : toldW d 1 l k n + fewW d 1 l k n = T d.other ^ n := e
  rw [← fr_one, fr_sub (by decide) hb]
  congr 1 <;> omega
/-- how often a told test errs -/
theorem told_errs_fr {d : Kp385.Desk} (O : Ok d) {l k n : Nat} (hn : n ≤ 6) (hl : l < d.a) : mul (add (Kp385.atLeast d 0 l k n) (Kp346.sub (1, 1) (Kp385.atLeast d 1 l k n))) (1, 2) = fr (toldW d 0 l k n * T d.other ^ n + fewW d 1 l k n * T d.plain ^ n) (2 * T d.plain ^ n * T d.other ^ n) := by
  have h0 := ipow_pos O.tp n
  have h1 := ipow_pos O.tq n
  rw [misses_fr O hn hl, atLeast_fr O hn hl]
  show mul (add (fr (toldW d 0 l k n) (T d.plain ^ n)) (fr (fewW d 1 l k n) (T d.other ^ n))) (1, 2) = _
  rw [fr_add h0 h1, ← fr_half, fr_mul (Int.mul_pos h0 h1) (by decide), Int.mul_one]
  congr 1
  rw [Int.mul_comm _ 2, Int.mul_assoc]
/-- how many words the best test says other of -/
def saysW (d : Kp385.Desk) (n : Nat) : Int := isum ((words d.a n).map fun w => if wW d.plain w * T d.other ^ n < wW d.other w * T d.plain ^ n then 1 else 0)
theorem total_filter (p : List Nat → Bool) (m : List Nat → Nat) : ∀ l : List (List Nat), T ((l.filter p).map m) = isum (l.map fun c => (m c : Int) * if p c = true then 1 else 0)
  | [] => rfl
  | c :: l => by
    have ih := total_filter p m l
    rw [T_isum] at ih ⊢
    cases h : p c with
    | true =>
      rw [List.filter_cons_of_pos h, List.map_cons, List.map_cons, isum, ih, List.map_cons, isum, h, if_pos rfl, Int.mul_one]
    | false =>
      rw [List.filter_cons_of_neg (by simp [h]), ih, List.map_cons, isum, h, if_neg (by decide), Int.mul_zero, Int.zero_add]
theorem says_is {d : Kp385.Desk} (O : Ok d) {n : Nat} (hn : n ≤ 6) : ((Kp346.total (((Kp385.counts d.a n).filter fun c => Kp346.ltF (Kp385.chanceC d 0 c) (Kp385.chanceC d 1 c)).map Kp385.manyWords) : Nat) : Int) = saysW d n := by
  have h0 := ipow_pos O.tp n
  have h1 := ipow_pos O.tq n
  show T _ = _
  rw [total_filter]
  have e : isum ((Kp385.counts d.a n).map fun c => (Kp385.manyWords c : Int) * if Kp346.ltF (Kp385.chanceC d 0 c) (Kp385.chanceC d 1 c) = true then 1 else 0) = isum ((Kp385.counts d.a n).map fun c => (Kp385.manyWords c : Int) * (fun c => if PC d.plain c * T d.other ^ n < PC d.other c * T d.plain ^ n then 1 else 0) c) := by
    refine isum_congr fun c hc => ?_
    have hc := (counts_ok _ _ c hc).2
    rw [chanceC_fr d 0 c O.tp, chanceC_fr d 1 c O.tq, hc]
    show (Kp385.manyWords c : Int) * (if Kp346.ltF (fr (PC d.plain c) (T d.plain ^ n)) (fr (PC d.other c) (T d.other ^ n)) = true then 1 else 0) = _
    rw [fr_lt h0 h1]
    simp only [decide_eq_true_eq]
  rw [e, ← group_all O.lo O.hi hn]
  refine isum_congr fun w hw => ?_
  have hw := (words_ok _ _ w hw).2
  show (if PC d.plain (cnt d.a w) * T d.other ^ n < PC d.other (cnt d.a w) * T d.plain ^ n then 1 else 0) = _
  rw [wW_PC d.plain d.a w hw, wW_PC d.other d.a w hw]
end My
namespace My
/-! ### Calls read off one list -/
def nI (l : List Nat) : List Int := l.map fun (n : Nat) => (n : Int)
def cmd (p : Nat) (xs : List Nat) : Kp385.Call := match p with
  | 0 => .begin_ (xs.getD 0 0)
  | 1 => .plain xs
  | 2 => .other xs
  | 3 => .sourceIs (xs.getD 0 0)
  | 4 => .swap
  | 5 => .letter (xs.getD 0 0) (xs.getD 1 0)
  | 6 => .chance (xs.getD 0 0) (xs.drop 1)
  | 7 => .likelier xs
  | 8 => .ratio xs
  | 9 => .apart (xs.getD 0 0)
  | 10 => .errs (xs.getD 0 0)
  | 11 => .needed (xs.getD 0 0)
  | 12 => .alarms (xs.getD 0 0) (xs.getD 1 0) (xs.getD 2 0)
  | 13 => .misses (xs.getD 0 0) (xs.getD 1 0) (xs.getD 2 0)
  | 14 => .bestTold (xs.getD 0 0)
  | 15 => .above (xs.getD 0 0) (xs.getD 1 0) (xs.getD 2 0) (xs.getD 3 0)
  | 16 => .says (xs.getD 0 0)
  | 17 => .ifPlain (xs.getD 0 0) (xs.drop 1)
  | 18 => .sameSource
  | _ => .count
def fitN (p : Nat) (xs : List Nat) : Prop := match p with
  | 0 | 3 | 9 | 10 | 11 | 14 | 16 => xs.length = 1
  | 4 | 18 | 19 => xs.length = 0
  | 5 => xs.length = 2
  | 6 | 17 => 1 ≤ xs.length
  | 12 | 13 => xs.length = 3
  | 15 => xs.length = 4
  | _ => True
theorem nat_of {z : Int} (h : Kp385Neutral.natural z = true) : ((z.toNat : Nat) : Int) = z ∧ z.toNat < 4294967296 := by
  unfold Kp385Neutral.natural at h
  rw [Bool.and_eq_true] at h
  have h1 := of_decide_eq_true h.1
  have h2 := of_decide_eq_true h.2
  omega
theorem nats_of : ∀ {l : List Int}, l.all Kp385Neutral.natural = true → nI (l.map Int.toNat) = l ∧ ∀ x ∈ l.map Int.toNat, x < 4294967296
  | [], _ => ⟨rfl, fun _ h => by cases h⟩
  | z :: l, h => by
    rw [List.all_cons, Bool.and_eq_true] at h
    obtain ⟨h1, h2⟩ := h
    obtain ⟨e1, e2⟩ := nat_of h1
    obtain ⟨f1, f2⟩ := nats_of h2
    refine ⟨?_, fun x hx => ?_⟩
    · show ((z.toNat : Nat) : Int) :: nI (l.map Int.toNat) = z :: l
      rw [e1, f1]
    · rw [List.map_cons] at hx
      rcases List.mem_cons.mp hx with e | e
      · rw [e]
        exact e2
      · exact f2 x e
structure Asked (c : Kp385Neutral.Call) (p : Nat) (xs : List Nat) : Prop where
  lt : p < 20
  eq : c = [(p : Int) :: nI xs]
  fit : fitN p xs
  small : ∀ x ∈ xs, x < 4294967296
  call : Kp385Neutral.callOf c = some (cmd p xs)
theorem asked_all {c : Kp385Neutral.Call} {l : List Int} (p : Nat) (hp : p < 20) (hc : c = [(p : Int) :: l]) (hl : l.all Kp385Neutral.natural = true) (hf : fitN p (l.map Int.toNat)) (hk : Kp385Neutral.callOf [(p : Int) :: l] = some (cmd p (l.map Int.toNat))) : ∃ p xs, Asked c p xs := by
  obtain ⟨e1, e2⟩ := nats_of hl
  refine ⟨p, l.map Int.toNat, hp, ?_, hf, e2, ?_⟩
  · rw [e1]
    exact hc
  · rw [hc]
    exact hk
theorem asked_inv {c : Kp385Neutral.Call} (h : Kp385Neutral.asked1 c = true) : ∃ p xs, Asked c p xs := by
  unfold Kp385Neutral.asked1 at h
  split at h
  · exact asked_all 0 (by decide) rfl (by simpa using h) rfl rfl
  · exact asked_all 1 (by decide) rfl (by rw [Bool.and_eq_true] at h; exact h.1) trivial rfl
  · exact asked_all 2 (by decide) rfl (by rw [Bool.and_eq_true] at h; exact h.1) trivial rfl
  · exact asked_all 3 (by decide) rfl (by simpa using h) rfl rfl
  · exact asked_all 4 (by decide) rfl rfl rfl rfl
  · exact asked_all 5 (by decide) rfl (by simpa using h) rfl rfl
  · rename_i a l
    refine asked_all 6 (l := a :: l) (by decide) rfl ?_ ?_ rfl
    · rw [Bool.and_eq_true, Bool.and_eq_true] at h
      rw [List.all_cons, Bool.and_eq_true]
      exact ⟨h.1, h.2.1⟩
    · show 1 ≤ (List.map Int.toNat (a :: l)).length
      simp
  · exact asked_all 7 (by decide) rfl (by rw [Bool.and_eq_true] at h; exact h.1) trivial rfl
  · exact asked_all 8 (by decide) rfl (by rw [Bool.and_eq_true] at h; exact h.1) trivial rfl
  · exact asked_all 9 (by decide) rfl (by simpa using h) rfl rfl
  · exact asked_all 10 (by decide) rfl (by simpa using h) rfl rfl
  · exact asked_all 11 (by decide) rfl (by simpa using h) rfl rfl
  · exact asked_all 12 (by decide) rfl (by simpa using h) rfl rfl
  · exact asked_all 13 (by decide) rfl (by simpa using h) rfl rfl
  · exact asked_all 14 (by decide) rfl (by simpa using h) rfl rfl
  · exact asked_all 15 (by decide) rfl (by simpa using h) rfl rfl
  · exact asked_all 16 (by decide) rfl (by simpa using h) rfl rfl
  · rename_i a l
    refine asked_all 17 (l := a :: l) (by decide) rfl ?_ ?_ rfl
    · rw [Bool.and_eq_true, Bool.and_eq_true] at h
      rw [List.all_cons, Bool.and_eq_true]
      exact ⟨h.1, h.2.1⟩
    · show 1 ≤ (List.map Int.toNat (a :: l)).length
      simp
  · exact asked_all 18 (by decide) rfl rfl rfl rfl
  · exact asked_all 19 (by decide) rfl rfl rfl rfl
  · cases h
/-- one call at the list's head -/
theorem rows_nil {k : Nat} {t u : List Int} (h : PyFlat.rows k t = some ([], u)) : k = 0 ∧ u = t := by
  cases k with
  | zero =>
    have := Option.some.inj h
    exact ⟨rfl, (congrArg Prod.snd this).symm⟩
  | succ k =>
    unfold PyFlat.rows at h
    split at h
    · cases h
    · split at h
      · cases h
      · cases h
theorem call_head {p : Int} {r t : List Int} {q : Nat} {xs : List Nat} (h : PyWide.call (p :: r) = some ([(q : Int) :: nI xs], t)) : p = q ∧ r = (xs.length : Int) :: (nI xs ++ 0 :: t) := by
  unfold PyWide.call at h
  dsimp only at h
  split at h
  · cases h
  · cases h
  · rename_i ns k t' hr
    by_cases hk : 0 ≤ k
    · rw [if_pos hk] at h
      split at h
      · cases h
      · rename_i ys u hrow
        have h := Option.some.inj h
        have h1 := congrArg Prod.fst h
        have h2 : u = t := congrArg Prod.snd h
        have h3 : p :: ns = (q : Int) :: nI xs := (List.cons.inj h1).1
        have h4 : ys = [] := (List.cons.inj h1).2
        subst h4 h2
        obtain ⟨h5, h6⟩ := rows_nil hrow
        subst h6
        have h7 : p = q := (List.cons.inj h3).1
        have h8 : ns = nI xs := (List.cons.inj h3).2
        refine ⟨h7, ?_⟩
        unfold PyFlat.row at hr
        split at hr
        · cases hr
        · rename_i n r' 
          split at hr
          · rename_i hn
            have hr := Option.some.inj hr
            have e1 : r'.take n.toNat = ns := congrArg Prod.fst hr
            have e2 : r'.drop n.toNat = k :: u := congrArg Prod.snd hr
            have e3 : r' = ns ++ k :: u := by rw [← e1, ← e2, List.take_append_drop]
            have e4 : ns.length = n.toNat := by
              rw [← e1, List.length_take]
              omega
            have e5 : k = 0 := by omega
            have e6 : xs.length = n.toNat := by
              rw [← e4, h8]
              exact (List.length_map ..).symm
            rw [e3, e5, h8]
            congr 1
            omega
          · cases hr
    · rw [if_neg hk] at h
      cases h
/-- what is left of the list, and what is left to be answered -/
structure Left (l : List Int) (cs : List Kp385Neutral.Call) : Prop where
  ex : ∃ f, PyWide.calls f l = some cs
  asked : ∀ c ∈ cs, Kp385Neutral.asked1 c = true
theorem Left.nil {cs : List Kp385Neutral.Call} (h : Left [] cs) : cs = [] := by
  obtain ⟨f, h⟩ := h.ex
  cases f <;> exact (Option.some.inj h).symm
theorem Left.cons {z : Int} {l : List Int} {cs : List Kp385Neutral.Call} (h : Left (z :: l) cs) : ∃ (p : Nat) (xs : List Nat) (t : List Int) (cs' : List Kp385Neutral.Call), p < 20 ∧ fitN p xs ∧ (∀ x ∈ xs, x < 4294967296) ∧ z :: l = (p : Int) :: (xs.length : Int) :: (nI xs ++ 0 :: t) ∧
    cs = [(p : Int) :: nI xs] :: cs' ∧ Kp385Neutral.callOf [(p : Int) :: nI xs] = some (cmd p xs) ∧ Left t cs' := by
  obtain ⟨f, hf⟩ := h.ex
  cases f with
  | zero => cases hf
  | succ f =>
    unfold PyWide.calls at hf
    split at hf
    · cases hf
    · rename_i c t hc
      split at hf
      · cases hf
      · rename_i cs' hcs
        have e := Option.some.inj hf
        subst e
        obtain ⟨p, xs, A⟩ := asked_inv (h.asked c List.mem_cons_self)
        have ec := A.eq
        subst ec
        obtain ⟨e1, e2⟩ := call_head hc
        exact ⟨p, xs, t, cs', A.lt, A.fit, A.small, by rw [e1, e2], rfl, A.call, ⟨f, hcs⟩, fun c hc => h.asked c (List.mem_cons_of_mem _ hc)⟩
def tell (st : Kp385.State) (cs : List Kp385Neutral.Call) : List Int := PyFlat.told (PyFlat.played Kp385Neutral.step st cs)
def ansI (x : Kp385.Ans) : List Int := x.num :: x.nums
theorem tell_cons {st : Kp385.State} {c : Kp385Neutral.Call} {k : Kp385.Call} {cs : List Kp385Neutral.Call} (h : Kp385Neutral.callOf c = some k) : tell st (c :: cs) = ((ansI (Kp385.step st k).2).length : Int) :: ansI (Kp385.step st k).2 ++ tell (Kp385.step st k).1 cs := by
  have e : Kp385Neutral.step st c = ((Kp385.step st k).1, ansI (Kp385.step st k).2) := by
    unfold Kp385Neutral.step
    rw [h]
    rfl
  unfold tell
  rw [PyFlat.played, e]
  unfold PyFlat.told
  rw [List.flatMap_cons]
theorem start_left {ns : List Int} (h : PyKp385.answers_asked ns = true) : ∃ cs, Left ns cs ∧ PyKp385.answers ns = tell none cs ∧ (tell none cs).length ≤ 10000000 := by
  unfold PyKp385.answers_asked at h
  split at h
  · cases h
  · rename_i cs hc
    rw [Bool.and_eq_true, Bool.and_eq_true] at h
    obtain ⟨⟨_, h1⟩, h2⟩ := h
    have e : PyKp385.answers ns = tell none cs := by
      unfold PyKp385.answers
      rw [hc]
      rfl
    refine ⟨cs, ⟨⟨_, hc⟩, ?_⟩, e, ?_⟩
    · unfold Kp385Neutral.asked at h1
      rw [Bool.and_eq_true, Bool.and_eq_true] at h1
      exact List.all_eq_true.mp h1.2.2
    · rw [← e]
      exact of_decide_eq_true h2
end My
namespace My
open Kp340
/-! ### two sources with one total -/
def tot (ws : List Nat) : Nat := Kp346.total ws
theorem T_tot (ws : List Nat) : T ws = (tot ws : Int) := rfl
def lev (ps : List Nat) (t : Nat) : List Nat := ps.map fun x => x * t
theorem lev_len (ps : List Nat) (t : Nat) : (lev ps t).length = ps.length := List.length_map ..
theorem lev_getD (ps : List Nat) (t l : Nat) : (lev ps t).getD l 0 = ps.getD l 0 * t := by
  unfold lev
  rw [List.getD_eq_getElem?_getD, List.getElem?_map, List.getD_eq_getElem?_getD]
  cases ps[l]? with
  | none => simp
  | some x => rfl
theorem T_lev (ps : List Nat) (t : Nat) : T (lev ps t) = T ps * (t : Int) := by
  rw [T_isum, T_isum]
  unfold lev
  rw [List.map_map]
  have : (ps.map ((fun (k : Nat) => (k : Int)) ∘ fun x => x * t)) = ps.map fun (x : Nat) => (x : Int) * (t : Int) := List.map_congr_left fun x _ => Int.natCast_mul x t
  rw [this, isum_map_mul_right]
theorem wW_lev (ps : List Nat) (t : Nat) : ∀ w : List Nat, wW (lev ps t) w = wW ps w * (t : Int) ^ w.length
  | [] => rfl
  | l :: w => by
    have ih := wW_lev ps t w
    unfold wW at *
    rw [List.map_cons, List.map_cons, iprod, iprod, ih, lev_getD, Int.natCast_mul, List.length_cons, Int.pow_succ]
    ac_rfl
/-! ### a table of pairs -/
abbrev Tbl := List ((Int × Int) × Int)
def tsum (g : Int → Int → Int) (L : Tbl) : Int := isum (L.map fun e => e.2 * g e.1.1 e.1.2)
def addK (k : Int × Int) (m : Int) : Tbl → Tbl
  | [] => [(k, 0 + m)]
  | e :: L => if e.1 = k then (e.1, e.2 + m) :: L else e :: addK k m L
theorem tsum_add (g : Int → Int → Int) (k : Int × Int) (m : Int) : ∀ L : Tbl, tsum g (addK k m L) = tsum g L + m * g k.1 k.2
  | [] => by simp [addK, tsum, isum]
  | e :: L => by
    have ih := tsum_add g k m L
    unfold tsum at *
    unfold addK
    by_cases h : e.1 = k
    · rw [if_pos h, List.map_cons, List.map_cons, isum, isum, Int.add_mul, h]
      omega
    · rw [if_neg h, List.map_cons, List.map_cons, isum, isum, ih]
      omega
theorem addK_keys (k : Int × Int) (m : Int) : ∀ L : Tbl, ∀ x ∈ (addK k m L).map (·.1), x = k ∨ x ∈ L.map (·.1)
  | [], x, h => by
    left
    simpa [addK] using h
  | e :: L, x, h => by
    unfold addK at h
    by_cases z : e.1 = k
    · rw [if_pos z] at h
      right
      simpa using h
    · rw [if_neg z, List.map_cons] at h
      rcases List.mem_cons.mp h with h | h
      · right
        rw [h]
        exact List.mem_cons_self
      · rcases addK_keys k m L x h with h | h
        · exact .inl h
        · exact .inr (List.mem_cons_of_mem _ h)
theorem addK_nodup (k : Int × Int) (m : Int) : ∀ L : Tbl, (L.map (·.1)).Nodup → ((addK k m L).map (·.1)).Nodup
  | [], _ => by simp [addK]
  | e :: L, h => by
    rw [List.map_cons] at h
    have h' := List.nodup_cons.mp h
    unfold addK
    by_cases z : e.1 = k
    · rw [if_pos z]
      exact h
    · rw [if_neg z, List.map_cons]
      refine List.nodup_cons.mpr ⟨fun hm => ?_, addK_nodup k m L h'.2⟩
      rcases addK_keys k m L _ hm with q | q
      · exact z q
      · exact h'.1 q
theorem addK_len (k : Int × Int) (m : Int) : ∀ L : Tbl, (addK k m L).length ≤ L.length + 1
  | [] => by simp [addK]
  | e :: L => by
    have ih := addK_len k m L
    unfold addK
    split
    · simp
    · simp only [List.length_cons]
      omega
theorem addK_nn (k : Int × Int) {m : Int} (hm : 0 ≤ m) : ∀ L : Tbl, (∀ e ∈ L, 0 ≤ e.2) → ∀ e ∈ addK k m L, 0 ≤ e.2
  | [], _, e, h => by
    have : e = (k, 0 + m) := by simpa [addK] using h
    rw [this]
    show 0 ≤ 0 + m
    omega
  | x :: L, hL, e, h => by
    unfold addK at h
    have hx := hL x List.mem_cons_self
    by_cases z : x.1 = k
    · rw [if_pos z] at h
      rcases List.mem_cons.mp h with h | h
      · rw [h]
        show 0 ≤ x.2 + m
        omega
      · exact hL e (List.mem_cons_of_mem _ h)
    · rw [if_neg z] at h
      rcases List.mem_cons.mp h with h | h
      · rw [h]
        exact hx
      · exact addK_nn k hm L (fun e he => hL e (List.mem_cons_of_mem _ he)) e h
def grow1 (z : List (Nat × Nat)) (e : (Int × Int) × Int) (acc : Tbl) : Tbl := z.foldl (fun acc b => addK (e.1.1 * (b.1 : Int), e.1.2 * (b.2 : Int)) e.2 acc) acc
def grow (z : List (Nat × Nat)) (L : Tbl) : Tbl := L.foldl (fun acc e => grow1 z e acc) []
theorem grow1_snoc (z : List (Nat × Nat)) (b : Nat × Nat) (e : (Int × Int) × Int) (acc : Tbl) : grow1 (z ++ [b]) e acc = addK (e.1.1 * (b.1 : Int), e.1.2 * (b.2 : Int)) e.2 (grow1 z e acc) := by
  unfold grow1
  rw [List.foldl_append]
  rfl
theorem grow_snoc (z : List (Nat × Nat)) (L : Tbl) (e : (Int × Int) × Int) : grow z (L ++ [e]) = grow1 z e (grow z L) := by
  unfold grow
  rw [List.foldl_append]
  rfl
structure Good (L : Tbl) : Prop where
  nd : (L.map (·.1)).Nodup
  nn : ∀ e ∈ L, 0 ≤ e.2
theorem Good.add {L : Tbl} (G : Good L) (k : Int × Int) {m : Int} (hm : 0 ≤ m) : Good (addK k m L) := ⟨addK_nodup k m L G.nd, addK_nn k hm L G.nn⟩
theorem Good.grow1 {e : (Int × Int) × Int} (he : 0 ≤ e.2) : ∀ (z : List (Nat × Nat)) {L : Tbl}, Good L → Good (grow1 z e L)
  | [], _, G => G
  | b :: z, L, G => Good.grow1 (e := e) he z (G.add (e.1.1 * (b.1 : Int), e.1.2 * (b.2 : Int)) he)
theorem grow_good (z : List (Nat × Nat)) (L : Tbl) (h : ∀ e ∈ L, 0 ≤ e.2) : Good (grow z L) := by
  have key : ∀ (L acc : Tbl), (∀ e ∈ L, 0 ≤ e.2) → Good acc → Good (L.foldl (fun acc e => My.grow1 z e acc) acc) := by
    intro L
    induction L with
    | nil => intro acc _ G; exact G
    | cons e L ih =>
      intro acc h G
      exact ih _ (fun x hx => h x (List.mem_cons_of_mem _ hx)) (Good.grow1 (h e List.mem_cons_self) z G)
  exact key L [] h ⟨List.nodup_nil, fun _ h => by cases h⟩
theorem grow1_len (e : (Int × Int) × Int) : ∀ (z : List (Nat × Nat)) (L : Tbl), (grow1 z e L).length ≤ L.length + z.length
  | [], L => by simp [grow1]
  | b :: z, L => by
    have ih := grow1_len e z (addK (e.1.1 * (b.1 : Int), e.1.2 * (b.2 : Int)) e.2 L)
    have h1 := addK_len (e.1.1 * (b.1 : Int), e.1.2 * (b.2 : Int)) e.2 L
    have e1 : grow1 (b :: z) e L = grow1 z e (addK (e.1.1 * (b.1 : Int), e.1.2 * (b.2 : Int)) e.2 L) := rfl
    rw [e1, List.length_cons]
    omega
theorem grow_len (z : List (Nat × Nat)) (L : Tbl) : (grow z L).length ≤ L.length * z.length := by
  have key : ∀ (L acc : Tbl), (L.foldl (fun acc e => grow1 z e acc) acc).length ≤ acc.length + L.length * z.length := by
    intro L
    induction L with
    | nil => intro acc; simp
    | cons e L ih =>
      intro acc
      have h1 := ih (grow1 z e acc)
      have h2 := grow1_len e z acc
      rw [List.foldl_cons, List.length_cons, Nat.add_mul]
      omega
  have := key L []
  unfold grow
  simpa using this
theorem tsum_grow1 (g : Int → Int → Int) (e : (Int × Int) × Int) : ∀ (z : List (Nat × Nat)) (L : Tbl), tsum g (grow1 z e L) = tsum g L + e.2 * isum (z.map fun b => g (e.1.1 * (b.1 : Int)) (e.1.2 * (b.2 : Int)))
  | [], L => by simp [grow1, isum]
  | b :: z, L => by
    have ih := tsum_grow1 g e z (addK (e.1.1 * (b.1 : Int), e.1.2 * (b.2 : Int)) e.2 L)
    have e1 : grow1 (b :: z) e L = grow1 z e (addK (e.1.1 * (b.1 : Int), e.1.2 * (b.2 : Int)) e.2 L) := rfl
    rw [e1, ih, tsum_add, List.map_cons, isum, Int.mul_add]
    dsimp only
    omega
theorem tsum_grow (g : Int → Int → Int) (z : List (Nat × Nat)) (L : Tbl) : tsum g (grow z L) = tsum (fun x y => isum (z.map fun b => g (x * (b.1 : Int)) (y * (b.2 : Int)))) L := by
  have key : ∀ (L acc : Tbl), tsum g (L.foldl (fun acc e => grow1 z e acc) acc) = tsum g acc + tsum (fun x y => isum (z.map fun b => g (x * (b.1 : Int)) (y * (b.2 : Int)))) L := by
    intro L
    induction L with
    | nil => intro acc; simp [tsum, isum]
    | cons e L ih =>
      intro acc
      rw [List.foldl_cons, ih, tsum_grow1]
      have : tsum (fun x y => isum (z.map fun b => g (x * (b.1 : Int)) (y * (b.2 : Int)))) (e :: L) = e.2 * isum (z.map fun b => g (e.1.1 * (b.1 : Int)) (e.1.2 * (b.2 : Int))) + tsum (fun x y => isum (z.map fun b => g (x * (b.1 : Int)) (y * (b.2 : Int)))) L := rfl
      rw [this]
      omega
  have := key L []
  have e0 : tsum g [] = 0 := rfl
  rw [e0, Int.zero_add] at this
  exact this
/-- the table of all words of n letters, by two sources -/
def tabl (lp lq : List Nat) : Nat → Tbl
  | 0 => [((1, 1), 1)]
  | n + 1 => grow (lp.zip lq) (tabl lp lq n)
theorem zip_range {lp lq : List Nat} {a : Nat} (h1 : lp.length = a) (h2 : lq.length = a) : lp.zip lq = (List.range a).map fun l => (lp.getD l 0, lq.getD l 0) := by
  apply List.ext_getElem?
  intro i
  by_cases h : i < a
  · have i1 : i < lp.length := by omega
    have i2 : i < lq.length := by omega
    simp [List.getElem?_zip_eq_some, h, i1, i2, List.getD_eq_getElem?_getD]
  · have : (lp.zip lq).length ≤ i := by
      rw [List.length_zip]
      omega
    rw [List.getElem?_eq_none this]
    simp [h]
theorem tabl_rep {lp lq : List Nat} {a : Nat} (h1 : lp.length = a) (h2 : lq.length = a) : ∀ (n : Nat) (g : Int → Int → Int), tsum g (tabl lp lq n) = isum ((words a n).map fun w => g (wW lp w) (wW lq w))
  | 0, g => by
    show (1 : Int) * g 1 1 + 0 = g 1 1 + 0
    rw [Int.one_mul]
  | n + 1, g => by
    rw [tabl, tsum_grow, tabl_rep h1 h2 n]
    show _ = isum (((words a n).flatMap fun w => (List.range a).map fun l => w ++ [l]).map fun w => g (wW lp w) (wW lq w))
    rw [isum_flatMap]
    refine isum_congr fun w _ => ?_
    rw [zip_range h1 h2, List.map_map, List.map_map]
    refine isum_congr fun l _ => ?_
    show g (wW lp w * (lp.getD l 0 : Int)) (wW lq w * (lq.getD l 0 : Int)) = g (wW lp (w ++ [l])) (wW lq (w ++ [l]))
    rw [wW_snoc, wW_snoc]
theorem tabl_good (lp lq : List Nat) : ∀ n, Good (tabl lp lq n)
  | 0 => ⟨by simp [tabl], fun e h => by
      rw [List.mem_singleton.mp h]
      decide⟩
  | n + 1 => grow_good _ _ (tabl_good lp lq n).nn
theorem tabl_len {lp lq : List Nat} (h : lp.length ≤ 4) : ∀ n, (tabl lp lq n).length ≤ 4 ^ n
  | 0 => by simp [tabl]
  | n + 1 => by
    have ih := tabl_len (lq := lq) h n
    have h1 := grow_len (lp.zip lq) (tabl lp lq n)
    have h2 : (lp.zip lq).length ≤ 4 := by
      rw [List.length_zip]
      omega
    rw [tabl, Nat.pow_succ]
    exact Nat.le_trans h1 (Nat.mul_le_mul ih h2)
theorem words_len (a : Nat) : ∀ n, (words a n).length = a ^ n
  | 0 => rfl
  | n + 1 => by
    rw [words, List.length_flatMap, Nat.pow_succ, ← words_len a n]
    generalize words a n = l
    induction l with
    | nil => simp
    | cons x l ih =>
      rw [List.map_cons, List.sum_cons, ih, List.length_map, List.length_range, List.length_cons, Nat.add_mul]
      omega
theorem isum_const {α : Type} : ∀ l : List α, isum (l.map fun _ => 1) = l.length
  | [] => rfl
  | x :: l => by
    rw [List.map_cons, isum, isum_const l, List.length_cons]
    omega
theorem le_isum : ∀ {l : List Int}, (∀ x ∈ l, 0 ≤ x) → ∀ x ∈ l, x ≤ isum l
  | [], _, x, h => by cases h
  | y :: l, hl, x, h => by
    have nn : 0 ≤ isum l := by
      have hl' := fun x hx => hl x (List.mem_cons_of_mem _ hx)
      clear h hl
      induction l with
      | nil => exact Int.le_refl _
      | cons z l ih =>
        have h1 := hl' z List.mem_cons_self
        have h2 := ih fun x hx => hl' x (List.mem_cons_of_mem _ hx)
        rw [isum]
        omega
    have hy := hl y List.mem_cons_self
    rw [isum]
    rcases List.mem_cons.mp h with h | h
    · omega
    · have := le_isum (fun x hx => hl x (List.mem_cons_of_mem _ hx)) x h
      omega
theorem tabl_small {lp lq : List Nat} {a n : Nat} (h1 : lp.length = a) (h2 : lq.length = a) (ha : a ≤ 4) (hn : n ≤ 6) : ∀ e ∈ tabl lp lq n, 0 ≤ e.2 ∧ e.2 ≤ 4096 := by
  intro e he
  have G := (tabl_good lp lq n).nn
  refine ⟨G e he, ?_⟩
  have r := tabl_rep h1 h2 n fun _ _ => 1
  rw [isum_const, words_len] at r
  have h3 : a ^ n ≤ 4 ^ 6 := Nat.le_trans (Nat.pow_le_pow_left ha n) (Nat.pow_le_pow_right (by decide) hn)
  have h4 : e.2 ≤ tsum (fun _ _ => 1) (tabl lp lq n) := by
    unfold tsum
    refine le_isum (fun x hx => ?_) e.2 ?_
    · obtain ⟨y, hy, rfl⟩ := List.mem_map.mp hx
      have := G y hy
      show 0 ≤ y.2 * 1
      omega
    · exact List.mem_map.mpr ⟨e, he, Int.mul_one _⟩
  have h5 : (4 : Nat) ^ 6 = 4096 := by decide
  omega
end My
set_option linter.unusedVariables false
namespace My
open Kp340
/-! ### told tests -/
def toldN (ws : List Nat) (l k n : Nat) : Int := isum ((words ws.length n).map fun w => if k ≤ w.count l then wW ws w else 0)
def fewN (ws : List Nat) (l k n : Nat) : Int := isum ((words ws.length n).map fun w => if w.count l < k then wW ws w else 0)
theorem told_few (ws : List Nat) (l k n : Nat) : toldN ws l k n + fewN ws l k n = T ws ^ n := by
  unfold toldN fewN
  rw [← isum_add, ← isum_words]
  refine isum_congr fun w _ => ?_
  by_cases h : k ≤ w.count l
  · rw [if_pos h, if_neg (by omega), Int.add_zero]
  · rw [if_neg h, if_pos (by omega), Int.zero_add]
theorem told_zero (ws : List Nat) (l n : Nat) : toldN ws l 0 n = T ws ^ n := by
  unfold toldN
  rw [← isum_words]
  exact isum_congr fun w _ => if_pos (Nat.zero_le _)
theorem isum_single (x : Int) (l : Nat) : ∀ K : List Nat, K.Nodup → isum (K.map fun j => if j = l then x else 0) = if l ∈ K then x else 0
  | [], _ => rfl
  | y :: K, h => by
    have h' := List.nodup_cons.mp h
    rw [List.map_cons, isum, isum_single x l K h'.2]
    by_cases e : y = l
    · subst e
      rw [if_pos rfl, if_neg h'.1, if_pos List.mem_cons_self, Int.add_zero]
    · rw [if_neg e, Int.zero_add]
      have : l ∈ y :: K ↔ l ∈ K := by simp [Ne.symm e]
      simp only [this]
theorem T_range (ws : List Nat) : T ws = isum ((List.range ws.length).map fun j => (ws.getD j 0 : Int)) := by
  rw [T_isum]
  have e := congrArg (List.map fun (k : Nat) => (k : Int)) (map_range_getD ws)
  rw [List.map_map] at e
  rw [← e]
  rfl
theorem told_step {ws : List Nat} {l : Nat} (hl : l < ws.length) (k n : Nat) : toldN ws l k (n + 1) = (ws.getD l 0 : Int) * toldN ws l (k - 1) n + (T ws - (ws.getD l 0 : Int)) * toldN ws l k n := by
  unfold toldN
  show isum (((words ws.length n).flatMap fun w => (List.range ws.length).map fun j => w ++ [j]).map fun w => if k ≤ w.count l then wW ws w else 0) = _
  rw [isum_flatMap, ← isum_mul, ← isum_mul, ← isum_add]
  refine isum_congr fun w _ => ?_
  rw [List.map_map]
  have e1 : isum ((List.range ws.length).map ((fun w => if k ≤ w.count l then wW ws w else 0) ∘ fun j => w ++ [j])) = isum ((List.range ws.length).map fun j => wW ws w * ((if k ≤ w.count l then (ws.getD j 0 : Int) else 0) + if j = l then (if k = w.count l + 1 then (ws.getD l 0 : Int) else 0) else 0)) := by
    refine isum_congr fun j _ => ?_
    show (if k ≤ (w ++ [j]).count l then wW ws (w ++ [j]) else 0) = _
    rw [wW_snoc, List.count_append]
    by_cases e : j = l
    · subst e
      have : List.count j [j] = 1 := by simp
      rw [this, if_pos rfl]
      by_cases h : k ≤ w.count j
      · rw [if_pos (by omega), if_pos h, if_neg (by omega), Int.add_zero]
      · rw [if_neg h]
        by_cases h2 : k = w.count j + 1
        · rw [if_pos (by omega), if_pos h2, Int.zero_add]
        · rw [if_neg (by omega), if_neg h2, Int.add_zero, Int.mul_zero]
    · have : List.count l [j] = 0 := by simp [e]
      rw [this, if_neg e, Int.add_zero, Nat.add_zero]
      by_cases h : k ≤ w.count l
      · rw [if_pos h, if_pos h]
      · rw [if_neg h, if_neg h, Int.mul_zero]
  rw [e1, isum_mul, isum_add, isum_single _ l _ List.nodup_range, if_pos (List.mem_range.mpr hl)]
  have e2 : isum ((List.range ws.length).map fun j => if k ≤ w.count l then (ws.getD j 0 : Int) else 0) = if k ≤ w.count l then T ws else 0 := by
    by_cases h : k ≤ w.count l
    · simp only [if_pos h]
      exact (T_range ws).symm
    · simp only [if_neg h]
      have := isum_mul 0 (fun _ : Nat => (0 : Int)) (List.range ws.length)
      simp only [Int.zero_mul] at this
      exact this
  rw [e2]
  generalize wW ws w = W
  generalize (ws.getD l 0 : Int) = d
  generalize T ws = t
  by_cases h : k ≤ w.count l
  · rw [if_pos h, if_neg (by omega), if_pos (by omega), if_pos h, Int.add_zero, ← Int.add_mul]
    have : d + (t - d) = t := by omega
    rw [this, Int.mul_comm]
  · rw [if_neg h, if_neg h, Int.zero_add, Int.mul_zero, Int.add_zero]
    by_cases h2 : k = w.count l + 1
    · rw [if_pos h2, if_pos (by omega), Int.mul_comm]
    · rw [if_neg h2, if_neg (by omega), Int.mul_zero, Int.mul_zero]
/-- all words together, by how often they have the letter -/
def bc (d m : Int) : Nat → List Int
  | 0 => [1]
  | n + 1 => ((0 :: (bc d m n).map fun x => x * d).zip ((bc d m n).map (fun x => x * m) ++ [0])).map fun p => p.1 + p.2
theorem bc_len (d m : Int) : ∀ n, (bc d m n).length = n + 1
  | 0 => rfl
  | n + 1 => by
    have ih := bc_len d m n
    rw [bc, List.length_map, List.length_zip, List.length_cons, List.length_append, List.length_map, List.length_map, ih]
    simp
theorem isum_zip_drop : ∀ (A B : List Int) (k : Nat), A.length = B.length → isum (((A.zip B).map fun p => p.1 + p.2).drop k) = isum (A.drop k) + isum (B.drop k)
  | [], [], k, _ => by simp [isum]
  | [], _ :: _, _, h => by simp at h
  | _ :: _, [], _, h => by simp at h
  | a :: A, b :: B, 0, h => by
    have ih := isum_zip_drop A B 0 (by simpa using h)
    simp only [List.drop_zero] at ih ⊢
    rw [List.zip_cons_cons, List.map_cons, isum, isum, isum, ih]
    dsimp only
    omega
  | a :: A, b :: B, k + 1, h => by
    have ih := isum_zip_drop A B k (by simpa using h)
    rw [List.zip_cons_cons, List.map_cons, List.drop_succ_cons, List.drop_succ_cons, List.drop_succ_cons]
    exact ih
theorem isum_drop_snoc : ∀ (B : List Int) (k : Nat), isum ((B ++ [0]).drop k) = isum (B.drop k)
  | [], 0 => rfl
  | [], k + 1 => by simp [isum]
  | b :: B, 0 => by
    have := isum_drop_snoc B 0
    simp only [List.drop_zero] at this ⊢
    rw [List.cons_append, isum, isum, this]
  | b :: B, k + 1 => by
    rw [List.cons_append, List.drop_succ_cons, List.drop_succ_cons]
    exact isum_drop_snoc B k
theorem bc_step (d m : Int) (n k : Nat) : isum ((bc d m (n + 1)).drop k) = d * isum ((bc d m n).drop (k - 1)) + m * isum ((bc d m n).drop k) := by
  rw [bc, isum_zip_drop _ _ _ (by simp), isum_drop_snoc]
  have e1 : isum ((0 :: (bc d m n).map fun x => x * d).drop k) = isum (((bc d m n).map fun x => x * d).drop (k - 1)) := by
    cases k with
    | zero =>
      show 0 + isum _ = isum _
      rw [Int.zero_add]
      rfl
    | succ k => rfl
  rw [e1, ← List.map_drop, ← List.map_drop, isum_map_mul_right, isum_map_mul_right, List.map_id', List.map_id', Int.mul_comm d, Int.mul_comm m]
theorem bc_told {ws : List Nat} {l : Nat} (hl : l < ws.length) : ∀ n k, isum ((bc (ws.getD l 0 : Int) (T ws - (ws.getD l 0 : Int)) n).drop k) = toldN ws l k n
  | 0, 0 => rfl
  | 0, k + 1 => by
    show isum (List.drop (k + 1) [1]) = (if k + 1 ≤ List.count l [] then 1 else 0) + 0
    rw [if_neg (by simp)]
    simp [isum]
  | n + 1, k => by
    rw [bc_step, told_step hl, bc_told hl n, bc_told hl n]
theorem isum_take_drop (k : Nat) (L : List Int) : isum (L.take k) + isum (L.drop k) = isum L := by
  rw [← isum_append, List.take_append_drop]
theorem bc_few {ws : List Nat} {l : Nat} (hl : l < ws.length) (n k : Nat) : isum ((bc (ws.getD l 0 : Int) (T ws - (ws.getD l 0 : Int)) n).take k) = fewN ws l k n := by
  have h1 := isum_take_drop k (bc (ws.getD l 0 : Int) (T ws - (ws.getD l 0 : Int)) n)
  have h2 := bc_told hl n k
  have h3 := bc_told hl n 0
  rw [List.drop_zero, told_zero] at h3
  have h4 := told_few ws l k n
  omega
theorem told_lev (ps : List Nat) (t l k n : Nat) : toldN (lev ps t) l k n = toldN ps l k n * (t : Int) ^ n := by
  unfold toldN
  rw [lev_len, ← isum_map_mul_right]
  refine isum_congr fun w hw => ?_
  rw [wW_lev, (words_ok _ _ w hw).1]
  split
  · rfl
  · rw [Int.zero_mul]
theorem few_lev (ps : List Nat) (t l k n : Nat) : fewN (lev ps t) l k n = fewN ps l k n * (t : Int) ^ n := by
  unfold fewN
  rw [lev_len, ← isum_map_mul_right]
  refine isum_congr fun w hw => ?_
  rw [wW_lev, (words_ok _ _ w hw).1]
  split
  · rfl
  · rw [Int.zero_mul]
theorem toldW_N {d : Kp385.Desk} (O : Ok d) (s l k n : Nat) : toldW d s l k n = toldN (Kp385.source d s) l k n := by
  unfold toldW toldN
  rw [O.ls s]
theorem fewW_N {d : Kp385.Desk} (O : Ok d) (s l k n : Nat) : fewW d s l k n = fewN (Kp385.source d s) l k n := by
  unfold fewW fewN
  rw [O.ls s]
/-! ### the first told test that errs least -/
def best (wr : Nat → Nat → Int) (whole : Int) (a m : Nat) : Nat × Nat × Int := (List.range a).foldl (fun (b : Nat × Nat × Int) (l : Nat) => (List.range m).foldl (fun (b : Nat × Nat × Int) (k : Nat) => if wr l k < b.2.2 then (l, k, wr l k) else b) b) (0, 0, whole)
theorem foldl_rel {α β γ : Type} (R : α → β → Prop) (f : α → γ → α) (g : β → γ → β) : ∀ (l : List γ), (∀ x ∈ l, ∀ a b, R a b → R (f a x) (g b x)) → ∀ a b, R a b → R (l.foldl f a) (l.foldl g b)
  | [], _, a, b, h => h
  | x :: l, hs, a, b, h => foldl_rel R f g l (fun y hy => hs y (List.mem_cons_of_mem _ hy)) _ _ (hs x List.mem_cons_self a b h)
def errW (d : Kp385.Desk) (n l k : Nat) : Int := toldN d.plain l k n * T d.other ^ n + fewN d.other l k n * T d.plain ^ n
theorem best_is {d : Kp385.Desk} (O : Ok d) {n : Nat} (hn : n ≤ 6) : Kp385.bestTold d n = ((best (errW d n) (T d.plain ^ n * T d.other ^ n) d.a (n + 2)).1, (best (errW d n) (T d.plain ^ n * T d.other ^ n) d.a (n + 2)).2.1, fr (best (errW d n) (T d.plain ^ n * T d.other ^ n) d.a (n + 2)).2.2 (2 * (T d.plain ^ n * T d.other ^ n))) := by
  have h01 := Int.mul_pos (ipow_pos O.tp n) (ipow_pos O.tq n)
  have h2 : 0 < 2 * (T d.plain ^ n * T d.other ^ n) := Int.mul_pos (by decide) h01
  let R : Nat × Nat × Fr → Nat × Nat × Int → Prop := fun s b => s = (b.1, b.2.1, fr b.2.2 (2 * (T d.plain ^ n * T d.other ^ n)))
  unfold Kp385.bestTold best
  refine foldl_rel R _ _ _ (fun l hl s b h => ?_) _ _ ?_
  · refine foldl_rel R _ _ _ (fun k _ s b h => ?_) _ _ h
    have hl := List.mem_range.mp hl
    subst h
    dsimp only
    have e := told_errs_fr O (k := k) hn hl
    rw [toldW_N O, fewW_N O, Int.mul_assoc 2] at e
    have e' : mul (add (Kp385.atLeast d 0 l k n) (Kp346.sub (1, 1) (Kp385.atLeast d 1 l k n))) (1, 2) = fr (errW d n l k) (2 * (T d.plain ^ n * T d.other ^ n)) := e
    rw [e', fr_lt h2 h2]
    by_cases hlt : errW d n l k < b.2.2
    · rw [if_pos hlt, if_pos (decide_eq_true (Int.mul_lt_mul_of_pos_right hlt h2))]
    · have : ¬ errW d n l k * (2 * (T d.plain ^ n * T d.other ^ n)) < b.2.2 * (2 * (T d.plain ^ n * T d.other ^ n)) := fun z => hlt (Int.lt_of_mul_lt_mul_right z (Int.le_of_lt h2))
      rw [if_neg hlt, if_neg (by simpa using this)]
  · show ((0 : Nat), (0 : Nat), ((1 : Int), (2 : Int))) = (0, 0, fr (T d.plain ^ n * T d.other ^ n) (2 * (T d.plain ^ n * T d.other ^ n)))
    rw [← fr_half]
    congr 2
    refine fr_eq (by decide) h2 ?_
    omega
/-! ### apart, errs, needed, says, above, samesource -/
def gapT (ps qs : List Nat) (n : Nat) : Int := tsum (fun x y => iabs (x - y)) (tabl (lev ps (tot qs)) (lev qs (tot ps)) n)
theorem gapT_is {d : Kp385.Desk} (O : Ok d) (n : Nat) : gapT d.plain d.other n = gap d n := by
  unfold gapT gap
  rw [tabl_rep (a := d.a) (by rw [lev_len]; exact O.lp) (by rw [lev_len]; exact O.lq)]
  refine isum_congr fun w hw => ?_
  have := (words_ok _ _ w hw).1
  rw [wW_lev, wW_lev, this]
  rfl
def saysT (ps qs : List Nat) (n : Nat) : Int := tsum (fun x y => if x < y then 1 else 0) (tabl (lev ps (tot qs)) (lev qs (tot ps)) n)
theorem saysT_is {d : Kp385.Desk} (O : Ok d) (n : Nat) : saysT d.plain d.other n = saysW d n := by
  unfold saysT saysW
  rw [tabl_rep (a := d.a) (by rw [lev_len]; exact O.lp) (by rw [lev_len]; exact O.lq)]
  refine isum_congr fun w hw => ?_
  have := (words_ok _ _ w hw).1
  rw [wW_lev, wW_lev, this]
  rfl
def pick (s : Nat) (x y : Int) : Int := if s = 0 then x else y
def aboveT (ps qs : List Nat) (s n : Nat) (bx bY : Int) : Int := tsum (fun x y => if x * bx ≤ y * bY then pick s x y else 0) (tabl (lev ps (tot qs)) (lev qs (tot ps)) n)
theorem aboveT_is {d : Kp385.Desk} (O : Ok d) {s n : Nat} {x y : Int} (hn : n ≤ 6) (hy : 0 < y) : Kp385.above d s n (fr x y) = fr (aboveT d.plain d.other s n x y) ((T d.plain * T d.other) ^ n) := by
  have h0 := ipow_pos O.tp n
  have h1 := ipow_pos O.tq n
  rw [above_fr O hn hy, Int.mul_pow]
  have e : aboveT d.plain d.other s n x y = aboveW d s n x y * (if s = 0 then T d.other ^ n else T d.plain ^ n) := by
    unfold aboveT aboveW
    rw [tabl_rep (a := d.a) (by rw [lev_len]; exact O.lp) (by rw [lev_len]; exact O.lq), ← isum_map_mul_right]
    refine isum_congr fun w hw => ?_
    have hw := (words_ok _ _ w hw).1
    rw [wW_lev, wW_lev, hw, ← T_tot, ← T_tot]
    have c : (wW d.plain w * T d.other ^ n * x ≤ wW d.other w * T d.plain ^ n * y) ↔ (x * wW d.plain w * T d.other ^ n ≤ wW d.other w * (y * T d.plain ^ n)) := by
      have e1 : wW d.plain w * T d.other ^ n * x = x * wW d.plain w * T d.other ^ n := by ac_rfl
      have e2 : wW d.other w * T d.plain ^ n * y = wW d.other w * (y * T d.plain ^ n) := by ac_rfl
      rw [e1, e2]
    by_cases h : x * wW d.plain w * T d.other ^ n ≤ wW d.other w * (y * T d.plain ^ n)
    · rw [if_pos h, if_pos (c.mpr h)]
      unfold pick Kp385.source
      split <;> rfl
    · rw [if_neg h, if_neg (fun z => h (c.mp z)), Int.zero_mul]
  rw [e]
  by_cases hs : s = 0
  · subst hs
    rw [if_pos rfl]
    exact (fr_scale h0 h1).symm
  · rw [if_neg hs]
    have : Kp385.source d s = d.other := if_neg hs
    rw [this, Int.mul_comm (T d.plain ^ n)]
    exact (fr_scale h1 h0).symm
theorem fr_fr {a b : Int} (hb : 0 < b) : fr (fr a b).1 (fr a b).2 = fr a b := fr_eq (fr_den hb) hb (fr_cross hb)
theorem wW_nn (ws : List Nat) : ∀ w : List Nat, 0 ≤ wW ws w
  | [] => by
    show (0 : Int) ≤ 1
    decide
  | l :: w => by
    have ih := wW_nn ws w
    show 0 ≤ (ws.getD l 0 : Int) * wW ws w
    exact Int.mul_nonneg (by omega) ih
theorem isum_mono {α : Type} {f g : α → Int} : ∀ {l : List α}, (∀ x ∈ l, f x ≤ g x) → isum (l.map f) ≤ isum (l.map g)
  | [], _ => Int.le_refl _
  | x :: l, h => by
    have h1 := h x List.mem_cons_self
    have h2 := isum_mono (l := l) fun y hy => h y (List.mem_cons_of_mem _ hy)
    rw [List.map_cons, List.map_cons, isum, isum]
    omega
theorem gap_le {d : Kp385.Desk} (O : Ok d) (n : Nat) : gap d n ≤ 2 * T d.plain ^ n * T d.other ^ n := by
  have h0 := ipow_pos O.tp n
  have h1 := ipow_pos O.tq n
  have e1 := isum_words d.plain n
  have e2 := isum_words d.other n
  rw [O.lp] at e1
  rw [O.lq] at e2
  have : gap d n ≤ isum ((words d.a n).map fun w => wW d.plain w * T d.other ^ n + wW d.other w * T d.plain ^ n) := by
    refine isum_mono fun w _ => ?_
    have a0 := Int.mul_nonneg (wW_nn d.plain w) (Int.le_of_lt h1)
    have a1 := Int.mul_nonneg (wW_nn d.other w) (Int.le_of_lt h0)
    unfold gapW iabs
    split <;> omega
  rw [isum_add, isum_map_mul_right, isum_map_mul_right] at this
  have e1' : isum ((words d.a n).map fun w => wW d.plain w) = T d.plain ^ n := e1
  have e2' : isum ((words d.a n).map fun w => wW d.other w) = T d.other ^ n := e2
  rw [e1', e2', Int.mul_comm (T d.other ^ n)] at this
  rw [Int.mul_assoc]
  omega
/-- from the fraction that is told: how often the best test errs -/
theorem errs_far {d : Kp385.Desk} (O : Ok d) {n : Nat} (hn : n ≤ 6) : Kp385.errs d n = fr ((Kp385.apart d n).2 - (Kp385.apart d n).1) (2 * (Kp385.apart d n).2) ∧ 0 ≤ (Kp385.apart d n).2 - (Kp385.apart d n).1 ∧ 0 < (Kp385.apart d n).2 ∧ (Kp385.apart d n).2 ≤ 2 * T d.plain ^ n * T d.other ^ n ∧ 0 ≤ (Kp385.apart d n).1 := by
  have h0 := ipow_pos O.tp n
  have h1 := ipow_pos O.tq n
  have h2 : 0 < 2 * T d.plain ^ n * T d.other ^ n := Int.mul_pos (Int.mul_pos (by decide) h0) h1
  have hg := gap_le O n
  have hnn : 0 ≤ gap d n := by
    have : isum ((words d.a n).map fun _ => (0 : Int)) ≤ gap d n := isum_mono fun w _ => by
      unfold gapW iabs
      split <;> omega
    have z := isum_mul 0 (fun _ : List Nat => (0 : Int)) (words d.a n)
    simp only [Int.zero_mul] at z
    omega
  have hA := apart_fr O hn
  have hd := fr_den (a := gap d n) h2
  have hc := fr_cross (a := gap d n) h2
  have hf := fr_fr (a := gap d n) h2
  have hp := fr_pos (a := gap d n) h2
  have hs := (fr_sign (a := gap d n) h2)
  rw [← hA] at hd hc hf hp hs
  unfold Kp385.errs
  generalize Kp385.apart d n = x at *
  obtain ⟨u, v⟩ := x
  dsimp only at *
  have hv : v ≤ 2 * T d.plain ^ n * T d.other ^ n := by
    have e : v = 2 * T d.plain ^ n * T d.other ^ n / (Int.gcd (gap d n) (2 * T d.plain ^ n * T d.other ^ n) : Int) := congrArg Prod.snd hp
    rw [e]
    exact Int.ediv_le_self _ (by omega)
  have hu0 : 0 ≤ u := by
    have : ¬ u < 0 := fun z => by
      have := hs.mp z
      omega
    omega
  have huv : u ≤ v := by
    have h3 : u * (2 * T d.plain ^ n * T d.other ^ n) ≤ v * (2 * T d.plain ^ n * T d.other ^ n) := by
      rw [hc, Int.mul_comm]
      exact Int.mul_le_mul_of_nonneg_left hg (Int.le_of_lt hd)
    exact Int.le_of_mul_le_mul_right h3 h2
  refine ⟨?_, by omega, hd, hv, hu0⟩
  rw [← hf, ← fr_one, fr_sub (by decide) hd, ← fr_half, fr_mul (Int.mul_pos (by decide) hd) (by decide)]
  congr 1 <;> omega
theorem lt_far {u v x : Int} (hv : 0 < v) (hf : fr u v = (u, v)) : (!Kp346.ltF (u, v) (fr x 100)) = decide (x * v ≤ u * 100) := by
  rw [← hf, fr_lt hv (by decide), ← decide_not]
  exact decide_eq_decide.mpr (by omega)
theorem same_is {d : Kp385.Desk} (O : Ok d) : ((List.range d.a).all fun l => Kp385.letter d 0 l == Kp385.letter d 1 l) = decide (lev d.plain (tot d.other) = lev d.other (tot d.plain)) := by
  have key : ∀ l, (Kp385.letter d 0 l == Kp385.letter d 1 l) = decide (d.plain.getD l 0 * tot d.other = d.other.getD l 0 * tot d.plain) := by
    intro l
    rw [letter_fr, letter_fr]
    show (fr (d.plain.getD l 0 : Nat) (T d.plain) == fr (d.other.getD l 0 : Nat) (T d.other)) = _
    have h := fr_iff (a := (d.plain.getD l 0 : Nat)) (c := (d.other.getD l 0 : Nat)) O.tp O.tq
    rw [T_tot, T_tot] at *
    by_cases e : fr (d.plain.getD l 0 : Nat) (tot d.plain : Int) = fr (d.other.getD l 0 : Nat) (tot d.other : Int)
    · have e2 := h.mp e
      rw [e, beq_self_eq_true, decide_eq_true]
      rw [← Int.natCast_mul, ← Int.natCast_mul] at e2
      omega
    · have e2 : ¬ d.plain.getD l 0 * tot d.other = d.other.getD l 0 * tot d.plain := fun z => e (h.mpr (by rw [← Int.natCast_mul, ← Int.natCast_mul, z]))
      rw [decide_eq_false e2]
      exact beq_eq_false_iff_ne.mpr e
  by_cases h : lev d.plain (tot d.other) = lev d.other (tot d.plain)
  · rw [decide_eq_true h]
    refine List.all_eq_true.mpr fun l _ => ?_
    rw [key]
    have := congrArg (fun z => z.getD l 0) h
    rw [lev_getD, lev_getD] at this
    exact decide_eq_true this
  · rw [decide_eq_false h]
    cases e : (List.range d.a).all fun l => Kp385.letter d 0 l == Kp385.letter d 1 l with
    | false => rfl
    | true =>
      refine absurd ?_ h
      have hall := List.all_eq_true.mp e
      apply List.ext_getElem?
      intro i
      by_cases hi : i < d.a
      · have := hall i (List.mem_range.mpr hi)
        rw [key] at this
        have := of_decide_eq_true this
        have i1 : i < d.plain.length := by rw [O.lp]; exact hi
        have i2 : i < d.other.length := by rw [O.lq]; exact hi
        unfold lev
        rw [List.getElem?_map, List.getElem?_map, List.getElem?_eq_getElem i1, List.getElem?_eq_getElem i2]
        rw [List.getD_eq_getElem?_getD, List.getD_eq_getElem?_getD, List.getElem?_eq_getElem i1, List.getElem?_eq_getElem i2] at this
        exact congrArg some this
      · rw [List.getElem?_eq_none (by rw [lev_len, O.lp]; omega), List.getElem?_eq_none (by rw [lev_len, O.lq]; omega)]
end My
set_option Elab.async false
set_option maxRecDepth 100000
set_option maxHeartbeats 2000000
set_option linter.unusedVariables false
namespace My
open PySem PySem.Spec PyProof.Rows L2
/-! ### for k, v in d.items(), the keys of d being tuples -/
/-- at each turn a new pair of the key's own tuple and its value -/
def ItemsT (d : Addr) (ob : Obj) (kvs : List (List L2.Key × V)) : It where
  go := fun i H => H d = some (.frz ob (.dT kvs)) ∧ i < kvs.length
  yld := fun i H x H' => ∃ (t q : Addr) (k : List L2.Key) (v : V), kvs[i]? = some (k, v) ∧ x = .ref t ∧ H t = none ∧ H q = some (.tup (k.map kV)) ∧ H' = upd H t (.tup [.ref q, v])
  stop := fun i H => H d = some (.frz ob (.dT kvs)) ∧ kvs.length ≤ i
section
variable {X : Cx} {pins : List (Addr × Obj)} {σ : L2.St} {H : Hp} {s : Shared} {d : Addr} {ob : Obj} {kvs : List (List L2.Key × V)}
structure Entries (H : Hp) (kvs : List (List L2.Key × V)) (es : Array DictEntry) : Prop where
  size : es.size = kvs.length
  at_ : ∀ (i : Nat) (hi : i < es.size) (k : List L2.Key) (v : V), kvs[i]? = some (k, v) → ∃ q, es[i].key = .ref q ∧ H q = some (.tup (k.map kV)) ∧ RelV v es[i].val
theorem locked_dT (I : Inv X pins σ H s) (h : H d = some (.frz ob (.dT kvs))) : (d == sysModules) = false ∧ ob.dict = none ∧ ∃ (es : Array DictEntry) (ep : Nat), ob.data = .dict es ep ∧ s.heap.DictRaw d es ep ∧ Entries H kvs es := by
  obtain ⟨e1, _, e2, xs, pr, o2, es, ep, g1, g2, g3, g4, _⟩ := I.hok d _ h
  rw [e1] at g1
  cases g1
  have n1 : es.size = xs.length := size_of_entries g4
  have n2 : kvs.length = xs.length := Paired.length pr
  refine ⟨e2, g2.2.1, es, ep, g3, ⟨ob, e1, g2, g3⟩, n1.trans n2.symm, fun i hi k v hk => ?_⟩
  obtain ⟨y, hy, f1, f2, f3⟩ := paired_get pr hk
  have z := entry_at g4 i
  rw [hy, Array.getElem?_eq_getElem hi] at z
  have z := Option.some.inj z
  refine ⟨y.2.1, by rw [z]; rfl, f2, by rw [z]; exact f3⟩
end
theorem turn_itemsT {P : Program} {w : World} {K : PySem.W.Frag} {elts : List Expr} {kk : Nat} {tpos : Pos} {d : Addr} {ob : Obj} {kvs : List (List L2.Key × V)} {es : Array DictEntry} {ep : Nat} (it : Addr) (hdat : ob.data = .dict es ep) :
    Turn P w K (.Tuple elts kk tpos) (ItemsT d ob kvs) [it] it (fun i h => ∃ a b, IsItemIter h it d i es.size ep a b) where
  mem := List.mem_singleton.mpr rfl
  obj := fun i h ⟨a, b, st⟩ c hc => by
    rw [List.mem_singleton.mp hc]
    exact ⟨_, st, fun v z => by cases z⟩
  keep := fun i h h' ⟨a, b, st⟩ k => ⟨a, b, k it (List.mem_singleton.mpr rfl) _ st⟩
  item := by
    rintro X rfl rfl rfl hc i pins s σ H E I hf ⟨a, b, st⟩ ⟨hd, hi⟩
    obtain ⟨_, _, es', ep', h1, raw, en⟩ := locked_dT I hd
    have h2 := hdat.symm.trans h1
    cases h2
    have hi' : i < es.size := by rw [en.size]; exact hi
    have hlt : it < s.heap.objs.size := Heap.lt_size st
    obtain ⟨⟨k, v⟩, hk⟩ : ∃ p, kvs[i]? = some p := ⟨kvs[i], List.getElem?_eq_getElem hi⟩
    obtain ⟨q, hq1, hq2, hv⟩ := en.at_ i hi' k v hk
    refine wpAny_pyNext_items_item_raw st raw hi' fun h1 o1 t1 z1 k1 => ⟨_, rfl, wpAny_letOwnedTupleGo_items (s := { s with heap := h1 }) o1 fun h2 o2 sb => ?_⟩
    have t2 : h2.get? s.heap.objs.size = some { cls := .type "tuple", data := .seq #[es[i].key, es[i].val] } := (sb.2 _ (Nat.ne_of_gt hlt)).trans t1
    have lay : ObjOk X.prog X.w (upd H s.heap.objs.size (.tup [.ref q, v])) h2 s.heap.objs.size (.tup [.ref q, v]) := by
      refine ⟨by show 2 ≤ sizeLine; decide, [es[i].key, es[i].val], .cons hq1 (.cons hv .nil), ⟨_, t2, rfl, _, rfl⟩⟩
    have I2 := I.turnedNew (t' := s.toks) (ch := [it]) (h' := h2) (fun c oc hc e => (sb.2 c (fun z => hc (List.mem_singleton.mpr z))).trans (k1 c oc (fun z => hc (List.mem_singleton.mpr z)) e)) hf (Nat.le_refl _) lay
    refine ⟨.ref s.heap.objs.size, _, I2, rfl, ⟨_, q, k, v, hk, rfl, I.hok.fresh (Nat.le_refl _), hq2, rfl⟩, ⟨_, _, o2⟩, fun c hc => ?_⟩
    rw [List.mem_singleton.mp hc, upd_ne (Nat.ne_of_lt hlt)]
    exact (hf it (List.mem_singleton.mpr rfl)).1
  done := by
    rintro X rfl rfl rfl hc i pins s σ H E I hf ⟨a, b, st⟩ ⟨hd, hi⟩
    obtain ⟨f0, f1, f2, f3, f4, f5⟩ := hf it (List.mem_singleton.mpr rfl)
    obtain ⟨_, _, es', ep', h1, raw, en⟩ := locked_dT I hd
    have h2 := hdat.symm.trans h1
    cases h2
    exact wpAny_pyNext_items_end_raw (I.ok.hd hc) st raw (by rw [en.size]; exact hi) fun h' eb => ⟨rfl, I.turned (t' := s.toks) (fun c oc hc e => eb c oc hc e) f0 f1 f3 f4 f5⟩
  self := fun A i s Q E ⟨a, b, st⟩ q => PySem.W.kcp_self st q
/-- what it asks: the dict is locked -/
def iItemsT (td : TE) : TI := fun σ H R => td σ H fun x H1 => ∃ d ob kvs, x = .ref d ∧ H1 d = some (.frz ob (.dT kvs)) ∧ R (ItemsT d ob kvs) H1
theorem pi_itemsT {X : Cx} {e : Expr} {td : TE} {apos cpos : Pos} {elts : List Expr} {kk : Nat} {tpos : Pos} (he : PE X e td) (hb : attributeBase e "items" X.env (eval e X.env) = eval e X.env := by rfl) (hl : (apos.endLine == cpos.line) = true := by rfl) :
    PI X (.Tuple elts kk tpos) (.Call (.Attribute e "items" apos) [] [] cpos) (iItemsT td) := by
  refine ⟨fun pins s σ H R I h => wpAny_Call_method (T := "dict") (id := "dict.items") hb rfl hl F.plainAttrs_dict F.slot_dict_items F.type_dict_items (thn (he.run pins s σ H _ I h) fun u s1 ⟨x, H1, I1, rx, d, ob, kvs, ex, hd, q⟩ => ?_)⟩
  subst ex
  cases (show u = Value.ref d from rx)
  obtain ⟨n1, n2, es, ep, h1, raw, en⟩ := locked_dT I1 hd
  refine ⟨raw.typeIs, fun b z => ?_, ?_⟩
  · cases z
    obtain ⟨o, ho, hx, _⟩ := raw
    exact ⟨o, ho, hx.2.1⟩
  · have I2 : Inv X pins σ H1 { s1 with heap := s1.heap.push { cls := .type "dict_items", data := .fields #[.ref d] } } := I1.kept (t' := s1.toks) fun b oc z => Heap.get?_push_of_some _ z
    have go : wpAny (model X.prog X.w) X.A (pyIter (.ref s1.heap.objs.size)) (PIE X pins σ (.Tuple elts kk tpos) R) X.xe { s1 with heap := s1.heap.push { cls := .type "dict_items", data := .fields #[.ref d] } } :=
      wpAny_pyIter_items_raw (d := d) ⟨_, Heap.get?_push_size _ rfl, rfl, rfl⟩ (raw.at fun _ z => Heap.get?_push_of_some _ z) (pi_one (tk := s1.toks) I2 _ (turn_itemsT _ h1) ⟨.none, .none, Heap.get?_push_size _ rfl⟩ q)
    show wpAny _ _ (callWith cpos (.builtin "dict.items") [.ref d] [] []) _ X.xe s1
    exact method_meetsIn F.slot_dict_items F.entry_dict_items rfl (PySem.evalArgs_none ⟨rfl, raw.typeIs, F.args_dict_items_1 _, _, meets_dict_items_raw d n1, ⟨es, ep, raw⟩, go⟩)
/-! ### {(..): v} -/
def tOneT (tk tv : TE) : TE := fun σ H Q => ∀ p, H p = none → tk σ (upd H p (.dT [])) fun x H1 => tv σ H1 fun y H2 => ∃ (b : Addr) (ks : List L2.Key), x = .ref b ∧ H2 b = some (.tup (ks.map kV)) ∧ H2 p = some (.dT []) ∧ Q (.ref p) (upd H2 p (.dT [(ks, y)]))
theorem pe_oneT {X : Cx} {k v : Expr} {pos : Pos} {tk tv : TE} (hu : X.A.units + 1 < cLine) (hk : PE X k tk) (hv : PE X v tv) : PE X (.Dict [some k] [v] pos) (tOneT tk tv) := by
  refine ⟨fun pins s σ H Q I h => ?_⟩
  have I0 := I.laid (a := s.heap.objs.size) (o := .dT []) (h' := s.heap.push { cls := .type "dict", data := .dict #[] }) (t' := s.toks) (fun _ _ z => Heap.get?_push_of_some _ z) (Nat.le_refl _) (dt_empty s.heap I.big)
  refine wpAny_Dict_any rfl rfl (fun z => by cases z) (show 1 ≤ 15 by decide) ?_
  refine pairTrees_cons_walk (thn (hk.run pins _ σ _ _ I0 (h _ (I.hok.fresh (Nat.le_refl _)))) fun u s1 ⟨x, H1, I1, rx, q1⟩ => thn (hv.run pins s1 σ H1 _ I1 q1) fun r s2 ⟨y, H2, I2, ry, b, ks, ex, hb, hp, q2⟩ => ?_)
  subst ex
  cases (show u = Value.ref b from rx)
  refine pairTrees_nil_walk ?_
  unfold storeAll
  rw [List.forIn_cons]
  obtain ⟨z1, z2, xs, rel, dd⟩ := dt_of I2.hok hp
  cases rel
  refine wpAny_bind (wpAny_bind (wpAny_dictSet_heap (hsz := Nat.zero_le _) (show X.A.units < cLine by omega) (key_of I2.hok hb) dd fun h' d2 sb => wpAny_pure ?_))
  dsimp only
  rw [List.forIn_nil]
  refine wpAny_pure ⟨.ref s.heap.objs.size, _, ?_, rfl, q2⟩
  obtain ⟨o, es, ep, o1, o2, o3, o4, _, o5⟩ := d2
  refine d_write I2 (by rw [hp]; exact True.intro) sb ⟨o, o1⟩ ⟨by show 1 ≤ sizeLine; decide, z2, _, .cons ⟨rfl, ?_, ry⟩ .nil, o, es, ep, o1, o2, o3, o4, o5⟩
  rw [upd_ne (ne_of hb hp (fun z => by cases z))]
  exact hb
end My
set_option Elab.async false
set_option maxRecDepth 100000
set_option maxHeartbeats 2000000
namespace My
open PySem PySem.Spec PyProof.Rows L2
def topS (i : Nat) : Stmt := PySem.Challenge.pw_toldapartdesk_s01_answers.main.body.getD i (.Pass ⟨0, 0, 0, 0⟩)
/-- whole numbers as values -/
def iv (l : List Int) : List V := l.map V.int
abbrev nv (l : List Nat) : List V := iv (nI l)
def frI (x : Kp340.Fr) : List Int := [x.1, x.2]
/-- a new list of these comes back, all else stands -/
def NewL (H : Hp) (Q : VK) (l : List Int) : Prop := ∀ (H' : Hp) (p : Addr), Same H H' → H p = none → H' p = some (.lst (iv l)) → Q (.ref p) H'
theorem same_upd {H : Hp} {p : Addr} {o : HO} (h : H p = none) : Same H (upd H p o) := fun b x e => by
  rw [upd_ne (ne_of_none e h)]
  exact e
theorem same_past {H H' : Hp} {p : Addr} {o : HO} (s : Same H H') (h : H p = none) : Same H (upd H' p o) := fun b x e => by
  rw [upd_ne (ne_of_none e h)]
  exact s b x e
theorem take_more {α : Type} : ∀ {l : List α} {i : Nat} {x : α}, l[i]? = some x → l.take (i + 1) = l.take i ++ [x]
  | [], i, x, h => by simp at h
  | a :: l, 0, x, h => by
    have e : a = x := Option.some.inj h
    subst e
    rfl
  | a :: l, i + 1, x, h => by
    have ih := take_more (l := l) (i := i) (x := x) h
    show a :: l.take (i + 1) = a :: l.take i ++ [x]
    rw [ih]
    rfl
theorem iv_get {l : List Int} {i : Nat} {y : V} (h : (iv l)[i]? = some y) : ∃ z, l[i]? = some z ∧ y = V.int z := by
  unfold iv at h
  rw [List.getElem?_map] at h
  cases e : l[i]? with
  | none =>
    rw [e] at h
    cases h
  | some z =>
    rw [e] at h
    exact ⟨z, rfl, (Option.some.inj h).symm⟩
theorem nv_get {l : List Nat} {i : Nat} {y : V} (h : (nv l)[i]? = some y) : ∃ z : Nat, l[i]? = some z ∧ y = V.int (z : Int) := by
  obtain ⟨z, hz, rfl⟩ := iv_get h
  unfold nI at hz
  rw [List.getElem?_map] at hz
  cases e : l[i]? with
  | none =>
    rw [e] at hz
    cases hz
  | some m =>
    rw [e] at hz
    exact ⟨m, rfl, by rw [← Option.some.inj hz]⟩
theorem iv_len (l : List Int) : (iv l).length = l.length := List.length_map ..
theorem nI_len (l : List Nat) : (nI l).length = l.length := List.length_map ..
theorem nv_len (l : List Nat) : (nv l).length = l.length := by rw [nv, iv_len, nI_len]
/-! ### a table of pairs as a dict of the heap -/
def kk (k : Int × Int) : List L2.Key := [.inl k.1, .inl k.2]
theorem kk_inj {k j : Int × Int} (h : kk k = kk j) : k = j := by
  have h1 := Sum.inl.inj (List.cons.inj h).1
  have h2 := Sum.inl.inj (List.cons.inj (List.cons.inj h).2).1
  exact Prod.ext h1 h2
def eT (L : Tbl) : List (List L2.Key × V) := L.map fun e => (kk e.1, V.int e.2)
theorem eT_len (L : Tbl) : (eT L).length = L.length := List.length_map ..
theorem eT_get {L : Tbl} {i : Nat} {k : List L2.Key} {v : V} (h : (eT L)[i]? = some (k, v)) : ∃ e, L[i]? = some e ∧ k = kk e.1 ∧ v = .int e.2 := by
  unfold eT at h
  rw [List.getElem?_map] at h
  cases z : L[i]? with
  | none =>
    rw [z] at h
    cases h
  | some e =>
    rw [z] at h
    have h := Option.some.inj h
    exact ⟨e, rfl, (congrArg Prod.fst h).symm, (congrArg Prod.snd h).symm⟩
def tget (k : Int × Int) : Tbl → Int
  | [] => 0
  | e :: L => if e.1 = k then e.2 else tget k L
theorem eT_val (k : Int × Int) : ∀ L : Tbl, (valV (eT L) (kk k)).getD (.int 0) = .int (tget k L)
  | [] => rfl
  | e :: L => by
    have ih := eT_val k L
    unfold tget
    by_cases h : e.1 = k
    · rw [if_pos h]
      have : valV (eT (e :: L)) (kk k) = some (.int e.2) := valV_pos (p := (kk e.1, V.int e.2)) (congrArg kk h)
      rw [this]
      rfl
    · rw [if_neg h]
      have : valV (eT (e :: L)) (kk k) = valV (eT L) (kk k) := valV_neg (p := (kk e.1, V.int e.2)) fun z => h (kk_inj z)
      rw [this, ih]
theorem put_next {p : List L2.Key × V} {r : List (List L2.Key × V)} {k : List L2.Key} {v : V} (h : ¬ p.1 = k) : putK (p :: r) k v = p :: putK r k v := by
  unfold putK
  rw [List.any_cons, decide_eq_false h, Bool.false_or]
  split
  · rw [List.map_cons, if_neg h]
  · rfl
theorem put_first {p : List L2.Key × V} {r : List (List L2.Key × V)} {k : List L2.Key} {v : V} (h : p.1 = k) (hr : ∀ q ∈ r, ¬ q.1 = k) : putK (p :: r) k v = (p.1, v) :: r := by
  unfold putK
  rw [List.any_cons, decide_eq_true h, Bool.true_or, if_pos rfl, List.map_cons, if_pos h]
  congr 1
  have : r.map (fun kv => if kv.1 = k then (kv.1, v) else kv) = r.map fun kv => kv := List.map_congr_left fun q hq => if_neg (hr q hq)
  rw [this, List.map_id']
theorem eT_put (k : Int × Int) (m : Int) : ∀ L : Tbl, (L.map (·.1)).Nodup → putK (eT L) (kk k) (.int (tget k L + m)) = eT (addK k m L)
  | [], _ => rfl
  | e :: L, h => by
    have h' := List.nodup_cons.mp h
    unfold tget addK
    by_cases z : e.1 = k
    · rw [if_pos z, if_pos z]
      refine put_first (p := (kk e.1, V.int e.2)) (congrArg kk z) fun q hq => ?_
      obtain ⟨x, hx, rfl⟩ := List.mem_map.mp hq
      intro y
      have y := kk_inj y
      exact h'.1 (List.mem_map.mpr ⟨x, hx, y.trans z.symm⟩)
    · rw [if_neg z, if_neg z]
      have := put_next (p := (kk e.1, V.int e.2)) (r := eT L) (k := kk k) (v := .int (tget k L + m)) fun y => z (kk_inj y)
      have e1 : putK (eT (e :: L)) (kk k) (.int (tget k L + m)) = (kk e.1, V.int e.2) :: putK (eT L) (kk k) (.int (tget k L + m)) := this
      rw [e1, eT_put k m L h'.2]
      rfl
end My
set_option Elab.async false
set_option maxRecDepth 100000
set_option maxHeartbeats 2000000
namespace My
open PySem PySem.Spec PyProof.Rows L2
abbrev sPower : Stmt := topS 5
abbrev sFraction : Stmt := topS 6
theorem scPower : FnScope ["base", "times", "product", "turn"] ["base", "times"] (defScope sPower) := ⟨rfl, rfl, rfl, by decide +kernel, rfl, by decide +kernel, by decide +kernel⟩
theorem scFraction : FnScope ["upper", "lower", "common", "rest", "left"] ["upper", "lower"] (defScope sFraction) := ⟨rfl, rfl, rfl, by decide +kernel, rfl, by decide +kernel, by decide +kernel⟩
section
variable {P : Program} {w : World} {K : PySem.W.Frag} {mg : Str → Option Value} {base : Heap}
/-! ### power -/
def spPower : Sp := fun vs H Q _ => ∃ (b : Int) (n : Nat), vs = [.int b, .int (n : Int)] ∧ (-(2 ^ 64) < b ∧ b < 2 ^ 64) ∧ n ≤ 1000 ∧ Q (.int (b ^ n)) H
theorem ok_power {f : Addr} {fd : FuncData} {k : Nat} (F : Fun K "power" "power" sPower f fd) (mr : mg "range" = none) : FnOk P w K mg base CX0 (k + 1) f fd ["base", "times"] spPower := by
  refine F.ok scPower (fun vs H Q E h => ?_) (fun cdv A outer s H vs Q E hr h => ?_)
  · obtain ⟨b, n, rfl, _⟩ := h
    rfl
  · obtain ⟨b, n, rfl, hb, hn, q⟩ := h
    refine ⟨_, pss_cons (ps_set (i := 2) scPower.nd rfl (.inl rfl) pe_int)
      (pss_cons (ps_for PassesOwn.never rfl (pi_range1 (by rfl) mr (pa_cons (pv 1) pa_nil)) (pg_name (i := 3) scPower.nd rfl (.inl rfl))
        (pss_one (ps_set (i := 2) scPower.nd rfl (.inl rfl) (pe_op op_mul (pv 2) (pv 0)))))
      (pss_one (ps_ret (pv 2)))), ?_⟩
    refine ⟨_, rfl, (n : Int), rfl, by omega, by omega, for_range (n := (n : Int).toNat) (fun i σ H' => ∃ v : Option V, σ = [some (.int b), some (.int n), some (.int (b ^ i)), v] ∧ H' = H) ⟨none, by rw [Int.pow_zero]; rfl, rfl⟩ ?_ ?_⟩
    · rintro i σ H' hi ⟨v, rfl, rfl⟩
      refine ⟨_, rfl, _, rfl, _, _, rfl, rfl, .inr hb, ?_⟩
      refine ⟨some (.int (0 + (i : Int))), ?_, rfl⟩
      rw [Int.pow_succ]
      rfl
    · rintro σ H' ⟨v, rfl, rfl⟩
      exact ⟨_, rfl, q⟩
/-! ### fraction -/
def spFraction : Sp := fun vs H Q _ => ∃ (u l : Int), vs = [.int u, .int l] ∧ 0 ≤ u ∧ 0 < l ∧ l.natAbs < 2 ^ 8000 ∧ NewL H Q (frI (Kp340.fr u l))
theorem gcd_rest (c r : Int) : Int.gcd r (c % r) = Int.gcd r c := by
  have := Int.emod_add_mul_ediv c r
  rw [← Int.gcd_add_mul_right_right r (c % r) (c / r)]
  congr 1
  rw [Int.mul_comm]
  omega
theorem gcd_turn {c r : Int} (hr : 0 < r) : Int.gcd r (c.fmod r) = Int.gcd c r := by
  rw [Int.fmod_eq_emod_of_nonneg c (Int.le_of_lt hr), Int.gcd_comm c r, gcd_rest]
theorem ok_fraction {f : Addr} {fd : FuncData} {k : Nat} (F : Fun K "fraction" "fraction" sFraction f fd) : FnOk P w K mg base CX0 (k + 1) f fd ["upper", "lower"] spFraction := by
  refine F.ok scFraction (fun vs H Q E h => ?_) (fun cdv A outer s H vs Q E hr h => ?_)
  · obtain ⟨u, l, rfl, _⟩ := h
    rfl
  · obtain ⟨u, l, rfl, hu, hl, hs, q⟩ := h
    refine ⟨_, pss_cons (ps_set (i := 2) scFraction.nd rfl (.inl rfl) (pv 1))
      (pss_cons (ps_set (i := 3) scFraction.nd rfl (.inl rfl) (pv 0))
      (pss_cons (ps_while PassesOwn.never (pt_cmpR op_gt (pv 3) pe_int (nomark _))
        (pss_cons (ps_set (i := 4) scFraction.nd rfl (.inl rfl) (pe_op op_modN (pv 2) (pv 3)))
        (pss_cons (ps_set (i := 2) scFraction.nd rfl (.inl rfl) (pv 3))
        (pss_one (ps_set (i := 3) scFraction.nd rfl (.inl rfl) (pv 4))))))
      (pss_one (ps_ret (pe_lst (pa_cons (pe_op op_fdivW (pv 0) (pv 2)) (pa_cons (pe_op op_fdivW (pv 1) (pv 2)) pa_nil))))))), ?_⟩
    refine ⟨_, rfl, _, rfl, ?_⟩
    refine while_by (fun σ H' => ∃ (c r : Int) (v : Option V), σ = [some (.int u), some (.int l), some (.int c), some (.int r), v] ∧ H' = H ∧ 0 < c ∧ 0 ≤ r ∧ Int.gcd c r = Int.gcd u l) (fun σ _ => match σ with | [_, _, _, some (.int r), _] => r.toNat | _ => 0) ?_ ?_ ?_
    · exact ⟨l, u, none, rfl, rfl, hl, hu, Int.gcd_comm l u⟩
    · rintro σ H' ⟨c, r, v, rfl, rfl, hc, hr0, hg⟩
      refine ⟨_, rfl, _, _, rfl, rfl, _, rfl, ite2 (fun e => ?_) (fun e => ?_)⟩
      · have hrp : 0 < r := of_decide_eq_true e
        have e1 := Int.fmod_eq_emod_of_nonneg c hr0
        have e2 := Int.emod_nonneg c (show r ≠ 0 by omega)
        have e3 := Int.emod_lt_of_pos c hrp
        refine ⟨_, rfl, _, rfl, _, _, rfl, rfl, by show r ≠ 0; omega, _, rfl, _, rfl, ⟨r, c.fmod r, _, rfl, rfl, hrp, by omega, ?_⟩, ?_⟩
        · rw [gcd_turn hrp, hg]
        · show (c.fmod r).toNat < r.toNat
          omega
      · have hrz : r = 0 := by
          have : ¬ 0 < r := fun z => e (decide_eq_true z)
          omega
        subst hrz
        have ec : c = (Int.gcd u l : Int) := by
          rw [← hg, Int.gcd_zero_right]
          omega
        have hcl : c ≤ l := by
          rw [ec]
          exact Int.le_of_dvd hl (Int.gcd_dvd_right _ _)
        have hd : CDivW u c := wide_div (b := 8000) hc (by omega) (by decide) (by decide)
        have hd' : CDivW l c := wide_div (b := 8000) hc (by omega) (by decide) (by decide)
        refine ⟨_, rfl, _, rfl, _, _, rfl, rfl, hd, _, rfl, _, rfl, _, _, rfl, rfl, hd', (by show 2 ≤ sizeLine; decide), fun p hp => ?_⟩
        refine q _ p (same_upd hp) hp ?_
        rw [upd_same, fr_pos hl, ← ec]
        rfl
    · intro σ H' Q1 Q2 hq h
      obtain ⟨v, hv, i, j, e1, e2, k, e3, h⟩ := h
      exact ⟨v, hv, i, j, e1, e2, k, e3, hq _ _ h⟩
end
end My
set_option Elab.async false
set_option maxRecDepth 100000
set_option maxHeartbeats 2000000
namespace My
open PySem PySem.Spec PyProof.Rows L2
abbrev sWeight : Stmt := topS 7
abbrev sChanceW : Stmt := topS 8
theorem scWeight : FnScope ["weights", "word", "product", "letter"] ["weights", "word"] (defScope sWeight) := ⟨rfl, rfl, rfl, by decide +kernel, rfl, by decide +kernel, by decide +kernel⟩
theorem scChanceW : FnScope ["weights", "word"] ["weights", "word"] (defScope sChanceW) := ⟨rfl, rfl, rfl, by decide +kernel, rfl, by decide +kernel, by decide +kernel⟩
/-- a source's weights as the program keeps them -/
structure Src (a : Nat) (ws : List Nat) : Prop where
  len : ws.length = a
  hi : a ≤ 4
  nine : ∀ x ∈ ws, x ≤ 9
  pos : 0 < T ws
theorem isum_sum : ∀ l : List Int, isum l = l.sum
  | [] => rfl
  | x :: l => by rw [isum, isum_sum l, List.sum_cons]
theorem T_sum (ws : List Nat) : (nI ws).sum = T ws := by
  rw [T_isum, isum_sum]
  rfl
theorem isum_le : ∀ (l : List Nat), (∀ x ∈ l, x ≤ 9) → isum (l.map fun (k : Nat) => (k : Int)) ≤ 9 * (l.length : Int)
  | [], _ => by simp [isum]
  | x :: l, h => by
    have h1 := h x List.mem_cons_self
    have h2 := isum_le l fun y hy => h y (List.mem_cons_of_mem _ hy)
    simp only [List.map_cons, isum, List.length_cons]
    omega
theorem Src.T_le {a : Nat} {ws : List Nat} (S : Src a ws) : T ws ≤ 36 := by
  have h := isum_le ws S.nine
  have h1 := S.len
  have h2 := S.hi
  rw [T_isum]
  omega
theorem pow_le36 {t : Int} (h0 : 0 < t) (h : t ≤ 36) : ∀ {n : Nat}, n ≤ 6 → t ^ n ≤ 2176782336 := by
  intro n hn
  have h1 : t ^ n ≤ 36 ^ n := by
    clear hn
    induction n with
    | zero => simp
    | succ n ih =>
      rw [Int.pow_succ, Int.pow_succ]
      exact Int.mul_le_mul ih h (Int.le_of_lt h0) (by
        have := ipow_pos (show (0 : Int) < 36 by decide) n
        omega)
  have h2 : (36 : Int) ^ n ≤ 36 ^ 6 := by
    have : n = 0 ∨ n = 1 ∨ n = 2 ∨ n = 3 ∨ n = 4 ∨ n = 5 ∨ n = 6 := by omega
    rcases this with rfl | rfl | rfl | rfl | rfl | rfl | rfl <;> decide
  have h3 : (36 : Int) ^ 6 = 2176782336 := by decide
  omega
theorem Src.pow_lt {a : Nat} {ws : List Nat} (S : Src a ws) {n : Nat} (hn : n ≤ 6) : 0 < T ws ^ n ∧ T ws ^ n ≤ 2176782336 := ⟨ipow_pos S.pos n, pow_le36 S.pos S.T_le hn⟩
theorem getD_le {ws : List Nat} (h : ∀ x ∈ ws, x ≤ 9) (l : Nat) : ws.getD l 0 ≤ 9 := by
  rw [List.getD_eq_getElem?_getD]
  cases e : ws[l]? with
  | none => simp
  | some x => exact h x (List.mem_of_getElem? e)
theorem getD_leM {ws : List Nat} {M : Nat} (h : ∀ x ∈ ws, x ≤ M) (l : Nat) : ws.getD l 0 ≤ M := by
  rw [List.getD_eq_getElem?_getD]
  cases e : ws[l]? with
  | none => simp
  | some x => exact h x (List.mem_of_getElem? e)
theorem wW_nonneg (ws w : List Nat) : 0 ≤ wW ws w := by
  unfold wW
  induction w with
  | nil =>
    show (0 : Int) ≤ 1
    decide
  | cons l w ih =>
    rw [List.map_cons, iprod]
    exact Int.mul_nonneg (by omega) ih
theorem wW_le {ws : List Nat} (h : ∀ x ∈ ws, x ≤ 9) : ∀ w : List Nat, wW ws w ≤ 9 ^ w.length
  | [] => by
    show (1 : Int) ≤ 9 ^ 0
    decide
  | l :: w => by
    have ih := wW_le h w
    have h9 := getD_le h l
    have h0 := wW_nonneg ws w
    unfold wW at *
    rw [List.map_cons, iprod, List.length_cons, Int.pow_succ, Int.mul_comm]
    exact Int.mul_le_mul ih (by omega) (by omega) (by
      have := ipow_pos (show (0 : Int) < 9 by decide) w.length
      omega)
section
variable {P : Program} {w : World} {K : PySem.W.Frag} {mg : Str → Option Value} {base : Heap}
/-! ### word_weight -/
def spWeight (K : PySem.W.Frag) : Sp := fun vs H Q _ => ∃ (a b : Addr) (ws w : List Nat), vs = [.ref a, .ref b] ∧ SqL K H a (nv ws) ∧ SqL K H b (nv w) ∧ (∀ x ∈ ws, x ≤ 1000000) ∧ (∀ l ∈ w, l < ws.length) ∧ Q (.int (wW ws w)) H
theorem wW_take {ws w : List Nat} {i l : Nat} (h : w[i]? = some l) : wW ws (w.take (i + 1)) = wW ws (w.take i) * (ws.getD l 0 : Int) := by
  rw [take_more h, wW_snoc]
theorem nv_at {ws : List Nat} {l : Nat} (h : l < ws.length) : (nv ws)[l]? = some (.int (ws.getD l 0 : Nat)) := by
  unfold nv iv nI
  rw [List.getElem?_map, List.getElem?_map, List.getD_eq_getElem?_getD, List.getElem?_eq_getElem h]
  rfl
theorem ok_weight {f : Addr} {fd : FuncData} {k : Nat} (F : Fun K "word_weight" "word_weight" sWeight f fd) : FnOk P w K mg base CX0 (k + 1) f fd ["weights", "word"] (spWeight K) := by
  refine F.ok scWeight (fun vs H Q E h => ?_) (fun cdv A outer s H vs Q E hr h => ?_)
  · obtain ⟨a, b, ws, w, rfl, _⟩ := h
    rfl
  · obtain ⟨a, b, ws, w, rfl, ha, hb, h9, hl, q⟩ := h
    refine ⟨_, pss_cons (ps_set (i := 2) scWeight.nd rfl (.inl rfl) pe_int)
      (pss_cons (ps_for PassesOwn.never rfl (pi_list (pv 1)) (pg_name (i := 3) scWeight.nd rfl (.inl rfl))
        (pss_one (ps_set (i := 2) scWeight.nd rfl (.inl rfl) (pe_op op_mul (pv 2) (pe_ix ix_list (pv 0) (pv 3) (fun _ _ => rfl))))))
      (pss_one (ps_ret (pv 2)))), ?_⟩
    refine ⟨_, rfl, b, rfl, ⟨_, hb⟩, for_list (K := K) (a := b) (xs := nv w) (fun i σ H' => ∃ v : Option V, σ = [some (.ref a), some (.ref b), some (.int (wW ws (w.take i))), v] ∧ H' = H) ⟨none, rfl, rfl⟩ (fun i σ H' _ ⟨_, _, e⟩ => e ▸ hb) ?_ ?_⟩
    · rintro i y σ H' hi ⟨v, rfl, rfl⟩
      obtain ⟨l, hw, rfl⟩ := nv_get hi
      have hlt := hl l (List.mem_of_getElem? hw)
      have hle := getD_leM h9 l
      refine ⟨_, rfl, _, rfl, _, rfl, a, _, _, _, rfl, rfl, ha, atI_nat (nv_at hlt), _, _, rfl, rfl, .inr ⟨by omega, by omega⟩, ?_⟩
      exact ⟨some (.int (l : Int)), by rw [wW_take hw]; rfl, rfl⟩
    · rintro σ H' ⟨v, rfl, rfl⟩
      rw [nv_len, List.take_length]
      exact ⟨_, rfl, q⟩
end
end My
set_option Elab.async false
set_option maxRecDepth 100000
set_option maxHeartbeats 2000000
namespace My
open PySem PySem.Spec PyProof.Rows L2
/-- a def of the text at its place, by its name -/
structure Def (K : PySem.W.Frag) (mg : Str → Option Value) (x : Str) (st : Stmt) (ps : List Str) (f : Addr) (fd : FuncData) : Prop where
  F : Fun K x x st f fd
  b : Binds K fd ps []
  g : mg x = some (.ref f)
/-- names that stay Python's own -/
structure Bare (mg : Str → Option Value) : Prop where
  range : mg "range" = none
  sum : mg "sum" = none
  len : mg "len" = none
  zip : mg "zip" = none
  abs : mg "abs" = none
  max : mg "max" = none
  all : mg "all" = none
  list : mg "list" = none
theorem pow_small {x : Int} (h0 : 0 ≤ x) (h : x ≤ 2176782336) : x.natAbs < 2 ^ 8000 :=
  Nat.lt_of_lt_of_le (show x.natAbs < 2 ^ 40 by omega) (Nat.pow_le_pow_right (by decide) (by decide))
section
variable {P : Program} {w : World} {K : PySem.W.Frag} {mg : Str → Option Value} {base : Heap}
/-! ### word_chance -/
def spChanceW (K : PySem.W.Frag) : Sp := fun vs H Q _ => ∃ (a b : Addr) (n : Nat) (ws w : List Nat), vs = [.ref a, .ref b] ∧ SqL K H a (nv ws) ∧ SqL K H b (nv w) ∧ Src n ws ∧ (∀ l ∈ w, l < n) ∧ w.length ≤ 6 ∧ NewL H Q (frI (Kp340.fr (wW ws w) (T ws ^ w.length)))
theorem ok_chanceW {f fF fW fP : Addr} {fd fdF fdW fdP : FuncData} {k : Nat} (F : Fun K "word_chance" "word_chance" sChanceW f fd) (B : Bare mg)
    (DF : Def K mg "fraction" sFraction ["upper", "lower"] fF fdF) (DW : Def K mg "word_weight" sWeight ["weights", "word"] fW fdW) (DP : Def K mg "power" sPower ["base", "times"] fP fdP) :
    FnOk P w K mg base CX0 (k + 2) f fd ["weights", "word"] (spChanceW K) := by
  have GF : FnOk P w K mg base CX0 (k + 1) fF fdF ["upper", "lower"] spFraction := ok_fraction DF.F
  have GW : FnOk P w K mg base CX0 (k + 1) fW fdW ["weights", "word"] (spWeight K) := ok_weight DW.F
  have GP : FnOk P w K mg base CX0 (k + 1) fP fdP ["base", "times"] spPower := ok_power DP.F B.range
  refine F.ok scChanceW (fun vs H Q E h => ?_) (fun cdv A outer s H vs Q E hr h => ?_)
  · obtain ⟨a, b, n, ws, w, rfl, _⟩ := h
    rfl
  · obtain ⟨a, b, n, ws, w, rfl, ha, hb, S, hl, hw, q⟩ := h
    refine ⟨_, pss_one (ps_ret (pe_call GF hr (by rfl) DF.g DF.F.kp DF.b .nil pass0
      (pa_cons (pe_call GW hr (by rfl) DW.g DW.F.kp DW.b .nil pass0 (pa_cons (pv 0) (pa_cons (pv 1) pa_nil)))
      (pa_cons (pe_call GP hr (by rfl) DP.g DP.F.kp DP.b .nil pass0 (pa_cons (pe_callB (cr_sum rfl) (by rfl) B.sum (by decide +kernel) (pa_cons (pv 0) pa_nil)) (pa_cons (pe_callB call_len_seq (by rfl) B.len PySem.boot_len (pa_cons (pv 1) pa_nil)) pa_nil))) pa_nil)))), ?_⟩
    have hp := S.pow_lt hw
    have hT := S.T_le
    have hT0 := S.pos
    refine ⟨_, rfl, _, rfl, a, b, ws, w, rfl, ha, hb, fun x hx => Nat.le_trans (S.nine x hx) (by decide), fun l h => by rw [S.len]; exact hl l h, ?_⟩
    refine ⟨_, rfl, a, nI ws, rfl, ha, _, rfl, b, _, rfl, .inl hb, ?_⟩
    refine ⟨T ws, w.length, ?_, ⟨by omega, by omega⟩, by omega, ?_⟩
    · rw [T_sum, nv_len]
      rfl
    · exact ⟨_, _, rfl, wW_nonneg ws w, hp.1, pow_small (by omega) hp.2, q⟩
end
end My
set_option Elab.async false
set_option maxRecDepth 100000
set_option maxHeartbeats 2000000
set_option linter.unusedVariables false
namespace My
open PySem PySem.Spec PyProof.Rows L2
abbrev sWith : Stmt := topS 9
abbrev sSameSrc : Stmt := topS 10
abbrev sCompared : Stmt := topS 11
theorem scWith : FnScope ["plain_weights", "other_weights", "plain_total", "other_total", "level_plain", "level_other", "weight"] ["plain_weights", "other_weights"] (defScope sWith) := ⟨rfl, rfl, rfl, by decide +kernel, rfl, by decide +kernel, by decide +kernel⟩
theorem scSameSrc : FnScope ["plain_weights", "other_weights", "level"] ["plain_weights", "other_weights"] (defScope sSameSrc) := ⟨rfl, rfl, rfl, by decide +kernel, rfl, by decide +kernel, by decide +kernel⟩
theorem scCompared : FnScope ["plain_weights", "other_weights", "word", "level"] ["plain_weights", "other_weights", "word"] (defScope sCompared) := ⟨rfl, rfl, rfl, by decide +kernel, rfl, by decide +kernel, by decide +kernel⟩
theorem nv_lev (l : List Nat) (t : Nat) : (l.map fun (x : Nat) => V.int ((x : Int) * (t : Int))) = nv (lev l t) := by
  unfold nv iv nI lev
  rw [List.map_map, List.map_map]
  exact List.map_congr_left fun x _ => congrArg V.int (Int.natCast_mul x t).symm
theorem Src.tot_le {a : Nat} {ws : List Nat} (S : Src a ws) : tot ws ≤ 36 := by
  have := S.T_le
  rw [T_tot] at this
  omega
theorem Src.tot_pos {a : Nat} {ws : List Nat} (S : Src a ws) : 0 < tot ws := by
  have := S.pos
  rw [T_tot] at this
  omega
theorem lev_small {a t : Nat} {ws : List Nat} (S : Src a ws) (ht : t ≤ 36) : ∀ x ∈ lev ws t, x ≤ 1000000 := by
  intro x hx
  obtain ⟨y, hy, rfl⟩ := List.mem_map.mp hx
  have h := Nat.mul_le_mul (S.nine y hy) ht
  exact Nat.le_trans h (by decide)
section
variable {P : Program} {w : World} {K : PySem.W.Frag} {mg : Str → Option Value} {base : Heap}
/-! ### with_one_total -/
/-- a new pair of the two sources told with one total -/
def Level (H : Hp) (Q : VK) (ps qs : List Nat) : Prop := ∀ (H' : Hp) (t x y : Addr), Same H H' → H t = none → H' t = some (.tup [.ref x, .ref y]) → H' x = some (.lst (nv (lev ps (tot qs)))) → H' y = some (.lst (nv (lev qs (tot ps)))) → Q (.ref t) H'
def spWith (K : PySem.W.Frag) : Sp := fun vs H Q _ => ∃ (a b : Addr) (n : Nat) (ps qs : List Nat), vs = [.ref a, .ref b] ∧ SqL K H a (nv ps) ∧ SqL K H b (nv qs) ∧ Src n ps ∧ Src n qs ∧ Level H Q ps qs
theorem ok_with {f : Addr} {fd : FuncData} {k : Nat} (F : Fun K "with_one_total" "with_one_total" sWith f fd) (B : Bare mg) : FnOk P w K mg base CX0 (k + 1) f fd ["plain_weights", "other_weights"] (spWith K) := by
  refine F.ok scWith (fun vs H Q E h => ?_) (fun cdv A outer s H vs Q E hr h => ?_)
  · obtain ⟨a, b, n, ps, qs, rfl, _⟩ := h
    rfl
  · obtain ⟨a, b, n, ps, qs, rfl, ha, hb, S1, S2, q⟩ := h
    refine ⟨_, pss_cons (ps_set (i := 2) scWith.nd rfl (.inr rfl) (pe_callB (cr_sum rfl) (by rfl) B.sum (by decide +kernel) (pa_cons (pv 0) pa_nil)))
      (pss_cons (ps_set (i := 3) scWith.nd rfl (.inr rfl) (pe_callB (cr_sum rfl) (by rfl) B.sum (by decide +kernel) (pa_cons (pv 1) pa_nil)))
      (pss_cons (ps_setLc (i := 4) (own := [("weight", 6)]) (g := gName 6) (tt := tYes) rfl scWith.nd rfl rfl (sw_true rfl rfl rfl (by decide +kernel)) (pi_list (pv 0)) (blkOk_by (N := ["plain_weights", "other_weights", "plain_total", "other_total", "level_plain", "level_other", "weight"]) (sc := defScope sWith) (by decide +kernel)) (fun _ _ _ _ _ => pg_name (i := 6) scWith.nd rfl (Or.inl rfl)) (fun _ _ _ _ _ => pts_nil)
        (fun _ _ _ _ _ => pe_op op_mul (pv 6) (pv 3)))
      (pss_cons (ps_setLc (i := 5) (own := [("weight", 6)]) (g := gName 6) (tt := tYes) rfl scWith.nd rfl rfl (sw_true rfl rfl rfl (by decide +kernel)) (pi_list (pv 1)) (blkOk_by (N := ["plain_weights", "other_weights", "plain_total", "other_total", "level_plain", "level_other", "weight"]) (sc := defScope sWith) (by decide +kernel)) (fun _ _ _ _ _ => pg_name (i := 6) scWith.nd rfl (Or.inl rfl)) (fun _ _ _ _ _ => pts_nil)
        (fun _ _ _ _ _ => pe_op op_mul (pv 6) (pv 2)))
      (pss_one (ps_ret (pe_tup (pa_cons (pv 4) (pa_cons (pv 5) pa_nil)))))))), ?_⟩
    have t1 := S1.tot_le
    have t2 := S2.tot_le
    refine ⟨_, rfl, a, nI ps, rfl, ha, ?_⟩
    refine ⟨_, rfl, b, nI qs, rfl, hb, ?_⟩
    rw [T_sum, T_sum, T_tot, T_tot]
    refine ⟨_, rfl, a, rfl, ⟨_, ha⟩, fun D hD => ?_⟩
    refine lc_list (K := K) (a := a) (xs := nv ps) (fun i H' => Same H H' ∧ H' D = some (.lst ((ps.take i).map fun (x : Nat) => V.int ((x : Int) * (tot qs : Int))))) ⟨same_upd hD, upd_same⟩ (fun i H' _ h => h.1.seq ha) ?_ ?_
    · rintro i y H' hi ⟨s1, e2⟩
      obtain ⟨x, hx, rfl⟩ := nv_get hi
      have hil : i < ps.length := (List.getElem?_eq_some_iff.mp hx).1
      refine ⟨rfl, _, rfl, _, rfl, _, _, rfl, rfl, .inr ⟨by omega, by omega⟩, _, e2, ?_, same_past s1 hD, ?_⟩
      · rw [List.length_map, List.length_take]
        have h1 := S1.len
        have h2 := S1.hi
        have : sizeLine = 16777216 := by decide
        omega
      · rw [upd_same, take_more hx, List.map_append]
        rfl
    · rintro H1 ⟨s1, e1⟩
      rw [nv_len, List.take_length, nv_lev] at e1
      refine ⟨_, rfl, b, rfl, ⟨_, s1.seq hb⟩, fun D2 hD2 => ?_⟩
      have nH2 : H D2 = none := s1.free hD2
      have nDD : D ≠ D2 := ne_of_none e1 hD2
      refine lc_list (K := K) (a := b) (xs := nv qs) (fun i H' => Same H H' ∧ H' D = some (.lst (nv (lev ps (tot qs)))) ∧ H' D2 = some (.lst ((qs.take i).map fun (x : Nat) => V.int ((x : Int) * (tot ps : Int))))) ⟨same_past s1 nH2, by rw [upd_ne nDD]; exact e1, upd_same⟩ (fun i H' _ h => h.1.seq hb) ?_ ?_
      · rintro i y H' hi ⟨s2, e2, e3⟩
        obtain ⟨x, hx, rfl⟩ := nv_get hi
        have hil : i < qs.length := (List.getElem?_eq_some_iff.mp hx).1
        refine ⟨rfl, _, rfl, _, rfl, _, _, rfl, rfl, .inr ⟨by omega, by omega⟩, _, e3, ?_, same_past s2 nH2, by rw [upd_ne nDD]; exact e2, ?_⟩
        · rw [List.length_map, List.length_take]
          have h1 := S2.len
          have h2 := S2.hi
          have : sizeLine = 16777216 := by decide
          omega
        · rw [upd_same, take_more hx, List.map_append]
          rfl
      · rintro H2 ⟨s2, e2, e3⟩
        rw [nv_len, List.take_length, nv_lev] at e3
        refine ⟨_, rfl, _, rfl, (by show 2 ≤ sizeLine; decide), fun t nt => ?_⟩
        have s3 := same_upd (o := .tup [.ref D, .ref D2]) nt
        exact q _ t D D2 (s2.trans s3) (s2.free nt) upd_same (s3 _ _ e2) (s3 _ _ e3)
/-! ### is_same_source -/
theorem dp_nv {H : Hp} : ∀ l : List Nat, DpAll K H (nv l) (l.map fun (x : Nat) => PyData.int (x : Int))
  | [] => .nil
  | x :: l => .cons (.int _) (dp_nv l)
def spSameSrc (K : PySem.W.Frag) : Sp := fun vs H Q _ => ∃ (a b : Addr) (n : Nat) (ps qs : List Nat), vs = [.ref a, .ref b] ∧ SqL K H a (nv ps) ∧ SqL K H b (nv qs) ∧ Src n ps ∧ Src n qs ∧ ∀ H', Same H H' → Q (.bl (decide (lev ps (tot qs) = lev qs (tot ps)))) H'
def dI (l : List Nat) : List PyData := l.map fun (x : Nat) => PyData.int (x : Int)
theorem dI_eqv : ∀ l m : List Nat, PyData.eqvAll (dI l) (dI m) = decide (l = m)
  | [], [] => rfl
  | [], y :: m => rfl
  | x :: l, [] => rfl
  | x :: l, y :: m => by
    have ih := dI_eqv l m
    show (PyData.eqv (.int (x : Int)) (.int (y : Int)) && PyData.eqvAll (dI l) (dI m)) = _
    rw [ih, PyData.eqv]
    by_cases h : x = y
    · subst h
      rw [beq_self_eq_true, Bool.true_and]
      exact decide_eq_decide.mpr ⟨fun z => by rw [z], fun z => (List.cons.inj z).2⟩
    · rw [beq_eq_false_iff_ne.mpr (fun z => h (by omega)), Bool.false_and, decide_eq_false fun z => h (List.cons.inj z).1]
theorem dI_lay : ∀ l : List Nat, PyData.canLayAll0 (dI l) = true ∧ PyData.depthAll (dI l) = 0
  | [] => ⟨by simp only [dI, List.map_nil, PyData.canLayAll0], by simp only [dI, List.map_nil, PyData.depthAll]⟩
  | x :: l => by
    have ih := dI_lay l
    unfold dI at *
    rw [List.map_cons, PyData.canLayAll0, PyData.depthAll, ih.1, ih.2, PyData.canLay0, PyData.depth]
    exact ⟨rfl, rfl⟩
theorem dI_shaped (l : List Nat) : SeqAt.shaped (.list (dI l)) = true := by
  unfold SeqAt.shaped
  rw [PyData.canLay0, PyData.depth, (dI_lay l).1, (dI_lay l).2]
  decide
theorem ok_sameSrc {f fL : Addr} {fd fdL : FuncData} {k : Nat} (F : Fun K "is_same_source" "is_same_source" sSameSrc f fd) (B : Bare mg) (DL : Def K mg "with_one_total" sWith ["plain_weights", "other_weights"] fL fdL) :
    FnOk P w K mg base CX0 (k + 2) f fd ["plain_weights", "other_weights"] (spSameSrc K) := by
  have GL : FnOk P w K mg base CX0 (k + 1) fL fdL ["plain_weights", "other_weights"] (spWith K) := ok_with DL.F B
  refine F.ok scSameSrc (fun vs H Q E h => ?_) (fun cdv A outer s H vs Q E hr h => ?_)
  · obtain ⟨a, b, n, ps, qs, rfl, _⟩ := h
    rfl
  · obtain ⟨a, b, n, ps, qs, rfl, ha, hb, S1, S2, q⟩ := h
    refine ⟨_, pss_cons (ps_set (i := 2) scSameSrc.nd rfl (.inl rfl) (pe_call GL hr (by rfl) DL.g DL.F.kp DL.b .nil pass0 (pa_cons (pv 0) (pa_cons (pv 1) pa_nil))))
      (pss_one (ps_ret (pe_cmpR (op_eqD hr.units) (pe_ix ix_tup (pv 2) pe_int (fun _ _ => rfl)) (pe_ix ix_tup (pv 2) pe_int (fun _ _ => rfl)) (nomark _)))), ?_⟩
    refine ⟨_, rfl, _, rfl, a, b, n, ps, qs, rfl, ha, hb, S1, S2, fun H1 t x y s1 nt et ex ey => ?_⟩
    refine ⟨_, rfl, t, _, 0, _, rfl, rfl, SqT.of et, rfl, _, rfl, t, _, 1, _, rfl, rfl, SqT.of et, rfl, .list (dI (lev ps (tot qs))), .list (dI (lev qs (tot ps))), .lst (SqL.of ex) (dp_nv _), .lst (SqL.of ey) (dp_nv _), dI_shaped _, dI_shaped _, ?_⟩
    rw [PyData.eqv, dI_eqv]
    exact q _ s1
/-! ### chances_compared -/
def spCompared (K : PySem.W.Frag) : Sp := fun vs H Q _ => ∃ (a b c : Addr) (n : Nat) (ps qs w : List Nat), vs = [.ref a, .ref b, .ref c] ∧ SqL K H a (nv ps) ∧ SqL K H b (nv qs) ∧ SqL K H c (nv w) ∧ Src n ps ∧ Src n qs ∧ (∀ l ∈ w, l < n) ∧ w.length ≤ 6 ∧
  ∀ (H' : Hp) (p : Addr), Same H H' → H p = none → H' p = some (.tup [.int (wW ps w * T qs ^ w.length), .int (wW qs w * T ps ^ w.length)]) → Q (.ref p) H'
theorem ok_compared {f fW fL : Addr} {fd fdW fdL : FuncData} {k : Nat} (F : Fun K "chances_compared" "chances_compared" sCompared f fd) (B : Bare mg)
    (DW : Def K mg "word_weight" sWeight ["weights", "word"] fW fdW) (DL : Def K mg "with_one_total" sWith ["plain_weights", "other_weights"] fL fdL) :
    FnOk P w K mg base CX0 (k + 2) f fd ["plain_weights", "other_weights", "word"] (spCompared K) := by
  have GW : FnOk P w K mg base CX0 (k + 1) fW fdW ["weights", "word"] (spWeight K) := ok_weight DW.F
  have GL : FnOk P w K mg base CX0 (k + 1) fL fdL ["plain_weights", "other_weights"] (spWith K) := ok_with DL.F B
  refine F.ok scCompared (fun vs H Q E h => ?_) (fun cdv A outer s H vs Q E hr h => ?_)
  · obtain ⟨a, b, c, n, ps, qs, w, rfl, _⟩ := h
    rfl
  · obtain ⟨a, b, c, n, ps, qs, w, rfl, ha, hb, hc, S1, S2, hl, hw, q⟩ := h
    refine ⟨_, pss_cons (ps_set (i := 3) scCompared.nd rfl (.inl rfl) (pe_call GL hr (by rfl) DL.g DL.F.kp DL.b .nil pass0 (pa_cons (pv 0) (pa_cons (pv 1) pa_nil))))
      (pss_one (ps_ret (pe_tup (pa_cons (pe_call GW hr (by rfl) DW.g DW.F.kp DW.b .nil pass0 (pa_cons (pe_ix ix_tup (pv 3) pe_int (fun _ _ => rfl)) (pa_cons (pv 2) pa_nil)))
        (pa_cons (pe_call GW hr (by rfl) DW.g DW.F.kp DW.b .nil pass0 (pa_cons (pe_ix ix_tup (pv 3) pe_int (fun _ _ => rfl)) (pa_cons (pv 2) pa_nil))) pa_nil))))), ?_⟩
    refine ⟨_, rfl, _, rfl, a, b, n, ps, qs, rfl, ha, hb, S1, S2, fun H1 t x y s1 nt et ex ey => ?_⟩
    refine ⟨_, rfl, t, _, 0, _, rfl, rfl, SqT.of et, rfl, _, rfl, x, c, lev ps (tot qs), w, rfl, SqL.of ex, s1.seq hc, lev_small S1 S2.tot_le, fun l h => by rw [lev_len, S1.len]; exact hl l h, ?_⟩
    refine ⟨_, rfl, t, _, 1, _, rfl, rfl, SqT.of et, rfl, _, rfl, y, c, lev qs (tot ps), w, rfl, SqL.of ey, s1.seq hc, lev_small S2 S1.tot_le, fun l h => by rw [lev_len, S2.len]; exact hl l h, ?_⟩
    refine ⟨(by show 2 ≤ sizeLine; decide), fun p hp => ?_⟩
    refine q _ p (s1.trans (same_upd hp)) (s1.free hp) ?_
    rw [upd_same, wW_lev, wW_lev, T_tot, T_tot]
end
end My
set_option Elab.async false
set_option maxRecDepth 100000
set_option maxHeartbeats 2000000
set_option linter.unusedVariables false
namespace My
open PySem PySem.Spec PyProof.Rows L2
abbrev sLonger : Stmt := topS 12
abbrev sAll : Stmt := topS 13
abbrev sWhole : Stmt := topS 14
theorem scLonger : FnScope ["many_of_pairs", "level", "longer", "pair", "many", "by_plain", "by_other", "grown"] ["many_of_pairs", "level"] (defScope sLonger) := ⟨rfl, rfl, rfl, by decide +kernel, rfl, by decide +kernel, by decide +kernel⟩
theorem scAll : FnScope ["plain_weights", "other_weights", "length", "level", "many_of_pairs", "place"] ["plain_weights", "other_weights", "length"] (defScope sAll) := ⟨rfl, rfl, rfl, by decide +kernel, rfl, by decide +kernel, by decide +kernel⟩
theorem scWhole : FnScope ["plain_weights", "other_weights", "length"] ["plain_weights", "other_weights", "length"] (defScope sWhole) := ⟨rfl, rfl, rfl, by decide +kernel, rfl, by decide +kernel, by decide +kernel⟩
theorem walk_itemsT {d : Addr} {ob : Obj} {kvs : List (List L2.Key × V)} : Walk (ItemsT d ob kvs) kvs.length (fun H => H d = some (.frz ob (.dT kvs)))
    (fun i H x H' => ∃ (t q : Addr) (k : List L2.Key) (v : V), kvs[i]? = some (k, v) ∧ x = .ref t ∧ H t = none ∧ H q = some (.tup (k.map kV)) ∧ H' = upd H t (.tup [.ref q, v])) :=
  ⟨fun _ _ hi q => ⟨q, hi⟩, fun _ q => ⟨q, Nat.le_refl _⟩, fun _ _ _ _ _ _ y => y⟩
/-- all but d stands -/
def But (d : Addr) (H H' : Hp) : Prop := ∀ b o, b ≠ d → H b = some o → H' b = some o
theorem But.same {d : Addr} {H H' : Hp} {o : HO} (h : But d H H') (e : H d = some o) : Same H (upd H' d o) := fun b x hb => by
  by_cases z : b = d
  · subst z
    rw [upd_same]
    rw [e] at hb
    exact hb
  · rw [upd_ne z]
    exact h b x z hb
theorem But.lock {d : Addr} {H : Hp} {o : HO} : But d H (upd H d o) := fun b x hb e => by
  rw [upd_ne hb]
  exact e
theorem But.past {d p : Addr} {H H' : Hp} {o : HO} (h : But d H H') (n : H p = none) : But d H (upd H' p o) := fun b x hb e => by
  rw [upd_ne (ne_of_none e n)]
  exact h b x hb e
theorem But.trans {d : Addr} {H H1 H2 : Hp} (h : But d H H1) (s : Same H1 H2) : But d H H2 := fun b x hb e => s b x (h b x hb e)
theorem But.seqL {K : PySem.W.Frag} {d a : Addr} {H H' : Hp} {xs : List V} (h : But d H H') (s : SqL K H a xs) (n : a ≠ d) : SqL K H' a xs := by
  rcases s with (s | ⟨o, s⟩) | s
  · exact .inl (.inl (h a _ n s))
  · exact .inl (.inr ⟨o, h a _ n s⟩)
  · exact .inr s
theorem But.free {d p : Addr} {H H' : Hp} (h : But d H H') (hd : H' d ≠ none) (n : H' p = none) : H p = none := by
  cases e : H p with
  | none => rfl
  | some o =>
    by_cases z : p = d
    · rw [z] at n
      exact absurd n hd
    · have := h p o z e
      rw [n] at this
      cases this
theorem zip_get {lp lq : List Nat} {j : Nat} {x y : Nat} (h1 : lp[j]? = some x) (h2 : lq[j]? = some y) : (lp.zip lq)[j]? = some (x, y) := by
  rw [List.getElem?_zip_eq_some]
  exact ⟨h1, h2⟩
section
variable {P : Program} {w : World} {K : PySem.W.Frag} {mg : Str → Option Value} {base : Heap}
/-! ### one_letter_longer -/
def spLonger (K : PySem.W.Frag) : Sp := fun vs H Q _ => ∃ (d t x y : Addr) (L : Tbl) (lp lq : List Nat), vs = [.ref d, .ref t] ∧ H d = some (.dT (eT L)) ∧ H t = some (.tup [.ref x, .ref y]) ∧ H x = some (.lst (nv lp)) ∧ H y = some (.lst (nv lq)) ∧ Good L ∧ L.length ≤ 4096 ∧ lp.length ≤ 4 ∧ lq.length = lp.length ∧ (∀ z ∈ lp, z ≤ 1000000) ∧ (∀ z ∈ lq, z ≤ 1000000) ∧
  ∀ (H' : Hp) (p : Addr), Same H H' → H p = none → H' p = some (.dT (eT (grow (lp.zip lq) L))) → Q (.ref p) H'
theorem ok_longer {f : Addr} {fd : FuncData} {k : Nat} (F : Fun K "one_letter_longer" "one_letter_longer" sLonger f fd) (B : Bare mg) : FnOk P w K mg base CX0 (k + 1) f fd ["many_of_pairs", "level"] (spLonger K) := by
  refine F.ok scLonger (fun vs H Q E h => ?_) (fun cdv A outer s H vs Q E hr h => ?_)
  · obtain ⟨d, t, x, y, L, lp, lq, rfl, _⟩ := h
    rfl
  · obtain ⟨d, t, x, y, L, lp, lq, rfl, hd, ht, hx, hy, G, hL, l4, lpq, bp, bq, q⟩ := h
    have hu := hu_of hr
    refine ⟨_, pss_cons (ps_set (i := 2) scLonger.nd rfl (.inl rfl) pe_dnewT)
      (pss_cons (ps_lock (ps_for PassesOwn.never rfl (pi_itemsT (pv 0))
          (pg_tup rfl (pgs_cons (pg_name (i := 3) scLonger.nd rfl (.inl rfl)) (pgs_cons (pg_name (i := 4) scLonger.nd rfl (.inl rfl)) pgs_nil)))
        (pss_one (ps_for PassesOwn.never rfl (pi_zip (by rfl) B.zip (pa_cons (pe_ix ix_tup (pv 1) pe_int (fun _ _ => rfl)) (pa_cons (pe_ix ix_tup (pv 1) pe_int (fun _ _ => rfl)) pa_nil)))
            (pg_tup rfl (pgs_cons (pg_name (i := 5) scLonger.nd rfl (.inl rfl)) (pgs_cons (pg_name (i := 6) scLonger.nd rfl (.inl rfl)) pgs_nil)))
          (pss_cons (ps_set (i := 7) scLonger.nd rfl (.inl rfl) (pe_tup (pa_cons (pe_op op_mul (pe_ix ix_tup (pv 3) pe_int (fun _ _ => rfl)) (pv 5)) (pa_cons (pe_op op_mul (pe_ix ix_tup (pv 3) pe_int (fun _ _ => rfl)) (pv 6)) pa_nil))))
          (pss_one (ps_dput hu (pv 2) (pv 7) (pe_op op_add (pe_dget2 hu (pv 2) (pv 7) pe_int ⟨rfl, rfl, rfl, rfl⟩) (pv 4)) rfl)))))))
      (pss_one (ps_ret (pv 2)))), ?_⟩
    intro g ng
    have sz : sizeLine = 16777216 := by decide
    have ndg : d ≠ g := ne_of_none hd ng
    refine ⟨d, .dT (eT L), by rw [upd_ne ndg]; exact hd, trivial, fun od => ?_⟩
    have b0 : But d H (upd (upd H g (.dT [])) d (.frz od (.dT (eT L)))) := fun b o hb e => by
      rw [upd_ne hb]
      exact same_upd ng _ _ e
    refine ⟨_, rfl, d, od, eT L, rfl, upd_same, for_it walk_itemsT
      (fun i σ H1 => ∃ v3 v4 v5 v6 v7 : Option V, σ = [some (.ref d), some (.ref t), some (.ref g), v3, v4, v5, v6, v7] ∧ But d H H1 ∧ H1 d = some (.frz od (.dT (eT L))) ∧ H1 g = some (.dT (eT (grow (lp.zip lq) (L.take i)))))
      ⟨none, none, none, none, none, rfl, b0, upd_same, by rw [upd_ne (Ne.symm ndg)]; exact upd_same⟩ (fun i σ H1 _ ⟨_, _, _, _, _, _, _, h, _⟩ => h) ?_ ?_⟩
    · rintro i v σ H1 H2 hi ⟨v3, v4, v5, v6, v7, rfl, b1, f1, g1⟩ ⟨u, r, kx, vx, hk, rfl, nu, hr1, rfl⟩
      obtain ⟨e, he, rfl, rfl⟩ := eT_get hk
      have hil : i < L.length := (List.getElem?_eq_some_iff.mp he).1
      have he0 := G.nn e (List.mem_of_getElem? he)
      have s2 := same_upd (o := .tup [.ref r, .int e.2]) nu
      refine ⟨u, _, rfl, SqT.of upd_same, rfl, _, _, rfl, _, _, rfl, rfl, ?_⟩
      have b2 := b1.trans s2
      have g2 := s2 _ _ g1
      have f2 := s2 _ _ f1
      have r2 := s2 _ _ hr1
      generalize upd H1 u (.tup [.ref r, .int e.2]) = H2 at s2 b2 g2 f2 r2 ⊢
      have nxd : x ≠ d := ne_of hx hd (fun z => by cases z)
      have nyd : y ≠ d := ne_of hy hd (fun z => by cases z)
      have ntd : t ≠ d := ne_of ht hd (fun z => by cases z)
      refine ⟨_, rfl, t, _, 0, _, rfl, rfl, SqT.of (b2 _ _ ntd ht), rfl, _, rfl, t, _, 1, _, rfl, rfl, SqT.of (b2 _ _ ntd ht), rfl, x, y, _, _, rfl, SqL.of (b2 _ _ nxd hx), SqL.of (b2 _ _ nyd hy), for_it (walk_zip (n := lp.length) (by rw [nv_len, nv_len, lpq, Nat.min_self]))
        (fun j σ H3 => ∃ v5 v6 v7 : Option V, σ = [some (.ref d), some (.ref t), some (.ref g), some (.ref r), some (.int e.2), v5, v6, v7] ∧ But d H H3 ∧ H3 d = some (.frz od (.dT (eT L))) ∧ H3 r = some (.tup [.int e.1.1, .int e.1.2]) ∧ H3 g = some (.dT (eT (grow1 ((lp.zip lq).take j) e (grow (lp.zip lq) (L.take i))))))
        ⟨v5, v6, v7, rfl, b2, f2, r2, g2⟩ (fun j σ H3 _ ⟨_, _, _, _, h, _⟩ => ⟨SqL.of (h _ _ nxd hx), SqL.of (h _ _ nyd hy)⟩) ?_ ?_⟩
      · rintro j v σ H3 H4 hj ⟨v5, v6, v7, rfl, b3, f3, r3, g3⟩ ⟨u2, y1, y2, rfl, nu2, rfl, h1, h2⟩
        obtain ⟨c1, k1, rfl⟩ := nv_get h1
        obtain ⟨c2, k2, rfl⟩ := nv_get h2
        have c1b := bp c1 (List.mem_of_getElem? k1)
        have c2b := bq c2 (List.mem_of_getElem? k2)
        have s4 := same_upd (o := .tup [.int c1, .int c2]) nu2
        refine ⟨u2, _, rfl, SqT.of upd_same, rfl, _, _, rfl, _, _, rfl, rfl, ?_⟩
        have b4 := b3.trans s4
        have g4 := s4 _ _ g3
        have f4 := s4 _ _ f3
        have r4 := s4 _ _ r3
        generalize upd H3 u2 (.tup [.int c1, .int c2]) = H4 at s4 b4 g4 f4 r4 ⊢
        refine ⟨_, rfl, r, _, 0, _, rfl, rfl, SqT.of r4, rfl, _, rfl, _, _, rfl, rfl, .inr ⟨by omega, by omega⟩, _, rfl, r, _, 1, _, rfl, rfl, SqT.of r4, rfl, _, rfl, _, _, rfl, rfl, .inr ⟨by omega, by omega⟩, (by show 2 ≤ sizeLine; decide), fun p np => ?_⟩
        have s5 := same_upd (o := .tup [.int (e.1.1 * c1), .int (e.1.2 * c2)]) np
        have b5 := b4.trans s5
        have g5 := s5 _ _ g4
        have f5 := s5 _ _ f4
        have r5 := s5 _ _ r4
        have p5 : (upd H4 p (.tup [.int (e.1.1 * c1), .int (e.1.2 * c2)])) p = some (.tup ((kk (e.1.1 * c1, e.1.2 * c2)).map kV)) := upd_same
        generalize upd H4 p (.tup [.int (e.1.1 * c1), .int (e.1.2 * c2)]) = H5 at s5 b5 g5 f5 r5 p5 ⊢
        have gd : Good (grow1 ((lp.zip lq).take j) e (grow (lp.zip lq) (L.take i))) := Good.grow1 he0 _ (grow_good _ _ fun z hz => G.nn z (List.mem_of_mem_take hz))
        have ln : (grow1 ((lp.zip lq).take j) e (grow (lp.zip lq) (L.take i))).length < sizeLine := by
          have h1 := grow1_len e ((lp.zip lq).take j) (grow (lp.zip lq) (L.take i))
          have h2 := grow_len (lp.zip lq) (L.take i)
          have h3 : (lp.zip lq).length ≤ 4 := by rw [List.length_zip]; omega
          have h4 : (L.take i).length ≤ 4096 := by rw [List.length_take]; omega
          have h5 := Nat.mul_le_mul h4 h3
          have h6 : ((lp.zip lq).take j).length ≤ 4 := by rw [List.length_take]; omega
          omega
        refine ⟨_, rfl, g, rfl, .inr ⟨_, .inl g5⟩, _, rfl, _, DGet.t g5 p5, ?_⟩
        rw [eT_val]
        refine ⟨_, rfl, _, _, rfl, rfl, _, rfl, _, rfl, g, _, rfl, DPut.t g5 p5 (by rw [eT_len]; exact ln), ?_⟩
        rw [eT_put _ _ _ gd.nd]
        have ngH : H g = none := ng
        have nrg : r ≠ g := ne_of r5 g5 (fun z => by cases z)
        refine ⟨some (.int c1), some (.int c2), some (.ref p), rfl, b5.past ngH, by rw [upd_ne ndg]; exact f5, by rw [upd_ne nrg]; exact r5, ?_⟩
        rw [upd_same, take_more (zip_get k1 k2), grow1_snoc]
      · rintro σ H3 ⟨v5, v6, v7, rfl, b3, f3, r3, g3⟩
        have : (lp.zip lq).take lp.length = lp.zip lq := List.take_of_length_le (by rw [List.length_zip]; omega)
        rw [this, ← grow_snoc, ← take_more he] at g3
        exact ⟨_, _, _, _, _, rfl, b3, f3, g3⟩
    · rintro σ H1 ⟨v3, v4, v5, v6, v7, rfl, b1, f1, g1⟩
      rw [eT_len, List.take_length] at g1
      refine ⟨f1, _, rfl, q _ g (b1.same hd) ng ?_⟩
      rw [upd_ne (Ne.symm ndg)]
      exact g1
/-! ### all_words -/
def spAll (K : PySem.W.Frag) : Sp := fun vs H Q _ => ∃ (a b : Addr) (m n : Nat) (ps qs : List Nat), vs = [.ref a, .ref b, .int (n : Int)] ∧ SqL K H a (nv ps) ∧ SqL K H b (nv qs) ∧ Src m ps ∧ Src m qs ∧ n ≤ 6 ∧
  ∀ (H' : Hp) (p : Addr), Same H H' → H p = none → H' p = some (.dT (eT (tabl (lev ps (tot qs)) (lev qs (tot ps)) n))) → Q (.ref p) H'
theorem ok_all {f fL fG : Addr} {fd fdL fdG : FuncData} {k : Nat} (F : Fun K "all_words" "all_words" sAll f fd) (B : Bare mg)
    (DL : Def K mg "with_one_total" sWith ["plain_weights", "other_weights"] fL fdL) (DG : Def K mg "one_letter_longer" sLonger ["many_of_pairs", "level"] fG fdG) :
    FnOk P w K mg base CX0 (k + 2) f fd ["plain_weights", "other_weights", "length"] (spAll K) := by
  have GL : FnOk P w K mg base CX0 (k + 1) fL fdL ["plain_weights", "other_weights"] (spWith K) := ok_with DL.F B
  have GG : FnOk P w K mg base CX0 (k + 1) fG fdG ["many_of_pairs", "level"] (spLonger K) := ok_longer DG.F B
  refine F.ok scAll (fun vs H Q E h => ?_) (fun cdv A outer s H vs Q E hr h => ?_)
  · obtain ⟨a, b, m, n, ps, qs, rfl, _⟩ := h
    rfl
  · obtain ⟨a, b, m, n, ps, qs, rfl, ha, hb, S1, S2, hn, q⟩ := h
    have hu := hu_of hr
    refine ⟨_, pss_cons (ps_set (i := 3) scAll.nd rfl (.inl rfl) (pe_call GL hr (by rfl) DL.g DL.F.kp DL.b .nil pass0 (pa_cons (pv 0) (pa_cons (pv 1) pa_nil))))
      (pss_cons (ps_set (i := 4) scAll.nd rfl (.inl rfl) (pe_oneT hu (pe_tup (pa_cons pe_int (pa_cons pe_int pa_nil))) pe_int))
      (pss_cons (ps_for PassesOwn.never rfl (pi_range1 (by rfl) B.range (pa_cons (pv 2) pa_nil)) (pg_name (i := 5) scAll.nd rfl (.inl rfl))
        (pss_one (ps_set (i := 4) scAll.nd rfl (.inl rfl) (pe_call GG hr (by rfl) DG.g DG.F.kp DG.b .nil pass0 (pa_cons (pv 4) (pa_cons (pv 3) pa_nil))))))
      (pss_one (ps_ret (pv 4))))), ?_⟩
    refine ⟨_, rfl, _, rfl, a, b, m, ps, qs, rfl, ha, hb, S1, S2, fun H1 t x y s1 nt et ex ey => ?_⟩
    intro p np
    refine ⟨(by show 2 ≤ sizeLine; decide), fun r nr => ?_⟩
    have s2 := same_upd (o := .dT []) np
    have s3 := same_upd (o := .tup [.int 1, .int 1]) nr
    have npH : H p = none := s1.free np
    have pr : p ≠ r := ne_of_none (upd_same (H := H1) (a := p) (o := .dT [])) nr
    refine ⟨r, kk (1, 1), rfl, upd_same, by rw [upd_ne pr]; exact upd_same, ?_⟩
    have s4 : Same H (upd (upd (upd H1 p (.dT [])) r (.tup [.int 1, .int 1])) p (.dT [(kk (1, 1), .int 1)])) := same_past (s1.trans (s2.trans s3)) npH
    have s5 : Same H1 (upd (upd (upd H1 p (.dT [])) r (.tup [.int 1, .int 1])) p (.dT [(kk (1, 1), .int 1)])) := same_past (s2.trans s3) np
    have e5 : (upd (upd (upd H1 p (.dT [])) r (.tup [.int 1, .int 1])) p (.dT [(kk (1, 1), .int 1)])) p = some (.dT (eT (tabl (lev ps (tot qs)) (lev qs (tot ps)) 0))) := upd_same
    generalize upd (upd (upd H1 p (.dT [])) r (.tup [.int 1, .int 1])) p (.dT [(kk (1, 1), .int 1)]) = H5 at s4 s5 e5 ⊢
    have l1 : (lev ps (tot qs)).length ≤ 4 := by rw [lev_len, S1.len]; exact S1.hi
    refine ⟨_, rfl, (n : Int), rfl, by omega, by omega, for_range (n := (n : Int).toNat) (fun i σ H' => ∃ (p : Addr) (v5 : Option V), σ = [some (.ref a), some (.ref b), some (.int n), some (.ref t), some (.ref p), v5] ∧ Same H5 H' ∧ H p = none ∧ H' p = some (.dT (eT (tabl (lev ps (tot qs)) (lev qs (tot ps)) i)))) ⟨p, none, rfl, Same.refl _, npH, e5⟩ ?_ ?_⟩
    · rintro i σ H6 hi ⟨p, v5, rfl, s6, np6, e6⟩
      have s56 := s5.trans s6
      have l2 : (tabl (lev ps (tot qs)) (lev qs (tot ps)) i).length ≤ 4096 := Nat.le_trans (tabl_len l1 i) (Nat.le_trans (Nat.pow_le_pow_right (by decide) (show i ≤ 6 by omega)) (by decide))
      refine ⟨_, rfl, _, rfl, p, t, x, y, tabl (lev ps (tot qs)) (lev qs (tot ps)) i, lev ps (tot qs), lev qs (tot ps), rfl, e6, s56 _ _ et, s56 _ _ ex, s56 _ _ ey, tabl_good _ _ i, l2, l1, by rw [lev_len, lev_len, S1.len, S2.len], lev_small S1 S2.tot_le, lev_small S2 S1.tot_le, fun H7 p7 s7 n7 e7 => ?_⟩
      exact ⟨p7, some (.int (0 + (i : Int))), rfl, s6.trans s7, (s4.trans s6).free n7, e7⟩
    · rintro σ H6 ⟨p, v5, rfl, s6, np6, e6⟩
      exact ⟨_, rfl, q _ p (s4.trans s6) np6 e6⟩
/-! ### whole_of_words -/
def spWhole (K : PySem.W.Frag) : Sp := fun vs H Q _ => ∃ (a b : Addr) (m n : Nat) (ps qs : List Nat), vs = [.ref a, .ref b, .int (n : Int)] ∧ SqL K H a (nv ps) ∧ SqL K H b (nv qs) ∧ Src m ps ∧ Src m qs ∧ n ≤ 6 ∧ Q (.int ((T ps * T qs) ^ n)) H
theorem ok_whole {f fP : Addr} {fd fdP : FuncData} {k : Nat} (F : Fun K "whole_of_words" "whole_of_words" sWhole f fd) (B : Bare mg) (DP : Def K mg "power" sPower ["base", "times"] fP fdP) :
    FnOk P w K mg base CX0 (k + 2) f fd ["plain_weights", "other_weights", "length"] (spWhole K) := by
  have GP : FnOk P w K mg base CX0 (k + 1) fP fdP ["base", "times"] spPower := ok_power DP.F B.range
  refine F.ok scWhole (fun vs H Q E h => ?_) (fun cdv A outer s H vs Q E hr h => ?_)
  · obtain ⟨a, b, m, n, ps, qs, rfl, _⟩ := h
    rfl
  · obtain ⟨a, b, m, n, ps, qs, rfl, ha, hb, S1, S2, hn, q⟩ := h
    refine ⟨_, pss_one (ps_ret (pe_call GP hr (by rfl) DP.g DP.F.kp DP.b .nil pass0 (pa_cons (pe_op op_mul (pe_callB (cr_sum rfl) (by rfl) B.sum (by decide +kernel) (pa_cons (pv 0) pa_nil)) (pe_callB (cr_sum rfl) (by rfl) B.sum (by decide +kernel) (pa_cons (pv 1) pa_nil))) (pa_cons (pv 2) pa_nil)))), ?_⟩
    have t1 := S1.T_le
    have t2 := S2.T_le
    have p1 := S1.pos
    have p2 := S2.pos
    have h1 : T ps * T qs ≤ 36 * 36 := Int.mul_le_mul t1 t2 (by omega) (by decide)
    have h2 := Int.mul_pos p1 p2
    refine ⟨_, rfl, a, nI ps, rfl, ha, _, rfl, b, nI qs, rfl, hb, _, _, rfl, rfl, .inl ⟨by rw [T_sum]; omega, by rw [T_sum]; omega⟩, _, rfl, T ps * T qs, n, by rw [T_sum, T_sum]; rfl, ⟨by omega, by omega⟩, by omega, q⟩
theorem whole_small {a b n : Nat} {ps qs : List Nat} (S1 : Src a ps) (S2 : Src b qs) (hn : n ≤ 6) : 0 < (T ps * T qs) ^ n ∧ (T ps * T qs) ^ n ≤ 4738381338321616896 := by
  have h1 := S1.pow_lt hn
  have h2 := S2.pow_lt hn
  rw [Int.mul_pow]
  refine ⟨Int.mul_pos h1.1 h2.1, ?_⟩
  have h3 : T ps ^ n * T qs ^ n ≤ 2176782336 * 2176782336 := Int.mul_le_mul h1.2 h2.2 (by omega) (by decide)
  omega
end
end My
set_option Elab.async false
set_option maxRecDepth 100000
set_option maxHeartbeats 2000000
set_option linter.unusedVariables false
namespace My
open PySem PySem.Spec PyProof.Rows L2
abbrev sFar : Stmt := topS 15
abbrev sErrsW : Stmt := topS 16
abbrev sSaid : Stmt := topS 17
abbrev sFewest : Stmt := topS 18
abbrev sAboveW : Stmt := topS 19
theorem scFar : FnScope ["plain_weights", "other_weights", "length", "many_of_pairs", "gap", "pair", "many"] ["plain_weights", "other_weights", "length"] (defScope sFar) := ⟨rfl, rfl, rfl, by decide +kernel, rfl, by decide +kernel, by decide +kernel⟩
theorem scErrsW : FnScope ["plain_weights", "other_weights", "length", "far"] ["plain_weights", "other_weights", "length"] (defScope sErrsW) := ⟨rfl, rfl, rfl, by decide +kernel, rfl, by decide +kernel, by decide +kernel⟩
theorem scSaid : FnScope ["plain_weights", "other_weights", "length", "many_of_pairs", "pair", "many"] ["plain_weights", "other_weights", "length"] (defScope sSaid) := ⟨rfl, rfl, rfl, by decide +kernel, rfl, by decide +kernel, by decide +kernel⟩
theorem scFewest : FnScope ["plain_weights", "other_weights", "hundredths", "length", "far"] ["plain_weights", "other_weights", "hundredths"] (defScope sFewest) := ⟨rfl, rfl, rfl, by decide +kernel, rfl, by decide +kernel, by decide +kernel⟩
theorem scAboveW : FnScope ["plain_weights", "other_weights", "source", "length", "bound", "many_of_pairs", "likely", "pair", "many"] ["plain_weights", "other_weights", "source", "length", "bound"] (defScope sAboveW) := ⟨rfl, rfl, rfl, by decide +kernel, rfl, by decide +kernel, by decide +kernel⟩
theorem iabs_nonneg (x : Int) : 0 ≤ iabs x := by
  unfold iabs
  split <;> omega
theorem isum_nonneg : ∀ {l : List Int}, (∀ x ∈ l, 0 ≤ x) → 0 ≤ isum l
  | [], _ => by simp [isum]
  | x :: l, h => by
    have h1 := h x List.mem_cons_self
    have h2 := isum_nonneg fun y hy => h y (List.mem_cons_of_mem x hy)
    rw [isum]
    omega
theorem tsum_nonneg {g : Int → Int → Int} {L : Tbl} (G : Good L) (h : ∀ e ∈ L, 0 ≤ g e.1.1 e.1.2) : 0 ≤ tsum g L := by
  refine isum_nonneg fun x hx => ?_
  obtain ⟨e, he, rfl⟩ := List.mem_map.mp hx
  exact Int.mul_nonneg (G.nn e he) (h e he)
theorem tsum_take {g : Int → Int → Int} {L : Tbl} {i : Nat} {e : (Int × Int) × Int} (h : L[i]? = some e) : tsum g (L.take (i + 1)) = tsum g (L.take i) + e.2 * g e.1.1 e.1.2 := by
  unfold tsum
  rw [take_more h, List.map_append, isum_append]
  simp [isum]
theorem big_small {x : Int} (h0 : 0 ≤ x) (h : x ≤ 4738381338321616896 * 4) : x.natAbs < 2 ^ 8000 :=
  Nat.lt_of_lt_of_le (show x.natAbs < 2 ^ 80 by omega) (Nat.pow_le_pow_right (by decide) (by decide))
def farF (ps qs : List Nat) (n : Nat) : Kp340.Fr := Kp340.fr (gapT ps qs n) (2 * (T ps * T qs) ^ n)
section
variable {P : Program} {w : World} {K : PySem.W.Frag} {mg : Str → Option Value} {base : Heap}
/-- the defs that tables of words lean on -/
structure Tabs (K : PySem.W.Frag) (mg : Str → Option Value) : Prop where
  B : Bare mg
  pow : ∃ f fd, Def K mg "power" sPower ["base", "times"] f fd
  fra : ∃ f fd, Def K mg "fraction" sFraction ["upper", "lower"] f fd
  lev : ∃ f fd, Def K mg "with_one_total" sWith ["plain_weights", "other_weights"] f fd
  lon : ∃ f fd, Def K mg "one_letter_longer" sLonger ["many_of_pairs", "level"] f fd
  all : ∃ f fd, Def K mg "all_words" sAll ["plain_weights", "other_weights", "length"] f fd
  who : ∃ f fd, Def K mg "whole_of_words" sWhole ["plain_weights", "other_weights", "length"] f fd
/-! ### how_far_apart -/
def spFar (K : PySem.W.Frag) : Sp := fun vs H Q _ => ∃ (a b : Addr) (m n : Nat) (ps qs : List Nat), vs = [.ref a, .ref b, .int (n : Int)] ∧ SqL K H a (nv ps) ∧ SqL K H b (nv qs) ∧ Src m ps ∧ Src m qs ∧ n ≤ 6 ∧ NewL H Q (frI (farF ps qs n))
theorem ok_far {f : Addr} {fd : FuncData} {k : Nat} (F : Fun K "how_far_apart" "how_far_apart" sFar f fd) (Tb : Tabs K mg) : FnOk P w K mg base CX0 (k + 3) f fd ["plain_weights", "other_weights", "length"] (spFar K) := by
  have B := Tb.B
  obtain ⟨fP, fdP, DP⟩ := Tb.pow
  obtain ⟨fF, fdF, DF⟩ := Tb.fra
  obtain ⟨fL, fdL, DL⟩ := Tb.lev
  obtain ⟨fG, fdG, DG⟩ := Tb.lon
  obtain ⟨fA, fdA, DA⟩ := Tb.all
  obtain ⟨fW, fdW, DW⟩ := Tb.who
  have GF : FnOk P w K mg base CX0 (k + 2) fF fdF ["upper", "lower"] spFraction := ok_fraction DF.F
  have GA : FnOk P w K mg base CX0 (k + 2) fA fdA ["plain_weights", "other_weights", "length"] (spAll K) := ok_all DA.F B DL DG
  have GW : FnOk P w K mg base CX0 (k + 2) fW fdW ["plain_weights", "other_weights", "length"] (spWhole K) := ok_whole DW.F B DP
  refine F.ok scFar (fun vs H Q E h => ?_) (fun cdv A outer s H vs Q E hr h => ?_)
  · obtain ⟨a, b, m, n, ps, qs, rfl, _⟩ := h
    rfl
  · obtain ⟨a, b, m, n, ps, qs, rfl, ha, hb, S1, S2, hn, q⟩ := h
    refine ⟨_, pss_cons (ps_set (i := 3) scFar.nd rfl (.inl rfl) (pe_call GA hr (by rfl) DA.g DA.F.kp DA.b .nil pass0 (pa_cons (pv 0) (pa_cons (pv 1) (pa_cons (pv 2) pa_nil)))))
      (pss_cons (ps_set (i := 4) scFar.nd rfl (.inl rfl) pe_int)
      (pss_cons (ps_lock (ps_for PassesOwn.never rfl (pi_itemsT (pv 3))
          (pg_tup rfl (pgs_cons (pg_name (i := 5) scFar.nd rfl (.inl rfl)) (pgs_cons (pg_name (i := 6) scFar.nd rfl (.inl rfl)) pgs_nil)))
        (pss_one (ps_set (i := 4) scFar.nd rfl (.inl rfl) (pe_op op_add (pv 4) (pe_op op_mul (pv 6) (pe_callB call_abs (by rfl) B.abs (by decide +kernel) (pa_cons (pe_op op_sub (pe_ix ix_tup (pv 5) pe_int (fun _ _ => rfl)) (pe_ix ix_tup (pv 5) pe_int (fun _ _ => rfl))) pa_nil))))))))
      (pss_one (ps_ret (pe_call GF hr (by rfl) DF.g DF.F.kp DF.b .nil pass0 (pa_cons (pv 4) (pa_cons (pe_op op_mul pe_int (pe_call GW hr (by rfl) DW.g DW.F.kp DW.b .nil pass0 (pa_cons (pv 0) (pa_cons (pv 1) (pa_cons (pv 2) pa_nil))))) pa_nil))))))), ?_⟩
    refine ⟨_, rfl, _, rfl, _, rfl, a, b, m, n, ps, qs, rfl, ha, hb, S1, S2, hn, fun H1 d s1 nd ed => ?_⟩
    have la : (lev ps (tot qs)).length = m := by rw [lev_len, S1.len]
    have lb : (lev qs (tot ps)).length = m := by rw [lev_len, S2.len]
    have sm := tabl_small la lb S1.hi hn
    have gd := tabl_good (lev ps (tot qs)) (lev qs (tot ps)) n
    unfold farF gapT at q
    generalize tabl (lev ps (tot qs)) (lev qs (tot ps)) n = L at ed q sm gd
    refine ⟨d, .dT (eT L), ed, trivial, fun od => ?_⟩
    refine ⟨_, rfl, d, od, eT L, rfl, upd_same, for_it walk_itemsT
      (fun i σ H2 => ∃ v5 v6 : Option V, σ = [some (.ref a), some (.ref b), some (.int n), some (.ref d), some (.int (tsum (fun x y => iabs (x - y)) (L.take i))), v5, v6] ∧ But d H1 H2 ∧ H2 d = some (.frz od (.dT (eT L))))
      ⟨none, none, rfl, But.lock, upd_same⟩ (fun i σ H2 _ ⟨_, _, _, _, h⟩ => h) ?_ ?_⟩
    · rintro i v σ H2 H3 hi ⟨v5, v6, rfl, b2, f2⟩ ⟨u, r, kx, vx, hk, rfl, nu, hr1, rfl⟩
      obtain ⟨e, he, rfl, rfl⟩ := eT_get hk
      have hs := sm e (List.mem_of_getElem? he)
      have s3 := same_upd (o := .tup [.ref r, .int e.2]) nu
      have hr2 : SqT K (upd H2 u (.tup [.ref r, .int e.2])) r [.int e.1.1, .int e.1.2] := SqT.of (s3 _ _ hr1)
      refine ⟨u, _, rfl, SqT.of upd_same, rfl, _, _, rfl, _, _, rfl, rfl, ?_⟩
      refine ⟨_, rfl, _, rfl, _, rfl, r, _, 0, _, rfl, rfl, hr2, rfl, _, rfl, r, _, 1, _, rfl, rfl, hr2, rfl, _, _, rfl, rfl, _, rfl, _, _, rfl, rfl, .inl ⟨by omega, by omega⟩, _, _, rfl, rfl, ?_⟩
      refine ⟨some (.ref r), some (.int e.2), ?_, b2.trans s3, s3 _ _ f2⟩
      rw [tsum_take he]
      rfl
    · rintro σ H2 ⟨v5, v6, rfl, b2, f2⟩
      rw [eT_len, List.take_length]
      have s2 := b2.same ed
      refine ⟨f2, ?_⟩
      have s12 := s1.trans s2
      have hw := whole_small S1 S2 hn
      refine ⟨_, rfl, _, rfl, _, rfl, _, rfl, a, b, m, n, ps, qs, rfl, s12.seq ha, s12.seq hb, S1, S2, hn, _, _, rfl, rfl, .inl ⟨by decide, by decide⟩, ?_⟩
      refine ⟨_, _, rfl, tsum_nonneg gd fun e _ => iabs_nonneg _, by omega, big_small (by omega) (by omega), fun H4 p s4 np ep => ?_⟩
      exact q H4 p (s12.trans s4) (s12.free np) ep
/-! ### how_often_best_errs -/
def spErrsW (K : PySem.W.Frag) : Sp := fun vs H Q _ => ∃ (a b : Addr) (m n : Nat) (ps qs : List Nat), vs = [.ref a, .ref b, .int (n : Int)] ∧ SqL K H a (nv ps) ∧ SqL K H b (nv qs) ∧ Src m ps ∧ Src m qs ∧ n ≤ 6 ∧ 0 ≤ (farF ps qs n).2 - (farF ps qs n).1 ∧ 0 < (farF ps qs n).2 ∧ (farF ps qs n).2 ≤ 4738381338321616896 * 2 ∧
  NewL H Q (frI (Kp340.fr ((farF ps qs n).2 - (farF ps qs n).1) (2 * (farF ps qs n).2)))
theorem ok_errsW {f fC : Addr} {fd fdC : FuncData} {k : Nat} (F : Fun K "how_often_best_errs" "how_often_best_errs" sErrsW f fd) (Tb : Tabs K mg) (DC : Def K mg "how_far_apart" sFar ["plain_weights", "other_weights", "length"] fC fdC) : FnOk P w K mg base CX0 (k + 4) f fd ["plain_weights", "other_weights", "length"] (spErrsW K) := by
  obtain ⟨fF, fdF, DF⟩ := Tb.fra
  have GF : FnOk P w K mg base CX0 (k + 3) fF fdF ["upper", "lower"] spFraction := ok_fraction DF.F
  have GC : FnOk P w K mg base CX0 (k + 3) fC fdC ["plain_weights", "other_weights", "length"] (spFar K) := ok_far DC.F Tb
  refine F.ok scErrsW (fun vs H Q E h => ?_) (fun cdv A outer s H vs Q E hr h => ?_)
  · obtain ⟨a, b, m, n, ps, qs, rfl, _⟩ := h
    rfl
  · obtain ⟨a, b, m, n, ps, qs, rfl, ha, hb, S1, S2, hn, h1, h2, h3, q⟩ := h
    refine ⟨_, pss_cons (ps_set (i := 3) scErrsW.nd rfl (.inl rfl) (pe_call GC hr (by rfl) DC.g DC.F.kp DC.b .nil pass0 (pa_cons (pv 0) (pa_cons (pv 1) (pa_cons (pv 2) pa_nil)))))
      (pss_one (ps_ret (pe_call GF hr (by rfl) DF.g DF.F.kp DF.b .nil pass0 (pa_cons (pe_op op_sub (pe_ix ix_list (pv 3) pe_int (fun _ _ => rfl)) (pe_ix ix_list (pv 3) pe_int (fun _ _ => rfl))) (pa_cons (pe_op op_mul pe_int (pe_ix ix_list (pv 3) pe_int (fun _ _ => rfl))) pa_nil))))), ?_⟩
    refine ⟨_, rfl, _, rfl, _, rfl, a, b, m, n, ps, qs, rfl, ha, hb, S1, S2, hn, fun H1 p s1 np ep => ?_⟩
    generalize farF ps qs n = x at ep q h1 h2 h3
    obtain ⟨u, v⟩ := x
    have hp : SqL K H1 p [.int u, .int v] := SqL.of ep
    dsimp only at h1 h2 h3 q
    refine ⟨_, rfl, p, _, 1, _, rfl, rfl, hp, rfl, _, rfl, p, _, 0, _, rfl, rfl, hp, rfl, _, _, rfl, rfl, _, rfl, p, _, 1, _, rfl, rfl, hp, rfl, _, _, rfl, rfl, .inl ⟨by decide, by decide⟩, ?_⟩
    refine ⟨_, _, rfl, h1, by omega, big_small (by omega) (by omega), fun H4 r s4 nr er => ?_⟩
    exact q H4 r (s1.trans s4) (s1.free nr) er
end
end My
set_option Elab.async false
set_option maxRecDepth 100000
set_option maxHeartbeats 2000000
set_option linter.unusedVariables false
namespace My
open PySem PySem.Spec PyProof.Rows L2
section
variable {P : Program} {w : World} {K : PySem.W.Frag} {mg : Str → Option Value} {base : Heap}
/-! ### how_many_said_other -/
/-- those of which it is said, up to a place -/
def sd (e : (Int × Int) × Int) : Bool := decide (e.1.1 < e.1.2)
theorem sd_yes {e : (Int × Int) × Int} (h : e.1.1 < e.1.2) : sd e = true := decide_eq_true h
theorem sd_no {e : (Int × Int) × Int} (h : ¬ e.1.1 < e.1.2) : ¬ sd e = true := fun z => h (of_decide_eq_true z)
def saidL (L : Tbl) : List Int := (L.filter sd).map fun e => e.2
theorem saidL_sum : ∀ L : Tbl, (saidL L).sum = tsum (fun x y => if x < y then 1 else 0) L
  | [] => rfl
  | e :: L => by
    have ih := saidL_sum L
    have e1 : tsum (fun x y => if x < y then 1 else 0) (e :: L) = e.2 * (if e.1.1 < e.1.2 then 1 else 0) + tsum (fun x y => if x < y then 1 else 0) L := rfl
    rw [e1, ← ih]
    unfold saidL
    by_cases h : e.1.1 < e.1.2
    · rw [List.filter_cons_of_pos (sd_yes h), List.map_cons, List.sum_cons, if_pos h, Int.mul_one]
    · rw [List.filter_cons_of_neg (sd_no h), if_neg h, Int.mul_zero, Int.zero_add]
theorem saidL_yes {L : Tbl} {i : Nat} {e : (Int × Int) × Int} (he : L[i]? = some e) (h : e.1.1 < e.1.2) : saidL (L.take (i + 1)) = saidL (L.take i) ++ [e.2] := by
  unfold saidL
  rw [take_more he, List.filter_append, List.map_append, List.filter_cons_of_pos (sd_yes h)]
  rfl
theorem saidL_no {L : Tbl} {i : Nat} {e : (Int × Int) × Int} (he : L[i]? = some e) (h : ¬ e.1.1 < e.1.2) : saidL (L.take (i + 1)) = saidL (L.take i) := by
  unfold saidL
  rw [take_more he, List.filter_append, List.map_append, List.filter_cons_of_neg (sd_no h)]
  exact List.append_nil _
theorem saidL_len (L : Tbl) : (saidL L).length ≤ L.length := by
  unfold saidL
  rw [List.length_map]
  exact List.length_filter_le _ _
def spSaid (K : PySem.W.Frag) : Sp := fun vs H Q _ => ∃ (a b : Addr) (m n : Nat) (ps qs : List Nat), vs = [.ref a, .ref b, .int (n : Int)] ∧ SqL K H a (nv ps) ∧ SqL K H b (nv qs) ∧ Src m ps ∧ Src m qs ∧ n ≤ 6 ∧ ∀ H', Same H H' → Q (.int (saysT ps qs n)) H'
theorem ok_said {f : Addr} {fd : FuncData} {k : Nat} (F : Fun K "how_many_said_other" "how_many_said_other" sSaid f fd) (Tb : Tabs K mg) : FnOk P w K mg base CX0 (k + 3) f fd ["plain_weights", "other_weights", "length"] (spSaid K) := by
  have B := Tb.B
  obtain ⟨fL, fdL, DL⟩ := Tb.lev
  obtain ⟨fG, fdG, DG⟩ := Tb.lon
  obtain ⟨fA, fdA, DA⟩ := Tb.all
  have GA : FnOk P w K mg base CX0 (k + 2) fA fdA ["plain_weights", "other_weights", "length"] (spAll K) := ok_all DA.F B DL DG
  refine F.ok scSaid (fun vs H Q E h => ?_) (fun cdv A outer s H vs Q E hr h => ?_)
  · obtain ⟨a, b, m, n, ps, qs, rfl, _⟩ := h
    rfl
  · obtain ⟨a, b, m, n, ps, qs, rfl, ha, hb, S1, S2, hn, q⟩ := h
    refine ⟨_, pss_cons (ps_set (i := 3) scSaid.nd rfl (.inl rfl) (pe_call GA hr (by rfl) DA.g DA.F.kp DA.b .nil pass0 (pa_cons (pv 0) (pa_cons (pv 1) (pa_cons (pv 2) pa_nil)))))
      (pss_one (ps_ret (pe_callB (cr_sum rfl) (by rfl) B.sum (by decide +kernel) (pa_cons
        (pe_lock (pe_lc (own := [("pair", 4), ("many", 5)]) (g := gTup K 2 (gCons (gName 4) (gCons (gName 5) gNil))) (tt := tTest (tOp (rI0 fun i j => .bl (decide (j < i))) (tOp (rIxT K) (tVar 4) (tC (.int 1))) (tOp (rIxT K) (tVar 4) (tC (.int 0))))) (te := tVar 5) rfl scSaid.nd (pi_itemsT (pv 3)) (blkOk_by (N := ["plain_weights", "other_weights", "length", "many_of_pairs", "pair", "many"]) (sc := defScope sSaid) (by decide +kernel))
          (fun _ _ _ _ _ => pg_tup rfl (pgs_cons (pg_name (i := 4) scSaid.nd rfl (.inl rfl)) (pgs_cons (pg_name (i := 5) scSaid.nd rfl (.inl rfl)) pgs_nil)))
          (fun _ _ _ _ _ => pts_one (pt_cmpR op_gt (pe_ix ix_tup (pv 4) pe_int (fun _ _ => rfl)) (pe_ix ix_tup (pv 4) pe_int (fun _ _ => rfl)) (nomark _)))
          (fun _ _ _ _ _ => pv 5))) pa_nil)))), ?_⟩
    refine ⟨_, rfl, _, rfl, _, rfl, a, b, m, n, ps, qs, rfl, ha, hb, S1, S2, hn, fun H1 d s1 nd ed => ?_⟩
    have l1 : (lev ps (tot qs)).length ≤ 4 := by rw [lev_len, S1.len]; exact S1.hi
    have l2 : (tabl (lev ps (tot qs)) (lev qs (tot ps)) n).length ≤ 4096 := Nat.le_trans (tabl_len l1 n) (Nat.le_trans (Nat.pow_le_pow_right (by decide) hn) (by decide))
    unfold saysT at q
    generalize tabl (lev ps (tot qs)) (lev qs (tot ps)) n = L at ed q l2
    refine ⟨d, .dT (eT L), ed, trivial, fun od => ?_⟩
    refine ⟨_, rfl, d, od, eT L, rfl, upd_same, fun D nD => ?_⟩
    have nD1 : H1 D = none := by
      by_cases z : D = d
      · rw [z, upd_same] at nD
        cases nD
      · rw [upd_ne z] at nD
        exact nD
    have ndD : d ≠ D := ne_of_none ed nD1
    have b1 : But d H1 (upd H1 d (.frz od (.dT (eT L)))) := But.lock
    refine lc_it walk_itemsT (fun i H2 => But d H1 H2 ∧ H2 d = some (.frz od (.dT (eT L))) ∧ H2 D = some (.lst (iv (saidL (L.take i))))) ⟨b1.past nD1, by rw [upd_ne ndD]; exact upd_same, upd_same⟩ (fun i H2 _ h => h.2.1) ?_ ?_
    · rintro i v H2 H3 hi ⟨b2, f2, g2⟩ ⟨u, r, kx, vx, hk, rfl, nu, hr1, rfl⟩
      obtain ⟨e, he, rfl, rfl⟩ := eT_get hk
      have s3 := same_upd (o := .tup [.ref r, .int e.2]) nu
      have hr2 : SqT K (upd H2 u (.tup [.ref r, .int e.2])) r [.int e.1.1, .int e.1.2] := SqT.of (s3 _ _ hr1)
      have b3 := b2.trans s3
      have f3 := s3 _ _ f2
      have g3 := s3 _ _ g2
      refine ⟨u, _, rfl, SqT.of upd_same, rfl, _, _, rfl, _, _, rfl, rfl, rfl, ?_⟩
      refine ⟨_, rfl, r, _, 1, _, rfl, rfl, hr2, rfl, _, rfl, r, _, 0, _, rfl, rfl, hr2, rfl, _, _, rfl, rfl, _, rfl, ite2 (fun c => ?_) (fun c => ?_)⟩
      · have c : e.1.1 < e.1.2 := of_decide_eq_true c
        refine ⟨_, rfl, _, g3, ?_, b3.past nD1, by rw [upd_ne ndD]; exact f3, ?_⟩
        · rw [iv_len]
          have h1 := saidL_len (L.take i)
          rw [List.length_take] at h1
          have : sizeLine = 16777216 := by decide
          omega
        · rw [upd_same, saidL_yes he c]
          unfold iv
          rw [List.map_append]
          rfl
      · have c : ¬ e.1.1 < e.1.2 := fun z => c (decide_eq_true z)
        refine ⟨b3, f3, ?_⟩
        rw [saidL_no he c]
        exact g3
    · rintro H2 ⟨b2, f2, g2⟩
      rw [eT_len, List.take_length] at g2
      refine ⟨f2, D, saidL L, rfl, SqL.of ?_, ?_⟩
      · rw [upd_ne (Ne.symm ndD)]
        exact g2
      · rw [saidL_sum]
        exact q _ (s1.trans (b2.same ed))
/-! ### fewest_letters_apart -/
/-- so far apart or more -/
def farEnough (ps qs : List Nat) (x : Int) (n : Nat) : Bool := decide (x * (farF ps qs n).2 ≤ (farF ps qs n).1 * 100)
def spFewest (K : PySem.W.Frag) : Sp := fun vs H Q _ => ∃ (a b : Addr) (m x : Nat) (ps qs : List Nat), vs = [.ref a, .ref b, .int (x : Int)] ∧ SqL K H a (nv ps) ∧ SqL K H b (nv qs) ∧ Src m ps ∧ Src m qs ∧ x ≤ 100 ∧
  ∀ H', Same H H' → Q (match (List.range 7).find? (farEnough ps qs x) with | none => .non | some n => .int (n : Int)) H'
theorem find_range {p : Nat → Bool} {n i : Nat} (hi : i < n) (h : p i = true) (hb : ∀ j, j < i → p j = false) : (List.range n).find? p = some i := by
  rw [List.find?_eq_some_iff_getElem]
  refine ⟨h, i, by rw [List.length_range]; exact hi, List.getElem_range _, fun j hj => ?_⟩
  rw [List.getElem_range, hb j hj]
  rfl
theorem ok_fewest {f fC : Addr} {fd fdC : FuncData} {k : Nat} (F : Fun K "fewest_letters_apart" "fewest_letters_apart" sFewest f fd) (Tb : Tabs K mg) (c6 : ∃ t, mg "MOST_LETTERS_OF_A_WORD" = some (.int 6 t)) (DC : Def K mg "how_far_apart" sFar ["plain_weights", "other_weights", "length"] fC fdC) : FnOk P w K mg base CX0 (k + 4) f fd ["plain_weights", "other_weights", "hundredths"] (spFewest K) := by
  have GC : FnOk P w K mg base CX0 (k + 3) fC fdC ["plain_weights", "other_weights", "length"] (spFar K) := ok_far DC.F Tb
  obtain ⟨t6, c6⟩ := c6
  refine F.ok scFewest (fun vs H Q E h => ?_) (fun cdv A outer s H vs Q E hr h => ?_)
  · obtain ⟨a, b, m, n, ps, qs, rfl, _⟩ := h
    rfl
  · obtain ⟨a, b, m, x, ps, qs, rfl, ha, hb, S1, S2, hx, q⟩ := h
    refine ⟨_, pss_cons (ps_for PassesOwn.never rfl (pi_range1 (by rfl) Tb.B.range (pa_cons (pe_op op_add (pe_glob (v := .int 6) (by rfl) c6 ⟨t6, rfl⟩ (by decide)) pe_int) pa_nil)) (pg_name (i := 3) scFewest.nd rfl (.inl rfl))
        (pss_cons (ps_set (i := 4) scFewest.nd rfl (.inl rfl) (pe_call GC hr (by rfl) DC.g DC.F.kp DC.b .nil pass0 (pa_cons (pv 0) (pa_cons (pv 1) (pa_cons (pv 3) pa_nil)))))
        (pss_one (ps_if (pt_cmpR op_ge (pe_op op_mul (pe_ix ix_list (pv 4) pe_int (fun _ _ => rfl)) pe_int) (pe_op op_mul (pv 2) (pe_ix ix_list (pv 4) pe_int (fun _ _ => rfl))) (nomark _)) (pss_one (ps_ret (pv 3))) pss_nil))))
      (pss_one (ps_ret pe_non)), ?_⟩
    refine ⟨_, _, rfl, rfl, (7 : Int), rfl, by decide, by decide, for_range (n := 7) (fun i σ H' => ∃ v3 v4 : Option V, σ = [some (.ref a), some (.ref b), some (.int x), v3, v4] ∧ Same H H' ∧ ∀ j, j < i → farEnough ps qs x j = false) ⟨none, none, rfl, Same.refl _, fun j h => absurd h (Nat.not_lt_zero j)⟩ ?_ ?_⟩
    · rintro i σ H1 hi ⟨v3, v4, rfl, s1, hb'⟩
      refine ⟨_, rfl, _, rfl, _, rfl, a, b, m, i, ps, qs, by rw [Int.zero_add]; rfl, s1.seq ha, s1.seq hb, S1, S2, by omega, fun H2 p s2 np ep => ?_⟩
      have hp : SqL K H2 p [.int (farF ps qs i).1, .int (farF ps qs i).2] := SqL.of ep
      refine ⟨_, rfl, p, _, 0, _, rfl, rfl, hp, rfl, _, _, rfl, rfl, .inr ⟨by decide, by decide⟩, _, rfl, _, rfl, p, _, 1, _, rfl, rfl, hp, rfl, _, _, rfl, rfl, .inl ⟨by omega, by omega⟩, _, _, rfl, rfl, _, rfl, ite2 (fun c => ?_) (fun c => ?_)⟩
      · have q := q H2 (s1.trans s2)
        rw [find_range hi c hb'] at q
        refine ⟨_, rfl, ?_⟩
        rw [Int.zero_add]
        exact q
      · refine ⟨_, _, rfl, s1.trans s2, fun j hj => ?_⟩
        by_cases z : j = i
        · subst z
          cases e : farEnough ps qs x j with
          | false => rfl
          | true => exact absurd e c
        · exact hb' j (by omega)
    · rintro σ H1 ⟨v3, v4, rfl, s1, hb'⟩
      have q := q H1 s1
      have : (List.range 7).find? (farEnough ps qs x) = none := List.find?_eq_none.mpr fun j hj => by
        rw [hb' j (List.mem_range.mp hj)]
        decide
      rw [this] at q
      exact q
/-! ### chance_above -/
def spAboveW (K : PySem.W.Frag) : Sp := fun vs H Q _ => ∃ (a b t : Addr) (m s n x y : Nat) (ps qs : List Nat), vs = [.ref a, .ref b, .int (s : Int), .int (n : Int), .ref t] ∧ SqL K H a (nv ps) ∧ SqL K H b (nv qs) ∧ H t = some (.tup [.int x, .int y]) ∧ Src m ps ∧ Src m qs ∧ s ≤ 1 ∧ n ≤ 6 ∧ x ≤ 1000 ∧ y ≤ 1000 ∧
  NewL H Q (frI (Kp340.fr (aboveT ps qs s n x y) ((T ps * T qs) ^ n)))
theorem pick_at {s : Nat} (hs : s ≤ 1) (x y : Int) : atI ([.int x, .int y] : List V) (s : Int) = some (.int (pick s x y)) := by
  have : s = 0 ∨ s = 1 := by omega
  rcases this with rfl | rfl <;> rfl
theorem ok_aboveW {f : Addr} {fd : FuncData} {k : Nat} (F : Fun K "chance_above" "chance_above" sAboveW f fd) (Tb : Tabs K mg) : FnOk P w K mg base CX0 (k + 3) f fd ["plain_weights", "other_weights", "source", "length", "bound"] (spAboveW K) := by
  have B := Tb.B
  obtain ⟨fP, fdP, DP⟩ := Tb.pow
  obtain ⟨fF, fdF, DF⟩ := Tb.fra
  obtain ⟨fL, fdL, DL⟩ := Tb.lev
  obtain ⟨fG, fdG, DG⟩ := Tb.lon
  obtain ⟨fA, fdA, DA⟩ := Tb.all
  obtain ⟨fW, fdW, DW⟩ := Tb.who
  have GF : FnOk P w K mg base CX0 (k + 2) fF fdF ["upper", "lower"] spFraction := ok_fraction DF.F
  have GA : FnOk P w K mg base CX0 (k + 2) fA fdA ["plain_weights", "other_weights", "length"] (spAll K) := ok_all DA.F B DL DG
  have GW : FnOk P w K mg base CX0 (k + 2) fW fdW ["plain_weights", "other_weights", "length"] (spWhole K) := ok_whole DW.F B DP
  refine F.ok scAboveW (fun vs H Q E h => ?_) (fun cdv A outer s H vs Q E hr h => ?_)
  · obtain ⟨a, b, t, m, s, n, x, y, ps, qs, rfl, _⟩ := h
    rfl
  · obtain ⟨a, b, t, m, s, n, x, y, ps, qs, rfl, ha, hb, ht, S1, S2, hs, hn, hx, hy, q⟩ := h
    refine ⟨_, pss_cons (ps_set (i := 5) scAboveW.nd rfl (.inl rfl) (pe_call GA hr (by rfl) DA.g DA.F.kp DA.b .nil pass0 (pa_cons (pv 0) (pa_cons (pv 1) (pa_cons (pv 3) pa_nil)))))
      (pss_cons (ps_set (i := 6) scAboveW.nd rfl (.inl rfl) pe_int)
      (pss_cons (ps_lock (ps_for PassesOwn.never rfl (pi_itemsT (pv 5))
          (pg_tup rfl (pgs_cons (pg_name (i := 7) scAboveW.nd rfl (.inl rfl)) (pgs_cons (pg_name (i := 8) scAboveW.nd rfl (.inl rfl)) pgs_nil)))
        (pss_one (ps_if (pt_cmpR op_ge (pe_op op_mul (pe_ix ix_tup (pv 7) pe_int (fun _ _ => rfl)) (pe_ix ix_tup (pv 4) pe_int (fun _ _ => rfl))) (pe_op op_mul (pe_ix ix_tup (pv 7) pe_int (fun _ _ => rfl)) (pe_ix ix_tup (pv 4) pe_int (fun _ _ => rfl))) (nomark _))
          (pss_one (ps_set (i := 6) scAboveW.nd rfl (.inl rfl) (pe_op op_add (pv 6) (pe_op op_mul (pv 8) (pe_ix ix_tup (pv 7) (pv 2) (fun _ _ => rfl)))))) pss_nil))))
      (pss_one (ps_ret (pe_call GF hr (by rfl) DF.g DF.F.kp DF.b .nil pass0 (pa_cons (pv 6) (pa_cons (pe_call GW hr (by rfl) DW.g DW.F.kp DW.b .nil pass0 (pa_cons (pv 0) (pa_cons (pv 1) (pa_cons (pv 3) pa_nil)))) pa_nil))))))), ?_⟩
    refine ⟨_, rfl, _, rfl, _, rfl, a, b, m, n, ps, qs, rfl, ha, hb, S1, S2, hn, fun H1 d s1 nd ed => ?_⟩
    have la : (lev ps (tot qs)).length = m := by rw [lev_len, S1.len]
    have lb : (lev qs (tot ps)).length = m := by rw [lev_len, S2.len]
    have sm := tabl_small la lb S1.hi hn
    have gd := tabl_good (lev ps (tot qs)) (lev qs (tot ps)) n
    have nn : 0 ≤ aboveT ps qs s n x y := by
      unfold aboveT
      rw [tabl_rep la lb]
      refine isum_nonneg fun z hz => ?_
      obtain ⟨v, _, rfl⟩ := List.mem_map.mp hz
      have h1 := wW_nn (lev ps (tot qs)) v
      have h2 := wW_nn (lev qs (tot ps)) v
      unfold pick
      split
      · split <;> assumption
      · exact Int.le_refl _
    unfold aboveT at q nn
    generalize tabl (lev ps (tot qs)) (lev qs (tot ps)) n = L at ed q sm gd nn
    have ht1 := s1 _ _ ht
    have ntd : t ≠ d := ne_of ht1 ed (fun z => by cases z)
    refine ⟨d, .dT (eT L), ed, trivial, fun od => ?_⟩
    refine ⟨_, rfl, d, od, eT L, rfl, upd_same, for_it walk_itemsT
      (fun i σ H2 => ∃ v7 v8 : Option V, σ = [some (.ref a), some (.ref b), some (.int s), some (.int n), some (.ref t), some (.ref d), some (.int (tsum (fun u v => if u * x ≤ v * y then pick s u v else 0) (L.take i))), v7, v8] ∧ But d H1 H2 ∧ H2 d = some (.frz od (.dT (eT L))))
      ⟨none, none, rfl, But.lock, upd_same⟩ (fun i σ H2 _ ⟨_, _, _, _, h⟩ => h) ?_ ?_⟩
    · rintro i v σ H2 H3 hi ⟨v7, v8, rfl, b2, f2⟩ ⟨u, r, kx, vx, hk, rfl, nu, hr1, rfl⟩
      obtain ⟨e, he, rfl, rfl⟩ := eT_get hk
      have hs' := sm e (List.mem_of_getElem? he)
      have s3 := same_upd (o := .tup [.ref r, .int e.2]) nu
      have hr2 : SqT K (upd H2 u (.tup [.ref r, .int e.2])) r [.int e.1.1, .int e.1.2] := SqT.of (s3 _ _ hr1)
      have ht2 : SqT K (upd H2 u (.tup [.ref r, .int e.2])) t [.int x, .int y] := SqT.of (s3 _ _ (b2 _ _ ntd ht1))
      refine ⟨u, _, rfl, SqT.of upd_same, rfl, _, _, rfl, _, _, rfl, rfl, ?_⟩
      refine ⟨_, rfl, r, _, 1, _, rfl, rfl, hr2, rfl, _, rfl, t, _, 1, _, rfl, rfl, ht2, rfl, _, _, rfl, rfl, .inr ⟨by omega, by omega⟩, _, rfl, r, _, 0, _, rfl, rfl, hr2, rfl, _, rfl, t, _, 0, _, rfl, rfl, ht2, rfl, _, _, rfl, rfl, .inr ⟨by omega, by omega⟩, _, _, rfl, rfl, _, rfl, ite2 (fun c => ?_) (fun c => ?_)⟩
      · have c : e.1.1 * (x : Int) ≤ e.1.2 * (y : Int) := of_decide_eq_true c
        refine ⟨_, rfl, _, rfl, _, rfl, _, rfl, r, _, _, _, rfl, rfl, hr2, pick_at hs _ _, _, _, rfl, rfl, .inl ⟨by omega, by omega⟩, _, _, rfl, rfl, ?_⟩
        refine ⟨some (.ref r), some (.int e.2), ?_, b2.trans s3, s3 _ _ f2⟩
        rw [tsum_take he, if_pos c]
        rfl
      · have c : ¬ e.1.1 * (x : Int) ≤ e.1.2 * (y : Int) := fun z => c (decide_eq_true z)
        refine ⟨some (.ref r), some (.int e.2), ?_, b2.trans s3, s3 _ _ f2⟩
        rw [tsum_take he, if_neg c, Int.mul_zero, Int.add_zero]
        rfl
    · rintro σ H2 ⟨v7, v8, rfl, b2, f2⟩
      rw [eT_len, List.take_length]
      have s2 := b2.same ed
      refine ⟨f2, ?_⟩
      have s12 := s1.trans s2
      have hw := whole_small S1 S2 hn
      refine ⟨_, rfl, _, rfl, _, rfl, _, rfl, a, b, m, n, ps, qs, rfl, s12.seq ha, s12.seq hb, S1, S2, hn, ?_⟩
      refine ⟨_, _, rfl, nn, hw.1, big_small (by omega) (by omega), fun H4 p s4 np ep => ?_⟩
      exact q H4 p (s12.trans s4) (s12.free np) ep
end
end My
set_option Elab.async false
set_option maxRecDepth 100000
set_option maxHeartbeats 2000000
set_option linter.unusedVariables false
namespace My
open PySem PySem.Spec PyProof.Rows L2
abbrev sCounts : Stmt := topS 21
abbrev sAlarmW : Stmt := topS 22
abbrev sMissW : Stmt := topS 23
abbrev sBest : Stmt := topS 24
theorem scCounts : FnScope ["weights", "letter", "length", "drawn", "not_drawn", "found", "place", "one_more", "no_more", "weight", "first", "second"] ["weights", "letter", "length"] (defScope sCounts) := ⟨rfl, rfl, rfl, by decide +kernel, rfl, by decide +kernel, by decide +kernel⟩
theorem scAlarmW : FnScope ["plain_weights", "letter", "least", "length", "by_count"] ["plain_weights", "letter", "least", "length"] (defScope sAlarmW) := ⟨rfl, rfl, rfl, by decide +kernel, rfl, by decide +kernel, by decide +kernel⟩
theorem scMissW : FnScope ["other_weights", "letter", "least", "length", "by_count"] ["other_weights", "letter", "least", "length"] (defScope sMissW) := ⟨rfl, rfl, rfl, by decide +kernel, rfl, by decide +kernel, by decide +kernel⟩
theorem scBest : FnScope ["plain_weights", "other_weights", "length", "level", "whole", "best_letter", "best_least", "fewest", "letter", "by_plain", "by_other", "least", "wrong"] ["plain_weights", "other_weights", "length"] (defScope sBest) := ⟨rfl, rfl, rfl, by decide +kernel, rfl, by decide +kernel, by decide +kernel⟩
theorem iv_snoc (l : List Int) (x : Int) : iv l ++ [V.int x] = iv (l ++ [x]) := by
  unfold iv
  rw [List.map_append]
  rfl
theorem iv_app (l m : List Int) : iv l ++ iv m = iv (l ++ m) := by
  unfold iv
  rw [List.map_append]
theorem getD_le_T {ws : List Nat} {l : Nat} (h : l < ws.length) : (ws.getD l 0 : Int) ≤ T ws := by
  rw [T_isum]
  refine le_isum (fun x hx => ?_) _ ?_
  · obtain ⟨y, _, rfl⟩ := List.mem_map.mp hx
    omega
  · rw [List.getD_eq_getElem?_getD, List.getElem?_eq_getElem h]
    exact List.mem_map.mpr ⟨ws[l], List.getElem_mem h, rfl⟩
theorem cut_from (l : List Int) (k : Nat) : cutV (iv l) (some (k : Int)) none = iv (l.drop k) := by
  unfold cutV
  rw [HT.sIx_nat, HT.sIx_none]
  unfold iv
  rw [List.length_map, List.map_drop]
  by_cases h : k ≤ l.length
  · rw [Nat.min_eq_left h, List.take_of_length_le (by simp)]
  · rw [Nat.min_eq_right (by omega), List.drop_eq_nil_of_le (by simp), List.drop_eq_nil_of_le (i := k) (by simp; omega)]
    simp
theorem cut_to (l : List Int) (k : Nat) : cutV (iv l) none (some (k : Int)) = iv (l.take k) := by
  unfold cutV
  rw [HT.sIx_nat, HT.sIx_none]
  unfold iv
  rw [List.length_map, List.map_take]
  by_cases h : k ≤ l.length
  · rw [Nat.min_eq_left h]
    simp
  · rw [Nat.min_eq_right (by omega), List.take_of_length_le (i := k) (by simp; omega)]
    simp
    exact List.take_of_length_le (by simp)
section
variable {P : Program} {w : World} {K : PySem.W.Frag} {mg : Str → Option Value} {base : Heap}
/-! ### weights_by_count -/
def spCounts (K : PySem.W.Frag) : Sp := fun vs H Q _ => ∃ (a : Addr) (l n : Nat) (ws : List Nat), vs = [.ref a, .int (l : Int), .int (n : Int)] ∧ SqL K H a (nv ws) ∧ l < ws.length ∧ T ws ≤ 1000000 ∧ n ≤ 6 ∧ NewL H Q (bc (ws.getD l 0 : Int) (T ws - (ws.getD l 0 : Int)) n)
theorem ok_counts {f : Addr} {fd : FuncData} {k : Nat} (F : Fun K "weights_by_count" "weights_by_count" sCounts f fd) (B : Bare mg) : FnOk P w K mg base CX0 (k + 1) f fd ["weights", "letter", "length"] (spCounts K) := by
  refine F.ok scCounts (fun vs H Q E h => ?_) (fun cdv A outer s H vs Q E hr h => ?_)
  · obtain ⟨a, l, n, ws, rfl, _⟩ := h
    rfl
  · obtain ⟨a, l, n, ws, rfl, ha, hl, hT, hn, q⟩ := h
    refine ⟨_, pss_cons (ps_set (i := 3) scCounts.nd rfl (.inr rfl) (pe_ix ix_list (pv 0) (pv 1) (fun _ _ => rfl)))
      (pss_cons (ps_set (i := 4) scCounts.nd rfl (.inr rfl) (pe_op op_sub (pe_callB (cr_sum rfl) (by rfl) B.sum (by decide +kernel) (pa_cons (pv 0) pa_nil)) (pv 3)))
      (pss_cons (ps_set (i := 5) scCounts.nd rfl (.inl rfl) (pe_lst (pa_cons pe_int pa_nil)))
      (pss_cons (ps_for PassesOwn.never rfl (pi_range1 (by rfl) B.range (pa_cons (pv 2) pa_nil)) (pg_name (i := 6) scCounts.nd rfl (.inl rfl))
        (pss_cons (ps_set (i := 7) scCounts.nd rfl (.inl rfl) (pe_op op_cat (pe_lst (pa_cons pe_int pa_nil))
          (pe_lc (own := [("weight", 9)]) (g := gName 9) (tt := tYes) rfl scCounts.nd (pi_list (pv 5)) (blkOk_by (N := ["weights", "letter", "length", "drawn", "not_drawn", "found", "place", "one_more", "no_more", "weight", "first", "second"]) (sc := defScope sCounts) (by decide +kernel)) (fun _ _ _ _ _ => pg_name (i := 9) scCounts.nd rfl (Or.inl rfl)) (fun _ _ _ _ _ => pts_nil)
            (fun _ _ _ _ _ => pe_op op_mul (pv 9) (pv 3)))))
        (pss_cons (ps_set (i := 8) scCounts.nd rfl (.inl rfl) (pe_op op_cat
          (pe_lc (own := [("weight", 9)]) (g := gName 9) (tt := tYes) rfl scCounts.nd (pi_list (pv 5)) (blkOk_by (N := ["weights", "letter", "length", "drawn", "not_drawn", "found", "place", "one_more", "no_more", "weight", "first", "second"]) (sc := defScope sCounts) (by decide +kernel)) (fun _ _ _ _ _ => pg_name (i := 9) scCounts.nd rfl (Or.inl rfl)) (fun _ _ _ _ _ => pts_nil)
            (fun _ _ _ _ _ => pe_op op_mul (pv 9) (pv 4))) (pe_lst (pa_cons pe_int pa_nil))))
        (pss_one (ps_setLc (i := 5) (own := [("first", 10), ("second", 11)]) (g := gTup K 2 (gCons (gName 10) (gCons (gName 11) gNil))) (tt := tYes) (te := tOp (rI0 fun i j => .int (i + j)) (tVar 10) (tVar 11)) rfl scCounts.nd rfl rfl (sw_true rfl rfl rfl (by decide +kernel)) (pi_zip (by rfl) B.zip (pa_cons (pv 7) (pa_cons (pv 8) pa_nil))) (blkOk_by (N := ["weights", "letter", "length", "drawn", "not_drawn", "found", "place", "one_more", "no_more", "weight", "first", "second"]) (sc := defScope sCounts) (by decide +kernel))
          (fun _ _ _ _ _ => pg_tup rfl (pgs_cons (pg_name (i := 10) scCounts.nd rfl (.inl rfl)) (pgs_cons (pg_name (i := 11) scCounts.nd rfl (.inl rfl)) pgs_nil))) (fun _ _ _ _ _ => pts_nil)
          (fun _ _ _ _ _ => pe_op op_add (pv 10) (pv 11)))))))
      (pss_one (ps_ret (pv 5)))))), ?_⟩
    have hd0 : 0 ≤ (ws.getD l 0 : Int) := by omega
    have hd1 := getD_le_T hl
    refine ⟨_, rfl, _, rfl, a, _, _, _, rfl, rfl, ha, atI_nat (nv_at hl), ?_⟩
    refine ⟨_, rfl, a, nI ws, rfl, ha, _, rfl, _, _, rfl, rfl, ?_⟩
    rw [T_sum]
    generalize (ws.getD l 0 : Int) = d at q hd0 hd1 ⊢
    generalize hM : T ws - d = M at q ⊢
    have hM0 : 0 ≤ M := by omega
    have hM1 : M ≤ 1000000 := by omega
    have sz : sizeLine = 16777216 := by decide
    refine ⟨(by show 1 ≤ sizeLine; decide), fun p0 np0 => ?_⟩
    refine ⟨_, rfl, (n : Int), rfl, by omega, by omega, for_range (n := (n : Int).toNat) (fun i σ H' => ∃ (p : Addr) (v6 v7 v8 : Option V), σ = [some (.ref a), some (.int l), some (.int n), some (.int d), some (.int M), some (.ref p), v6, v7, v8, none, none, none] ∧ Same H H' ∧ H p = none ∧ H' p = some (.lst (iv (bc d M i)))) ⟨p0, none, none, none, by rw [← hM]; rfl, same_upd np0, np0, upd_same⟩ ?_ ?_⟩
    · rintro i σ H1 hi ⟨p, v6, v7, v8, rfl, s1, np, e1⟩
      have hlen := bc_len d M i
      generalize hcur : bc d M i = cur at e1 hlen ⊢
      refine ⟨(by show 1 ≤ sizeLine; decide), fun z nz => ?_⟩
      have s2 := same_upd (o := .lst [.int 0]) nz
      have z2 : (upd H1 z (.lst [.int 0])) z = some (.lst [.int 0]) := upd_same
      have p2 := s2 _ _ e1
      generalize upd H1 z (.lst [.int 0]) = H2 at s2 z2 p2 ⊢
      refine ⟨_, rfl, p, rfl, ⟨_, SqL.of p2⟩, fun D nD => ?_⟩
      refine lc_list (K := K) (a := p) (xs := iv cur) (fun j H3 => Same H2 H3 ∧ H3 D = some (.lst (iv ((cur.take j).map fun x => x * d)))) ⟨same_upd nD, upd_same⟩ (fun j H3 _ h => SqL.of (h.1 _ _ p2)) ?_ ?_
      · rintro j y H3 hj ⟨s3, e3⟩
        obtain ⟨x, hx, rfl⟩ := iv_get hj
        have hjl : j < cur.length := (List.getElem?_eq_some_iff.mp hx).1
        refine ⟨rfl, _, rfl, _, rfl, _, _, rfl, rfl, .inr ⟨by omega, by omega⟩, _, e3, ?_, same_past s3 nD, ?_⟩
        · rw [iv_len, List.length_map, List.length_take]
          omega
        · rw [upd_same, take_more hx, List.map_append, ← iv_app]
          rfl
      · rintro H3 ⟨s3, e3⟩
        rw [iv_len, List.take_length] at e3
        refine ⟨z, D, _, _, rfl, rfl, s3 _ _ z2, e3, ?_, fun r1 nr1 => ?_⟩
        · rw [iv_len, List.length_map]
          show 1 + cur.length ≤ sizeLine
          omega
        have s4 := same_upd (o := .lst (([.int 0] : List V) ++ iv (cur.map fun x => x * d))) nr1
        have r4 : (upd H3 r1 (.lst (([.int 0] : List V) ++ iv (cur.map fun x => x * d)))) r1 = some (.lst (iv (0 :: cur.map fun x => x * d))) := upd_same
        have s24 := s2.trans (s3.trans s4)
        generalize upd H3 r1 (.lst (([.int 0] : List V) ++ iv (cur.map fun x => x * d))) = H4 at s4 r4 s24 ⊢
        have p4 := s24 _ _ e1
        refine ⟨_, rfl, p, rfl, ⟨_, SqL.of p4⟩, fun D2 nD2 => ?_⟩
        refine lc_list (K := K) (a := p) (xs := iv cur) (fun j H5 => Same H4 H5 ∧ H5 D2 = some (.lst (iv ((cur.take j).map fun x => x * M)))) ⟨same_upd nD2, upd_same⟩ (fun j H5 _ h => SqL.of (h.1 _ _ p4)) ?_ ?_
        · rintro j y H5 hj ⟨s5, e5⟩
          obtain ⟨x, hx, rfl⟩ := iv_get hj
          have hjl : j < cur.length := (List.getElem?_eq_some_iff.mp hx).1
          refine ⟨rfl, _, rfl, _, rfl, _, _, rfl, rfl, .inr ⟨by omega, by omega⟩, _, e5, ?_, same_past s5 nD2, ?_⟩
          · rw [iv_len, List.length_map, List.length_take]
            omega
          · rw [upd_same, take_more hx, List.map_append, ← iv_app]
            rfl
        · rintro H5 ⟨s5, e5⟩
          rw [iv_len, List.take_length] at e5
          refine ⟨(by show 1 ≤ sizeLine; decide), fun z6 nz6 => ?_⟩
          have s6 := same_upd (o := .lst [.int 0]) nz6
          refine ⟨D2, z6, _, _, rfl, rfl, s6 _ _ e5, upd_same, ?_, fun r2 nr2 => ?_⟩
          · rw [iv_len, List.length_map]
            show cur.length + 1 ≤ sizeLine
            omega
          have s7 := same_upd (o := .lst (iv (cur.map fun x => x * M) ++ ([.int 0] : List V))) nr2
          have r7 : (upd (upd H5 z6 (.lst [.int 0])) r2 (.lst (iv (cur.map fun x => x * M) ++ ([.int 0] : List V)))) r2 = some (.lst (iv ((cur.map fun x => x * M) ++ [0]))) := by
            rw [upd_same, ← iv_app]
            rfl
          have s47 := s5.trans (s6.trans s7)
          generalize upd (upd H5 z6 (.lst [.int 0])) r2 (.lst (iv (cur.map fun x => x * M) ++ ([.int 0] : List V))) = H7 at s7 r7 s47 ⊢
          have r1' := s47 _ _ r4
          generalize hA : (0 :: cur.map fun x => x * d) = A at r1' r4 ⊢
          generalize hB : (cur.map fun x => x * M) ++ [0] = Bb at r7 ⊢
          have lA : A.length = i + 2 := by rw [← hA, List.length_cons, List.length_map, hlen]
          have lB : Bb.length = i + 2 := by rw [← hB, List.length_append, List.length_map, hlen]; rfl
          refine ⟨_, rfl, _, rfl, r1, r2, _, _, rfl, SqL.of r1', SqL.of r7, fun D3 nD3 => ?_⟩
          refine lc_it (walk_zip (n := i + 2) (by rw [iv_len, iv_len, lA, lB, Nat.min_self])) (fun j H8 => Same H7 H8 ∧ H8 D3 = some (.lst (iv (((A.zip Bb).take j).map fun p => p.1 + p.2)))) ⟨same_upd nD3, upd_same⟩ (fun j H8 _ h => ⟨SqL.of (h.1 _ _ r1'), SqL.of (h.1 _ _ r7)⟩) ?_ ?_
          · rintro j v H8 H9 hj ⟨s8, e8⟩ ⟨t, x1, x2, rfl, nt, rfl, g1, g2⟩
            obtain ⟨y1, k1, rfl⟩ := iv_get g1
            obtain ⟨y2, k2, rfl⟩ := iv_get g2
            have s9 := same_upd (o := .tup [.int y1, .int y2]) nt
            have kz : (A.zip Bb)[j]? = some (y1, y2) := by
              rw [List.getElem?_zip_eq_some]
              exact ⟨k1, k2⟩
            refine ⟨t, _, rfl, SqT.of upd_same, rfl, _, _, rfl, _, _, rfl, rfl, rfl, _, rfl, _, rfl, _, _, rfl, rfl, _, s9 _ _ e8, ?_, same_past (s8.trans s9) nD3, ?_⟩
            · rw [iv_len, List.length_map, List.length_take]
              omega
            · rw [upd_same, take_more kz, List.map_append, ← iv_app]
              rfl
          · rintro H8 ⟨s8, e8⟩
            have : (A.zip Bb).take (i + 2) = A.zip Bb := List.take_of_length_le (by rw [List.length_zip]; omega)
            rw [this] at e8
            have s18 := s1.trans (s24.trans (s47.trans s8))
            rw [← hA, ← hB, ← hcur] at e8
            exact ⟨D3, some (.int (0 + (i : Int))), some (.ref r1), some (.ref r2), rfl, s18, (s1.trans (s24.trans s47)).free nD3, e8⟩
    · rintro σ H1 ⟨p, v6, v7, v8, rfl, s1, np, e1⟩
      exact ⟨_, rfl, q _ p s1 np e1⟩
end
end My
set_option Elab.async false
set_option maxRecDepth 100000
set_option maxHeartbeats 2000000
set_option linter.unusedVariables false
namespace My
open PySem PySem.Spec PyProof.Rows L2
theorem told_nn (ws : List Nat) (l k n : Nat) : 0 ≤ toldN ws l k n := isum_nonneg fun x hx => by
  obtain ⟨w, _, rfl⟩ := List.mem_map.mp hx
  split
  · exact wW_nn ws w
  · exact Int.le_refl _
theorem few_nn (ws : List Nat) (l k n : Nat) : 0 ≤ fewN ws l k n := isum_nonneg fun x hx => by
  obtain ⟨w, _, rfl⟩ := List.mem_map.mp hx
  split
  · exact wW_nn ws w
  · exact Int.le_refl _
def wrT (ps qs : List Nat) (n l k : Nat) : Int := toldN (lev ps (tot qs)) l k n + fewN (lev qs (tot ps)) l k n
def bIn (wr : Nat → Nat → Int) (l : Nat) (b : Nat × Nat × Int) (j : Nat) : Nat × Nat × Int := (List.range j).foldl (fun (b : Nat × Nat × Int) (k : Nat) => if wr l k < b.2.2 then (l, k, wr l k) else b) b
def bOut (wr : Nat → Nat → Int) (whole : Int) (m i : Nat) : Nat × Nat × Int := (List.range i).foldl (fun (b : Nat × Nat × Int) (l : Nat) => bIn wr l b m) (0, 0, whole)
theorem best_bOut (wr : Nat → Nat → Int) (whole : Int) (a m : Nat) : best wr whole a m = bOut wr whole m a := rfl
theorem bIn_succ (wr : Nat → Nat → Int) (l : Nat) (b : Nat × Nat × Int) (j : Nat) : bIn wr l b (j + 1) = if wr l j < (bIn wr l b j).2.2 then (l, j, wr l j) else bIn wr l b j := by
  unfold bIn
  rw [List.range_succ, List.foldl_append]
  rfl
theorem bOut_succ (wr : Nat → Nat → Int) (whole : Int) (m i : Nat) : bOut wr whole m (i + 1) = bIn wr i (bOut wr whole m i) m := by
  unfold bOut
  rw [List.range_succ, List.foldl_append]
  rfl
section
variable {P : Program} {w : World} {K : PySem.W.Frag} {mg : Str → Option Value} {base : Heap}
/-! ### chance_of_alarm, chance_of_miss -/
def spAlarmW (K : PySem.W.Frag) : Sp := fun vs H Q _ => ∃ (a : Addr) (l k n m : Nat) (ws : List Nat), vs = [.ref a, .int (l : Int), .int (k : Int), .int (n : Int)] ∧ SqL K H a (nv ws) ∧ Src m ws ∧ l < m ∧ n ≤ 6 ∧ NewL H Q (frI (Kp340.fr (toldN ws l k n) (T ws ^ n)))
def spMissW (K : PySem.W.Frag) : Sp := fun vs H Q _ => ∃ (a : Addr) (l k n m : Nat) (ws : List Nat), vs = [.ref a, .int (l : Int), .int (k : Int), .int (n : Int)] ∧ SqL K H a (nv ws) ∧ Src m ws ∧ l < m ∧ n ≤ 6 ∧ NewL H Q (frI (Kp340.fr (fewN ws l k n) (T ws ^ n)))
theorem ok_alarmW {f fF fP fC : Addr} {fd fdF fdP fdC : FuncData} {k : Nat} (F : Fun K "chance_of_alarm" "chance_of_alarm" sAlarmW f fd) (B : Bare mg) (DF : Def K mg "fraction" sFraction ["upper", "lower"] fF fdF) (DP : Def K mg "power" sPower ["base", "times"] fP fdP) (DC : Def K mg "weights_by_count" sCounts ["weights", "letter", "length"] fC fdC) :
    FnOk P w K mg base CX0 (k + 2) f fd ["plain_weights", "letter", "least", "length"] (spAlarmW K) := by
  have GF : FnOk P w K mg base CX0 (k + 1) fF fdF ["upper", "lower"] spFraction := ok_fraction DF.F
  have GP : FnOk P w K mg base CX0 (k + 1) fP fdP ["base", "times"] spPower := ok_power DP.F B.range
  have GC : FnOk P w K mg base CX0 (k + 1) fC fdC ["weights", "letter", "length"] (spCounts K) := ok_counts DC.F B
  refine F.ok scAlarmW (fun vs H Q E h => ?_) (fun cdv A outer s H vs Q E hr h => ?_)
  · obtain ⟨a, l, k, n, m, ws, rfl, _⟩ := h
    rfl
  · obtain ⟨a, l, k, n, m, ws, rfl, ha, S, hl, hn, q⟩ := h
    refine ⟨_, pss_cons (ps_set (i := 4) scAlarmW.nd rfl (.inl rfl) (pe_call GC hr (by rfl) DC.g DC.F.kp DC.b .nil pass0 (pa_cons (pv 0) (pa_cons (pv 1) (pa_cons (pv 3) pa_nil)))))
      (pss_one (ps_ret (pe_call GF hr (by rfl) DF.g DF.F.kp DF.b .nil pass0 (pa_cons (pe_callB (cr_sum rfl) (by rfl) B.sum (by decide +kernel) (pa_cons (pe_slice sl_list (pv 4) (po_some (pv 2)) po_none) pa_nil))
        (pa_cons (pe_call GP hr (by rfl) DP.g DP.F.kp DP.b .nil pass0 (pa_cons (pe_callB (cr_sum rfl) (by rfl) B.sum (by decide +kernel) (pa_cons (pv 0) pa_nil)) (pa_cons (pv 3) pa_nil))) pa_nil))))), ?_⟩
    have hT := S.T_le
    have hT0 := S.pos
    have hp := S.pow_lt hn
    have hlw : l < ws.length := by rw [S.len]; exact hl
    refine ⟨_, rfl, _, rfl, _, rfl, a, l, n, ws, rfl, ha, hlw, by omega, hn, fun H1 p s1 np ep => ?_⟩
    refine ⟨_, rfl, _, rfl, _, rfl, p, _, rfl, SqL.of ep, fun y ny => ?_⟩
    rw [cut_from]
    have s2 := same_upd (o := .lst (iv ((bc (ws.getD l 0 : Int) (T ws - (ws.getD l 0 : Int)) n).drop k))) ny
    have s12 := s1.trans s2
    refine ⟨y, (bc (ws.getD l 0 : Int) (T ws - (ws.getD l 0 : Int)) n).drop k, rfl, SqL.of upd_same, ?_⟩
    refine ⟨_, rfl, a, nI ws, rfl, s12.seq ha, _, rfl, T ws, n, by rw [T_sum]; rfl, ⟨by omega, by omega⟩, by omega, ?_⟩
    rw [← isum_sum, bc_told hlw]
    exact ⟨_, _, rfl, told_nn ws l k n, hp.1, pow_small (by omega) hp.2, fun H3 r s3 nr er => q H3 r (s12.trans s3) (s12.free nr) er⟩
theorem ok_missW {f fF fP fC : Addr} {fd fdF fdP fdC : FuncData} {k : Nat} (F : Fun K "chance_of_miss" "chance_of_miss" sMissW f fd) (B : Bare mg) (DF : Def K mg "fraction" sFraction ["upper", "lower"] fF fdF) (DP : Def K mg "power" sPower ["base", "times"] fP fdP) (DC : Def K mg "weights_by_count" sCounts ["weights", "letter", "length"] fC fdC) :
    FnOk P w K mg base CX0 (k + 2) f fd ["other_weights", "letter", "least", "length"] (spMissW K) := by
  have GF : FnOk P w K mg base CX0 (k + 1) fF fdF ["upper", "lower"] spFraction := ok_fraction DF.F
  have GP : FnOk P w K mg base CX0 (k + 1) fP fdP ["base", "times"] spPower := ok_power DP.F B.range
  have GC : FnOk P w K mg base CX0 (k + 1) fC fdC ["weights", "letter", "length"] (spCounts K) := ok_counts DC.F B
  refine F.ok scMissW (fun vs H Q E h => ?_) (fun cdv A outer s H vs Q E hr h => ?_)
  · obtain ⟨a, l, k, n, m, ws, rfl, _⟩ := h
    rfl
  · obtain ⟨a, l, k, n, m, ws, rfl, ha, S, hl, hn, q⟩ := h
    refine ⟨_, pss_cons (ps_set (i := 4) scMissW.nd rfl (.inl rfl) (pe_call GC hr (by rfl) DC.g DC.F.kp DC.b .nil pass0 (pa_cons (pv 0) (pa_cons (pv 1) (pa_cons (pv 3) pa_nil)))))
      (pss_one (ps_ret (pe_call GF hr (by rfl) DF.g DF.F.kp DF.b .nil pass0 (pa_cons (pe_callB (cr_sum rfl) (by rfl) B.sum (by decide +kernel) (pa_cons (pe_slice sl_list (pv 4) po_none (po_some (pv 2))) pa_nil))
        (pa_cons (pe_call GP hr (by rfl) DP.g DP.F.kp DP.b .nil pass0 (pa_cons (pe_callB (cr_sum rfl) (by rfl) B.sum (by decide +kernel) (pa_cons (pv 0) pa_nil)) (pa_cons (pv 3) pa_nil))) pa_nil))))), ?_⟩
    have hT := S.T_le
    have hT0 := S.pos
    have hp := S.pow_lt hn
    have hlw : l < ws.length := by rw [S.len]; exact hl
    refine ⟨_, rfl, _, rfl, _, rfl, a, l, n, ws, rfl, ha, hlw, by omega, hn, fun H1 p s1 np ep => ?_⟩
    refine ⟨_, rfl, _, rfl, _, rfl, p, _, rfl, SqL.of ep, fun y ny => ?_⟩
    rw [cut_to]
    have s2 := same_upd (o := .lst (iv ((bc (ws.getD l 0 : Int) (T ws - (ws.getD l 0 : Int)) n).take k))) ny
    have s12 := s1.trans s2
    refine ⟨y, (bc (ws.getD l 0 : Int) (T ws - (ws.getD l 0 : Int)) n).take k, rfl, SqL.of upd_same, ?_⟩
    refine ⟨_, rfl, a, nI ws, rfl, s12.seq ha, _, rfl, T ws, n, by rw [T_sum]; rfl, ⟨by omega, by omega⟩, by omega, ?_⟩
    rw [← isum_sum, bc_few hlw]
    exact ⟨_, _, rfl, few_nn ws l k n, hp.1, pow_small (by omega) hp.2, fun H3 r s3 nr er => q H3 r (s12.trans s3) (s12.free nr) er⟩
/-! ### best_told_test -/
def bestP (ps qs : List Nat) (n : Nat) : Nat × Nat × Int := best (wrT ps qs n) ((T ps * T qs) ^ n) ps.length (n + 2)
def spBest (K : PySem.W.Frag) : Sp := fun vs H Q _ => ∃ (a b : Addr) (m n : Nat) (ps qs : List Nat), vs = [.ref a, .ref b, .int (n : Int)] ∧ SqL K H a (nv ps) ∧ SqL K H b (nv qs) ∧ Src m ps ∧ Src m qs ∧ n ≤ 6 ∧ NewL H Q (((bestP ps qs n).1 : Int) :: ((bestP ps qs n).2.1 : Int) :: frI (Kp340.fr (bestP ps qs n).2.2 (2 * (T ps * T qs) ^ n)))
theorem ok_best {f fF fP fC fL : Addr} {fd fdF fdP fdC fdL : FuncData} {k : Nat} (F : Fun K "best_told_test" "best_told_test" sBest f fd) (B : Bare mg) (DF : Def K mg "fraction" sFraction ["upper", "lower"] fF fdF) (DP : Def K mg "power" sPower ["base", "times"] fP fdP) (DC : Def K mg "weights_by_count" sCounts ["weights", "letter", "length"] fC fdC)
    (DL : Def K mg "with_one_total" sWith ["plain_weights", "other_weights"] fL fdL) : FnOk P w K mg base CX0 (k + 2) f fd ["plain_weights", "other_weights", "length"] (spBest K) := by
  have GF : FnOk P w K mg base CX0 (k + 1) fF fdF ["upper", "lower"] spFraction := ok_fraction DF.F
  have GP : FnOk P w K mg base CX0 (k + 1) fP fdP ["base", "times"] spPower := ok_power DP.F B.range
  have GC : FnOk P w K mg base CX0 (k + 1) fC fdC ["weights", "letter", "length"] (spCounts K) := ok_counts DC.F B
  have GL : FnOk P w K mg base CX0 (k + 1) fL fdL ["plain_weights", "other_weights"] (spWith K) := ok_with DL.F B
  refine F.ok scBest (fun vs H Q E h => ?_) (fun cdv A outer s H vs Q E hr h => ?_)
  · obtain ⟨a, b, m, n, ps, qs, rfl, _⟩ := h
    rfl
  · obtain ⟨a, b, m, n, ps, qs, rfl, ha, hb, S1, S2, hn, q⟩ := h
    refine ⟨_, pss_cons (ps_set (i := 3) scBest.nd rfl (.inl rfl) (pe_call GL hr (by rfl) DL.g DL.F.kp DL.b .nil pass0 (pa_cons (pv 0) (pa_cons (pv 1) pa_nil))))
      (pss_cons (ps_set (i := 4) scBest.nd rfl (.inl rfl) (pe_call GP hr (by rfl) DP.g DP.F.kp DP.b .nil pass0 (pa_cons (pe_callB (cr_sum rfl) (by rfl) B.sum (by decide +kernel) (pa_cons (pe_ix ix_tup (pv 3) pe_int (fun _ _ => rfl)) pa_nil)) (pa_cons (pv 2) pa_nil))))
      (pss_cons (ps_set (i := 5) scBest.nd rfl (.inl rfl) pe_int)
      (pss_cons (ps_set (i := 6) scBest.nd rfl (.inl rfl) pe_int)
      (pss_cons (ps_set (i := 7) scBest.nd rfl (.inl rfl) (pv 4))
      (pss_cons (ps_for PassesOwn.never rfl (pi_range1 (by rfl) B.range (pa_cons (pe_callB call_len_seq (by rfl) B.len PySem.boot_len (pa_cons (pv 0) pa_nil)) pa_nil)) (pg_name (i := 8) scBest.nd rfl (.inl rfl))
        (pss_cons (ps_set (i := 9) scBest.nd rfl (.inl rfl) (pe_call GC hr (by rfl) DC.g DC.F.kp DC.b .nil pass0 (pa_cons (pe_ix ix_tup (pv 3) pe_int (fun _ _ => rfl)) (pa_cons (pv 8) (pa_cons (pv 2) pa_nil)))))
        (pss_cons (ps_set (i := 10) scBest.nd rfl (.inl rfl) (pe_call GC hr (by rfl) DC.g DC.F.kp DC.b .nil pass0 (pa_cons (pe_ix ix_tup (pv 3) pe_int (fun _ _ => rfl)) (pa_cons (pv 8) (pa_cons (pv 2) pa_nil)))))
        (pss_one (ps_for PassesOwn.never rfl (pi_range1 (by rfl) B.range (pa_cons (pe_op op_add (pv 2) pe_int) pa_nil)) (pg_name (i := 11) scBest.nd rfl (.inl rfl))
          (pss_cons (ps_set (i := 12) scBest.nd rfl (.inl rfl) (pe_op op_add (pe_callB (cr_sum rfl) (by rfl) B.sum (by decide +kernel) (pa_cons (pe_slice sl_list (pv 9) (po_some (pv 11)) po_none) pa_nil)) (pe_callB (cr_sum rfl) (by rfl) B.sum (by decide +kernel) (pa_cons (pe_slice sl_list (pv 10) po_none (po_some (pv 11))) pa_nil))))
          (pss_one (ps_if (pt_cmpR op_lt (pv 12) (pv 7) (nomark _))
            (pss_cons (ps_set (i := 5) scBest.nd rfl (.inl rfl) (pv 8)) (pss_cons (ps_set (i := 6) scBest.nd rfl (.inl rfl) (pv 11)) (pss_one (ps_set (i := 7) scBest.nd rfl (.inl rfl) (pv 12))))) pss_nil)))))))
      ) (pss_one (ps_ret (pe_op op_cat (pe_lst (pa_cons (pv 5) (pa_cons (pv 6) pa_nil))) (pe_call GF hr (by rfl) DF.g DF.F.kp DF.b .nil pass0 (pa_cons (pv 7) (pa_cons (pe_op op_mul pe_int (pv 4)) pa_nil))))))))))), ?_⟩
    have hw := whole_small S1 S2 hn
    have t1 := S1.T_le
    have t2 := S2.T_le
    have p1 := S1.pos
    have p2 := S2.pos
    have h1 : T ps * T qs ≤ 36 * 36 := Int.mul_le_mul t1 t2 (by omega) (by decide)
    have h2 := Int.mul_pos p1 p2
    have e1 : T (lev ps (tot qs)) = T ps * T qs := by rw [T_lev, T_tot qs]
    have e2 : T (lev qs (tot ps)) = T ps * T qs := by rw [T_lev, ← T_tot ps, Int.mul_comm]
    have sz : sizeLine = 16777216 := by decide
    refine ⟨_, rfl, _, rfl, a, b, m, ps, qs, rfl, ha, hb, S1, S2, fun H1 t x y s1 nt et ex ey => ?_⟩
    refine ⟨_, rfl, t, _, 0, _, rfl, rfl, SqT.of et, rfl, x, nI (lev ps (tot qs)), rfl, SqL.of ex, _, rfl, T ps * T qs, n, by rw [T_sum, e1]; rfl, ⟨by omega, by omega⟩, by omega, ?_⟩
    generalize hW : (T ps * T qs) ^ n = W at q hw
    refine ⟨_, rfl, ?_⟩
    refine ⟨_, rfl, a, _, rfl, .inl (s1.seq ha), ((nv ps).length : Int), rfl, by rw [nv_len, S1.len]; have := S1.hi; omega, by rw [nv_len, S1.len]; have := S1.hi; omega, for_range (n := ((nv ps).length : Int).toNat)
      (fun i σ H2 => ∃ v8 v9 v10 v11 v12 : Option V, σ = [some (.ref a), some (.ref b), some (.int n), some (.ref t), some (.int W), some (.int ((bOut (wrT ps qs n) W (n + 2) i).1 : Int)), some (.int ((bOut (wrT ps qs n) W (n + 2) i).2.1 : Int)), some (.int (bOut (wrT ps qs n) W (n + 2) i).2.2), v8, v9, v10, v11, v12] ∧ Same H1 H2 ∧ 0 ≤ (bOut (wrT ps qs n) W (n + 2) i).2.2)
      ⟨none, none, none, none, none, rfl, Same.refl _, by show 0 ≤ W; omega⟩ ?_ ?_⟩
    · rintro i σ H2 hi ⟨v8, v9, v10, v11, v12, rfl, s2, hb0⟩
      have him : i < m := by
        rw [nv_len, S1.len] at hi
        omega
      have l1 : i < (lev ps (tot qs)).length := by rw [lev_len, S1.len]; exact him
      have l2 : i < (lev qs (tot ps)).length := by rw [lev_len, S2.len]; exact him
      refine ⟨_, rfl, t, _, 0, _, rfl, rfl, SqT.of (s2 _ _ et), rfl, _, rfl, _, rfl, x, i, n, lev ps (tot qs), by rw [Int.zero_add]; rfl, SqL.of (s2 _ _ ex), l1, by omega, hn, fun H3 c1 s3 n3 g3 => ?_⟩
      have s23 := s2.trans s3
      refine ⟨_, rfl, t, _, 1, _, rfl, rfl, SqT.of (s23 _ _ et), rfl, _, rfl, _, rfl, y, i, n, lev qs (tot ps), by rw [Int.zero_add]; rfl, SqL.of (s23 _ _ ey), l2, by omega, hn, fun H4 c2 s4 n4 g4 => ?_⟩
      have g34 := s4 _ _ g3
      have s24 := s23.trans s4
      refine ⟨_, rfl, _, _, rfl, rfl, (n : Int) + 2, rfl, by omega, by omega, for_range (n := ((n : Int) + 2).toNat)
        (fun j σ H5 => ∃ v11 v12 : Option V, σ = [some (.ref a), some (.ref b), some (.int n), some (.ref t), some (.int W), some (.int ((bIn (wrT ps qs n) i (bOut (wrT ps qs n) W (n + 2) i) j).1 : Int)), some (.int ((bIn (wrT ps qs n) i (bOut (wrT ps qs n) W (n + 2) i) j).2.1 : Int)), some (.int (bIn (wrT ps qs n) i (bOut (wrT ps qs n) W (n + 2) i) j).2.2), some (.int (0 + (i : Int))), some (.ref c1), some (.ref c2), v11, v12] ∧ Same H4 H5 ∧ 0 ≤ (bIn (wrT ps qs n) i (bOut (wrT ps qs n) W (n + 2) i) j).2.2)
        ⟨v11, v12, rfl, Same.refl _, hb0⟩ ?_ ?_⟩
      · rintro j σ H5 hj ⟨v11, v12, rfl, s5, hb1⟩
        refine ⟨_, rfl, _, rfl, _, rfl, c1, _, rfl, SqL.of (s5 _ _ g34), fun y1 ny1 => ?_⟩
        rw [Int.zero_add (j : Int), cut_from]
        have s6 := same_upd (o := .lst (iv ((bc ((lev ps (tot qs)).getD i 0 : Int) (T (lev ps (tot qs)) - ((lev ps (tot qs)).getD i 0 : Int)) n).drop j))) ny1
        have s56 := s5.trans s6
        refine ⟨y1, (bc ((lev ps (tot qs)).getD i 0 : Int) (T (lev ps (tot qs)) - ((lev ps (tot qs)).getD i 0 : Int)) n).drop j, rfl, SqL.of upd_same, ?_⟩
        refine ⟨_, rfl, _, rfl, _, rfl, c2, _, rfl, SqL.of (s56 _ _ g4), fun y2 ny2 => ?_⟩
        rw [cut_to]
        have s7 := same_upd (o := .lst (iv ((bc ((lev qs (tot ps)).getD i 0 : Int) (T (lev qs (tot ps)) - ((lev qs (tot ps)).getD i 0 : Int)) n).take j))) ny2
        have s57 := s56.trans s7
        refine ⟨y2, (bc ((lev qs (tot ps)).getD i 0 : Int) (T (lev qs (tot ps)) - ((lev qs (tot ps)).getD i 0 : Int)) n).take j, rfl, SqL.of upd_same, _, _, rfl, rfl, ?_⟩
        rw [← isum_sum, ← isum_sum, bc_told l1, bc_few l2]
        have hwr : toldN (lev ps (tot qs)) i j n + fewN (lev qs (tot ps)) i j n = wrT ps qs n i j := rfl
        have hnn : 0 ≤ wrT ps qs n i j := Int.add_nonneg (told_nn _ i j n) (few_nn _ i j n)
        refine ⟨_, rfl, _, rfl, _, _, rfl, rfl, _, rfl, ite2 (fun c => ?_) (fun c => ?_)⟩
        · have c : wrT ps qs n i j < (bIn (wrT ps qs n) i (bOut (wrT ps qs n) W (n + 2) i) j).2.2 := of_decide_eq_true c
          refine ⟨_, rfl, _, rfl, _, rfl, some (.int (j : Int)), some (.int (wrT ps qs n i j)), ?_, s57, ?_⟩
          · rw [bIn_succ, if_pos c, Int.zero_add (i : Int)]
            rfl
          · rw [bIn_succ, if_pos c]
            exact hnn
        · have c : ¬ wrT ps qs n i j < (bIn (wrT ps qs n) i (bOut (wrT ps qs n) W (n + 2) i) j).2.2 := fun z => c (decide_eq_true z)
          refine ⟨some (.int (j : Int)), some (.int (wrT ps qs n i j)), ?_, s57, ?_⟩
          · rw [bIn_succ, if_neg c]
            rfl
          · rw [bIn_succ, if_neg c]
            exact hb1
      · rintro σ H5 ⟨v11, v12, rfl, s5, hb1⟩
        have : ((n : Int) + 2).toNat = n + 2 := by omega
        rw [this, ← bOut_succ] at hb1 ⊢
        exact ⟨_, _, _, _, _, rfl, s24.trans s5, hb1⟩
    · rintro σ H2 ⟨v8, v9, v10, v11, v12, rfl, s2, hb0⟩
      have : ((nv ps).length : Int).toNat = ps.length := by rw [nv_len]; omega
      rw [this] at hb0 ⊢
      have eB : bOut (wrT ps qs n) W (n + 2) ps.length = bestP ps qs n := by
        rw [← best_bOut, ← hW]
        rfl
      rw [eB] at hb0 ⊢
      have s12 := s1.trans s2
      refine ⟨_, rfl, _, rfl, (by show 2 ≤ sizeLine; decide), fun z nz => ?_⟩
      have s3 := same_upd (o := .lst [.int ((bestP ps qs n).1 : Int), .int ((bestP ps qs n).2.1 : Int)]) nz
      refine ⟨_, rfl, _, rfl, _, _, rfl, rfl, .inl ⟨by decide, by decide⟩, ?_⟩
      refine ⟨_, _, rfl, hb0, by omega, big_small (by omega) (by omega), fun H4 r s4 nr er => ?_⟩
      refine ⟨z, r, _, _, rfl, rfl, s4 _ _ upd_same, er, ?_, fun u nu => ?_⟩
      · show 2 + 2 ≤ sizeLine
        omega
      · exact q _ u (s12.trans (s3.trans (s4.trans (same_upd nu)))) (s12.free (s3.free (s4.free nu))) upd_same
end
end My
set_option Elab.async false
set_option maxRecDepth 100000
set_option maxHeartbeats 2000000
namespace My
open PySem PySem.Spec PyProof.Rows L2
abbrev sIsSource : Stmt := topS 3
abbrev sIsWord : Stmt := topS 4
theorem scIsSource : FnScope ["row", "letters"] ["row", "letters"] (defScope sIsSource) := ⟨rfl, rfl, rfl, by decide +kernel, rfl, by decide +kernel, by decide +kernel⟩
theorem scIsWord : FnScope ["row", "letters", "letter"] ["row", "letters"] (defScope sIsWord) := ⟨rfl, rfl, rfl, by decide +kernel, rfl, by decide +kernel, by decide +kernel⟩
/-- a whole number of the top -/
def Num (mg : Str → Option Value) (x : Str) (i : Int) : Prop := ∃ t, mg x = some (.int i t)
theorem pe_num {X : Cx} {x : Str} {i : Int} {pos : Pos} (hm : Num X.mg x i) (hg : Gl X x := by rfl) (hd : (x == ("__debug__" : Str)) = false := by decide) : PE X (.Name x pos) (tC (.int i)) := by
  obtain ⟨t, h⟩ := hm
  exact pe_glob (v := .int i) hg h ⟨t, rfl⟩ hd
def okS (a : Nat) (l : List Nat) : Bool := decide (l.length = a) && l.all (fun x => decide (x ≤ 9)) && l.any fun x => decide (0 < x)
def okW (a : Nat) (w : List Nat) : Bool := decide (w.length ≤ 6) && w.all fun x => decide (x < a)
theorem okS_len {a : Nat} {l : List Nat} (h : l.length ≠ a) : okS a l = false := by
  unfold okS
  rw [decide_eq_false h]
  rfl
theorem okS_max {a : Nat} {l : List Nat} {m : Int} (h : l.length = a) (hm : m ∈ nI l) (hle : ∀ x ∈ nI l, x ≤ m) : okS a l = (decide (1 ≤ m) && decide (m ≤ 9)) := by
  unfold nI at hm hle
  obtain ⟨x, hx, rfl⟩ := List.mem_map.mp hm
  have hle' : ∀ y ∈ l, y ≤ x := fun y hy => by
    have := hle (y : Int) (List.mem_map.mpr ⟨y, hy, rfl⟩)
    omega
  unfold okS
  rw [decide_eq_true h, Bool.true_and, Bool.and_comm]
  congr 1
  · by_cases h0 : 1 ≤ (x : Int)
    · rw [decide_eq_true h0]
      exact List.any_eq_true.mpr ⟨x, hx, decide_eq_true (by omega)⟩
    · rw [decide_eq_false h0]
      refine List.any_eq_false.mpr fun y hy => ?_
      have := hle' y hy
      simp
      omega
  · by_cases h9 : (x : Int) ≤ 9
    · rw [decide_eq_true h9]
      exact List.all_eq_true.mpr fun y hy => decide_eq_true (by have := hle' y hy; omega)
    · rw [decide_eq_false h9]
      refine List.all_eq_false.mpr ⟨x, hx, ?_⟩
      simp
      omega
section
variable {P : Program} {w : World} {K : PySem.W.Frag} {mg : Str → Option Value} {base : Heap}
/-! ### is_source -/
def spIsSource (K : PySem.W.Frag) : Sp := fun vs H Q _ => ∃ (a : Addr) (n : Nat) (l : List Nat), vs = [.ref a, .int (n : Int)] ∧ SqL K H a (nv l) ∧ 1 ≤ n ∧ Q (.bl (okS n l)) H
theorem ok_isSource {f : Addr} {fd : FuncData} {k : Nat} (F : Fun K "is_source" "is_source" sIsSource f fd) (B : Bare mg) (c9 : Num mg "MOST_WEIGHT" 9) : FnOk P w K mg base CX0 (k + 1) f fd ["row", "letters"] (spIsSource K) := by
  refine F.ok scIsSource (fun vs H Q E h => ?_) (fun cdv A outer s H vs Q E hr h => ?_)
  · obtain ⟨a, n, l, rfl, _⟩ := h
    rfl
  · obtain ⟨a, n, l, rfl, ha, hn, q⟩ := h
    refine ⟨_, pss_cons (ps_if (pt_cmpR op_ne (pe_callB call_len_seq (by rfl) B.len PySem.boot_len (pa_cons (pv 0) pa_nil)) (pv 1) (nomark _)) (pss_one (ps_ret pe_bl)) pss_nil)
      (pss_one (ps_ret (pe_chain op_le op_le pe_int (pe_callB (cr_max rfl) (by rfl) B.max (by decide +kernel) (pa_cons (pv 0) pa_nil)) (pe_num c9)))), ?_⟩
    refine ⟨_, rfl, a, _, rfl, .inl ha, _, rfl, rfl, _, rfl, ?_⟩
    rw [nv_len]
    by_cases h : l.length = n
    · refine iteNS (by rw [h]) ?_
      refine ⟨_, rfl, a, nI l, rfl, ha, by rw [nI_len]; omega, fun m hm hle => ?_⟩
      rw [okS_max h hm hle] at q
      refine ⟨1, m, rfl, rfl, _, rfl, ite2 (fun e => ?_) (fun e => ?_)⟩
      · refine ⟨_, _, rfl, rfl, ?_⟩
        have e1 : 1 ≤ m := of_decide_eq_true e
        rw [decide_eq_true e1, Bool.true_and] at q
        exact q
      · have e1 : decide (1 ≤ m) = false := by
          cases h1 : decide (1 ≤ m) with
          | true => exact absurd h1 e
          | false => rfl
        rw [e1, Bool.false_and] at q
        exact q
    · rw [okS_len h] at q
      have e : decide (V.int (l.length : Int) = V.int (n : Int)) = false := decide_eq_false fun z => h (by have := V.int.inj z; omega)
      rw [e]
      exact iteT q
/-! ### is_word -/
def spIsWord (K : PySem.W.Frag) : Sp := fun vs H Q _ => ∃ (a : Addr) (n : Nat) (l : List Nat), vs = [.ref a, .int (n : Int)] ∧ SqL K H a (nv l) ∧ ∀ H', Same H H' → Q (.bl (okW n l)) H'
theorem ok_isWord {f : Addr} {fd : FuncData} {k : Nat} (F : Fun K "is_word" "is_word" sIsWord f fd) (B : Bare mg) (c6 : Num mg "MOST_LETTERS_OF_A_WORD" 6) : FnOk P w K mg base CX0 (k + 1) f fd ["row", "letters"] (spIsWord K) := by
  refine F.ok scIsWord (fun vs H Q E h => ?_) (fun cdv A outer s H vs Q E hr h => ?_)
  · obtain ⟨a, n, l, rfl, _⟩ := h
    rfl
  · obtain ⟨a, n, l, rfl, ha, q⟩ := h
    refine ⟨_, pss_cons (ps_if (pt_cmpR op_gt (pe_callB call_len_seq (by rfl) B.len PySem.boot_len (pa_cons (pv 0) pa_nil)) (pe_num c6) (nomark _)) (pss_one (ps_ret pe_bl)) pss_nil)
      (pss_one (ps_ret (pe_callB (cr_all rfl) (by rfl) B.all (by decide +kernel) (pa_cons
        (pe_lc (own := [("letter", 2)]) (g := gName 2) (tt := tYes) rfl scIsWord.nd (pi_list (pv 0)) (blkOk_by (N := ["row", "letters", "letter"]) (sc := defScope sIsWord) (by decide +kernel)) (fun _ _ _ _ _ => pg_name (i := 2) scIsWord.nd rfl (Or.inl rfl)) (fun _ _ _ _ _ => pts_nil)
          (fun _ _ _ _ _ => pe_cmpR op_lt (pv 2) (pv 1) (nomark _))) pa_nil)))), ?_⟩
    refine ⟨_, rfl, a, _, rfl, .inl ha, _, _, rfl, rfl, _, rfl, ite2 (fun e => ?_) (fun e => ?_)⟩
    · have e1 : (6 : Int) < ((nv l).length : Int) := of_decide_eq_true e
      rw [nv_len] at e1
      have : okW n l = false := by
        unfold okW
        rw [decide_eq_false (by omega), Bool.false_and]
      rw [this] at q
      exact q _ (Same.refl _)
    · have e1 : ¬ (6 : Int) < ((nv l).length : Int) := fun z => e (decide_eq_true z)
      rw [nv_len] at e1
      have eW : okW n l = l.all fun x => decide (x < n) := by
        unfold okW
        rw [decide_eq_true (by omega), Bool.true_and]
      refine ⟨_, rfl, a, rfl, ⟨_, ha⟩, fun D hD => ?_⟩
      refine lc_list (K := K) (a := a) (xs := nv l) (fun i H' => Same H H' ∧ H' D = some (.lst ((l.take i).map fun x => V.bl (decide (x < n))))) ⟨same_upd hD, upd_same⟩ (fun i H' _ h => h.1.seq ha) ?_ ?_
      · rintro i y H' hi ⟨s1, e2⟩
        obtain ⟨x, hx, rfl⟩ := nv_get hi
        have hil : i < l.length := (List.getElem?_eq_some_iff.mp hx).1
        refine ⟨rfl, _, rfl, _, rfl, _, _, rfl, rfl, _, e2, ?_, ?_⟩
        · rw [List.length_map, List.length_take]
          have : sizeLine = 16777216 := by decide
          omega
        · refine ⟨same_past s1 hD, ?_⟩
          rw [upd_same, take_more hx, List.map_append]
          have : decide ((x : Int) < (n : Int)) = decide (x < n) := decide_eq_decide.mpr (by omega)
          show some (HO.lst (_ ++ [V.bl (decide ((x : Int) < (n : Int)))])) = _
          rw [this]
          rfl
      · rintro H' ⟨s1, e2⟩
        rw [nv_len, List.take_length] at e2
        have e3 : H' D = some (.lst ((l.map fun x => decide (x < n)).map V.bl)) := by
          rw [e2, List.map_map]
          rfl
        refine ⟨D, l.map fun x => decide (x < n), rfl, SqL.of e3, ?_⟩
        have : (l.map fun x => decide (x < n)).all id = okW n l := by
          rw [eW, List.all_map]
          rfl
        rw [this]
        exact q _ s1
end
end My
set_option Elab.async false
set_option maxRecDepth 100000
set_option maxHeartbeats 2000000
set_option linter.unusedVariables false
namespace My
open PySem PySem.Spec PyProof.Rows L2
/-! ### how the desk lies in the heap -/
def dF (m : Int) (W : Addr) : List (Str × V) := [("letters", .int m), ("weights", .ref W)]
theorem lk_here {k : Str} {v : V} {r : List (Str × V)} : List.lookup k ((k, v) :: r) = some v := by
  have e : (k == k) = true := beq_self_eq_true k
  simp only [List.lookup, e]
theorem lk_past {k g : Str} {v : V} {r : List (Str × V)} (h : (k == g) = false) : List.lookup k ((g, v) :: r) = List.lookup k r := by
  simp only [List.lookup, h]
theorem put_here {f : Str} {v x : V} {r : List (Str × V)} : putF f v ((f, x) :: r) = (f, v) :: r := if_pos rfl
theorem put_past {f g : Str} {v x : V} {r : List (Str × V)} (h : ¬ g = f) : putF f v ((g, x) :: r) = (g, x) :: putF f v r := if_neg h
theorem dF_let (m : Int) (W : Addr) : (dF m W).lookup ("letters" : Str) = some (.int m) := lk_here
theorem dF_wei (m : Int) (W : Addr) : (dF m W).lookup ("weights" : Str) = some (.ref W) := (lk_past (by decide +kernel)).trans lk_here
theorem dF_putL (m n : Int) (W : Addr) : putF "letters" (.int n) (dF m W) = dF n W := put_here
theorem dF_putW (m : Int) (W X : Addr) : putF "weights" (.ref X) (dF m W) = dF m X := (put_past (by decide +kernel)).trans (congrArg _ put_here)
theorem dF_new (m : Int) (W : Addr) : putF "weights" (.ref W) (putF "letters" (.int m) []) = dF m W := (put_past (by decide +kernel)).trans rfl
structure Lay (C g : Addr) (H : Hp) (a : Addr) (d : Kp385.Desk) (dx W p q : Addr) : Prop where
  o : H a = some (.ins C dx (dF d.a W))
  ho : ∃ l, H g = some (.lst (iv l))
  no : p ≠ g ∧ q ≠ g
  w : H W = some (.lst [.ref p, .ref q])
  pl : H p = some (.lst (nv d.plain))
  ot : H q = some (.lst (nv d.other))
  ok : Ok d
def DeskAt (C o : Addr) (H : Hp) (a : Addr) : Kp385.State → Prop
  | none => (∃ l, H o = some (.lst (iv l))) ∧ ∃ dx W, H a = some (.ins C dx (dF 0 W))
  | some d => ∃ dx W p q, Lay C o H a d dx W p q
/-- the lists of whole numbers, and what is locked, stand -/
structure Keeps (H H' : Hp) : Prop where
  ls : ∀ b l, H b = some (.lst (iv l)) → H' b = some (.lst (iv l))
  frz : ∀ b o u, H b = some (.frz o u) → H' b = some (.frz o u)
theorem Keeps.of {H H' : Hp} (s : Same H H') : Keeps H H' := ⟨fun b l e => s b _ e, fun b o u e => s b _ e⟩
theorem Keeps.trans {H H1 H2 : Hp} (k : Keeps H H1) (m : Keeps H1 H2) : Keeps H H2 := ⟨fun b l e => m.ls b l (k.ls b l e), fun b o u e => m.frz b o u (k.frz b o u e)⟩
theorem Keeps.seq {K : PySem.W.Frag} {H H' : Hp} {b : Addr} {l : List Int} (k : Keeps H H') (h : SqL K H b (iv l)) : SqL K H' b (iv l) := by
  rcases h with (h | ⟨o, h⟩) | h
  · exact .inl (.inl (k.ls _ _ h))
  · exact .inl (.inr ⟨o, k.frz _ _ _ h⟩)
  · exact .inr h
theorem Keeps.ins {H : Hp} {a C dx : Addr} {fs : List (Str × V)} (h : H a = some (.ins C dx fs)) (o : HO) : Keeps H (upd H a o) := by
  refine ⟨fun b l e => ?_, fun b o u e => ?_⟩
  · rw [upd_ne (fun z => by rw [z, h] at e; cases e)]
    exact e
  · rw [upd_ne (fun z => by rw [z, h] at e; cases e)]
    exact e
theorem iv_ne_refs {l : List Int} {p : Addr} {r : List V} (h : V.ref p :: r = iv l) : False := by
  cases l with
  | nil => cases h
  | cons x l =>
    have := (List.cons.inj h).1
    cases this
theorem Keeps.refs {H : Hp} {W p : Addr} {r : List V} (h : H W = some (.lst (.ref p :: r))) (o : HO) : Keeps H (upd H W o) := by
  refine ⟨fun b l e => ?_, fun b o u e => ?_⟩
  · rw [upd_ne (fun z => by rw [z, h] at e; exact iv_ne_refs (HO.lst.inj (Option.some.inj e)))]
    exact e
  · rw [upd_ne (fun z => by rw [z, h] at e; cases e)]
    exact e
theorem DeskAt.same {C o : Addr} {H H' : Hp} {a : Addr} (s : Same H H') : ∀ {st : Kp385.State}, DeskAt C o H a st → DeskAt C o H' a st
  | none, ⟨⟨l, e⟩, dx, W, h⟩ => ⟨⟨l, s _ _ e⟩, dx, W, s _ _ h⟩
  | some _, ⟨dx, W, p, q, L⟩ => ⟨dx, W, p, q, s _ _ L.o, L.ho.elim fun l e => ⟨l, s _ _ e⟩, L.no, s _ _ L.w, s _ _ L.pl, s _ _ L.ot, L.ok⟩
theorem DeskAt.obj {C o : Addr} {H : Hp} {a : Addr} : ∀ {st : Kp385.State}, DeskAt C o H a st → ∃ dx m W, H a = some (.ins C dx (dF m W))
  | none, ⟨_, dx, W, h⟩ => ⟨dx, 0, W, h⟩
  | some _, ⟨dx, W, _, _, L⟩ => ⟨dx, _, W, L.o⟩
theorem DeskAt.out {C o : Addr} {H : Hp} {a : Addr} : ∀ {st : Kp385.State}, DeskAt C o H a st → ∃ l, H o = some (.lst (iv l))
  | none, ⟨h, _⟩ => h
  | some _, ⟨_, _, _, _, L⟩ => L.ho
theorem Ok.src {d : Kp385.Desk} (O : Ok d) (s : Nat) : Src d.a (Kp385.source d s) := by
  refine ⟨O.ls s, O.hi, ?_, O.ts s⟩
  unfold Kp385.source
  split
  · exact O.bp
  · exact O.bq
theorem Lay.at {C o : Addr} {H : Hp} {a : Addr} {d : Kp385.Desk} {dx W p q : Addr} (L : Lay C o H a d dx W p q) {s : Nat} (hs : s ≤ 1) : ∃ r, atI ([.ref p, .ref q] : List V) (s : Int) = some (.ref r) ∧ H r = some (.lst (nv (Kp385.source d s))) := by
  have : s = 0 ∨ s = 1 := by omega
  rcases this with rfl | rfl
  · exact ⟨p, rfl, L.pl⟩
  · exact ⟨q, rfl, L.ot⟩
/-- what a call's promise ends in -/
def Then (C o : Addr) (H : Hp) (a : Addr) (Q : VK) (r : Kp385.State × Kp385.Ans) : Prop := ∀ (H' : Hp) (p : Addr), Keeps H H' → DeskAt C o H' a r.1 → H p = none → H' p = some (.lst (iv (ansI r.2))) → Q (.ref p) H'
theorem Then.new {C o : Addr} {H : Hp} {a : Addr} {Q : VK} {st : Kp385.State} {x : Kp385.Ans} (t : Then C o H a Q (st, x)) (D : DeskAt C o H a st) : NewL H Q (ansI x) := fun H' p s n e => t H' p (.of s) (D.same s) n e
def spDo (K : PySem.W.Frag) (C : Addr) (fit : List Nat → Prop) (c : List Nat → Kp385.Call) : Sp := fun vs H Q _ => ∃ (a b o : Addr) (d : Kp385.Desk) (xs : List Nat), vs = [.ref a, .ref b] ∧ DeskAt C o H a (some d) ∧ SqL K H b (nv xs) ∧ fit xs ∧ Then C o H a Q (Kp385.step (some d) (c xs))
theorem NewL.one {H : Hp} {Q : VK} {x : Int} (n : NewL H Q [x]) {p : Addr} (hp : H p = none) : Q (.ref p) (upd H p (.lst [.int x])) := n _ p (same_upd hp) hp upd_same
/-- the whole numbers of the top -/
structure Consts (mg : Str → Option Value) : Prop where
  w9 : Num mg "MOST_WEIGHT" 9
  w6 : Num mg "MOST_LETTERS_OF_A_WORD" 6
  n2 : Num mg "NO_SUCH_LETTER" (-2)
  n6 : Num mg "NOT_LIKELY_BY_EITHER" (-6)
  n11 : Num mg "NOT_BEGUN" (-11)
  n22 : Num mg "NOT_AS_TOLD" (-22)
  n33 : Num mg "NOT_LIKELY_BY_PLAIN" (-33)
  n34 : Num mg "NEVER_SO_FAR_APART" (-33)
  l2 : Num mg "FEWEST_LETTERS" 2
  l4 : Num mg "MOST_LETTERS" 4
  h100 : Num mg "MOST_HUNDREDTHS" 100
  b1000 : Num mg "MOST_OF_A_BOUND" 1000
  pl : Num mg "PLAIN" 0
  ot : Num mg "OTHER" 1
  be : Num mg "BEGIN" 0
structure ClsT (K : PySem.W.Frag) (mg : Str → Option Value) (C : Addr) : Prop where
  cl : Cls K C
  nL : NoAttr K C "letters"
  nW : NoAttr K C "weights"
  gC : mg "Desk" = some (.ref C)
abbrev sInit : Stmt := inClass (topS 39) 0
abbrev sBegin : Stmt := topS 40
abbrev sTell : Stmt := topS 41
abbrev sPlain : Stmt := topS 42
abbrev sOther : Stmt := topS 43
abbrev sSourceis : Stmt := topS 44
abbrev sSwap : Stmt := topS 45
theorem scInit : FnScope ["self"] ["self"] (defScope sInit) := ⟨rfl, rfl, rfl, by decide +kernel, rfl, by decide +kernel, by decide +kernel⟩
theorem scBegin : FnScope ["desk", "numbers", "letters"] ["desk", "numbers"] (defScope sBegin) := ⟨rfl, rfl, rfl, by decide +kernel, rfl, by decide +kernel, by decide +kernel⟩
theorem scTell : FnScope ["desk", "source", "row"] ["desk", "source", "row"] (defScope sTell) := ⟨rfl, rfl, rfl, by decide +kernel, rfl, by decide +kernel, by decide +kernel⟩
theorem scPlain : FnScope ["desk", "numbers"] ["desk", "numbers"] (defScope sPlain) := ⟨rfl, rfl, rfl, by decide +kernel, rfl, by decide +kernel, by decide +kernel⟩
theorem scOther : FnScope ["desk", "numbers"] ["desk", "numbers"] (defScope sOther) := ⟨rfl, rfl, rfl, by decide +kernel, rfl, by decide +kernel, by decide +kernel⟩
theorem scSourceis : FnScope ["desk", "numbers", "source"] ["desk", "numbers"] (defScope sSourceis) := ⟨rfl, rfl, rfl, by decide +kernel, rfl, by decide +kernel, by decide +kernel⟩
theorem scSwap : FnScope ["desk", "numbers"] ["desk", "numbers"] (defScope sSwap) := ⟨rfl, rfl, rfl, by decide +kernel, rfl, by decide +kernel, by decide +kernel⟩
section
variable {P : Program} {w : World} {K : PySem.W.Frag} {mg : Str → Option Value} {base : Heap} {C : Addr}
/-! ### Desk.__init__ -/
def spInit (C : Addr) : Sp := fun vs H Q _ => ∃ (p dx : Addr), vs = [.ref p] ∧ H p = some (.ins C dx []) ∧ ∀ H' : Hp, (∃ dx W, H' p = some (.ins C dx (dF 0 W))) → (∀ b o, H b = some o → b ≠ p → H' b = some o) → Q .non H'
theorem ok_init {f : Addr} {fd : FuncData} {k : Nat} (F : Fun K "__init__" "Desk.__init__" sInit f fd) (T : ClsT K mg C) : FnOk P w K mg base CX0 (k + 1) f fd ["self"] (spInit C) := by
  refine F.ok scInit (fun vs H Q E h => ?_) (fun cdv A outer s H vs Q E hr h => ?_)
  · obtain ⟨p, dx, rfl, _⟩ := h
    rfl
  · obtain ⟨p, dx, rfl, hp, q⟩ := h
    refine ⟨_, pss_cons (ps_fld (pv 0) pe_int rfl) (pss_one (ps_fld (pv 0) (pe_lst (pa_cons (pe_lst pa_nil) (pa_cons (pe_lst pa_nil) pa_nil))) rfl)), ?_⟩
    refine ⟨_, rfl, p, C, dx, [], rfl, hp, T.cl, T.nL, (by show 0 < 1000; decide), ?_⟩
    refine ⟨Nat.zero_le _, fun x nx => ⟨Nat.zero_le _, fun y ny => ⟨(by show 2 ≤ sizeLine; decide), fun W nW => ?_⟩⟩⟩
    have e0 : (upd H p (.ins C dx (putF "letters" (.int 0) []))) p = some (.ins C dx (putF "letters" (.int 0) [])) := upd_same
    have e1 := same_upd (o := .lst []) nx _ _ e0
    have e2 := same_upd (o := .lst []) ny _ _ e1
    have e3 := same_upd (o := .lst [.ref x, .ref y]) nW _ _ e2
    refine ⟨_, rfl, p, C, dx, _, rfl, e3, T.cl, T.nW, (by show 1 < 1000; decide), ?_⟩
    refine q _ ⟨dx, W, ?_⟩ fun b o e hb => ?_
    · rw [upd_same, dF_new]
    · rw [upd_ne hb]
      have z0 : (upd H p (.ins C dx (putF "letters" (.int 0) []))) b = some o := by
        rw [upd_ne hb]
        exact e
      exact same_upd nW _ _ (same_upd ny _ _ (same_upd nx _ _ z0))
/-! ### begin -/
def spBegin (K : PySem.W.Frag) (C : Addr) : Sp := fun vs H Q _ => ∃ (a b o : Addr) (st : Kp385.State) (n : Nat), vs = [.ref a, .ref b] ∧ DeskAt C o H a st ∧ SqL K H b (nv [n]) ∧ Then C o H a Q (Kp385.step st (.begin_ n))
theorem rep_ones (n : Nat) : (List.replicate (n : Int).toNat ([.int 1] : List V)).flatten = nv (List.replicate n 1) := by
  show (List.replicate n ([.int 1] : List V)).flatten = _
  induction n with
  | zero => rfl
  | succ n ih =>
    rw [List.replicate_succ, List.flatten_cons, ih]
    rfl
theorem T_ones : ∀ n : Nat, T (List.replicate n 1) = n
  | 0 => rfl
  | n + 1 => by
    have ih := T_ones n
    rw [T_isum] at ih ⊢
    rw [List.replicate_succ, List.map_cons, isum, ih]
    omega
theorem ok_new {n : Nat} (h2 : 2 ≤ n) (h4 : n ≤ 4) : Ok ⟨n, List.replicate n 1, List.replicate n 1⟩ := by
  refine ⟨h2, h4, List.length_replicate .., List.length_replicate .., ?_, ?_, ?_, ?_⟩
  · show 0 < T (List.replicate n 1)
    rw [T_ones]
    omega
  · show 0 < T (List.replicate n 1)
    rw [T_ones]
    omega
  · intro x hx
    rw [(List.mem_replicate.mp hx).2]
    decide
  · intro x hx
    rw [(List.mem_replicate.mp hx).2]
    decide
theorem ok_begin {f : Addr} {fd : FuncData} {k : Nat} (F : Fun K "begin" "begin" sBegin f fd) (T : ClsT K mg C) (c : Consts mg) : FnOk P w K mg base CX0 (k + 1) f fd ["desk", "numbers"] (spBegin K C) := by
  refine F.ok scBegin (fun vs H Q E h => ?_) (fun cdv A outer s H vs Q E hr h => ?_)
  · obtain ⟨a, b, o, st, n, rfl, _⟩ := h
    rfl
  · obtain ⟨a, b, o, st, n, rfl, hD, hb, q⟩ := h
    refine ⟨_, pss_cons (ps_set (i := 2) scBegin.nd rfl (.inl rfl) (pe_ix ix_list (pv 1) pe_int (fun _ _ => rfl)))
      (pss_cons (ps_if (PW.pt (pw_or (pt_cmpR op_lt (pv 2) (pe_num c.l2) (nomark _)) (pw_or1 (pt_cmpR op_gt (pv 2) (pe_num c.l4) (nomark _))))) (pss_one (ps_ret (pe_lst (pa_cons (pe_num c.n22) pa_nil)))) pss_nil)
      (pss_cons (ps_fld (pv 0) (pv 2) rfl)
      (pss_cons (ps_fld (pv 0) (pe_lst (pa_cons (pe_op op_rep (pe_lst (pa_cons pe_int pa_nil)) (pv 2)) (pa_cons (pe_op op_rep (pe_lst (pa_cons pe_int pa_nil)) (pv 2)) pa_nil))) rfl)
      (pss_one (ps_ret (pe_lst (pa_cons pe_int pa_nil))))))), ?_⟩
    refine ⟨_, rfl, b, _, 0, .int n, rfl, rfl, hb, rfl, ?_⟩
    have hno : (n < 2 ∨ 4 < n) → ∀ p, H p = none → Q (.ref p) (upd H p (.lst [.int (-22)])) := fun hn p hp => by
      have e : Kp385.step st (.begin_ n) = (st, Kp385.say (-22)) := if_pos hn
      rw [e] at q
      exact (q.new hD).one hp
    refine ⟨_, rfl, _, _, rfl, rfl, _, rfl, ite2 (fun e => ?_) (fun e => ?_)⟩
    · have e1 : (n : Int) < 2 := of_decide_eq_true e
      exact iteT ⟨(by show 1 ≤ sizeLine; decide), fun p hp => hno (by omega) p hp⟩
    · have e1 : ¬ (n : Int) < 2 := fun z => e (decide_eq_true z)
      refine ⟨_, rfl, _, _, rfl, rfl, _, rfl, ite2 (fun e => ?_) (fun e => ?_)⟩
      · have e2 : (4 : Int) < n := of_decide_eq_true e
        exact ⟨(by show 1 ≤ sizeLine; decide), fun p hp => hno (by omega) p hp⟩
      · have e2 : ¬ (4 : Int) < n := fun z => e (decide_eq_true z)
        obtain ⟨dx, m, W, hO⟩ := hD.obj
        refine ⟨_, rfl, _, rfl, a, C, dx, _, rfl, hO, T.cl, T.nL, (by show 2 < 1000; decide), ?_⟩
        rw [dF_putL]
        have k1 : Keeps H (upd H a (.ins C dx (dF n W))) := Keeps.ins hO _
        generalize hH1 : upd H a (.ins C dx (dF n W)) = H1 at k1 ⊢
        have hO1 : H1 a = some (.ins C dx (dF n W)) := by
          rw [← hH1]
          exact upd_same
        have sz : ([.int 1] : List V).length * (n : Int).toNat ≤ sizeLine := by
          show 1 * n ≤ 16777216
          omega
        refine ⟨(by show 1 ≤ sizeLine; decide), fun x1 n1 => ⟨_, rfl, x1, (n : Int), _, rfl, rfl, upd_same, by omega, by omega, sz, fun x2 n2 => ?_⟩⟩
        refine ⟨(by show 1 ≤ sizeLine; decide), fun x3 n3 => ⟨_, rfl, x3, (n : Int), _, rfl, rfl, upd_same, by omega, by omega, sz, fun x4 n4 => ?_⟩⟩
        refine ⟨(by show 2 ≤ sizeLine; decide), fun W' nW => ?_⟩
        rw [rep_ones] at *
        have s1 := same_upd (o := .lst [.int 1]) n1
        have s2 := same_upd (o := .lst (nv (List.replicate n 1))) n2
        have s3 := same_upd (o := .lst [.int 1]) n3
        have s4 := same_upd (o := .lst (nv (List.replicate n 1))) n4
        have s5 := same_upd (o := .lst [.ref x2, .ref x4]) nW
        have s15 := s1.trans (s2.trans (s3.trans (s4.trans s5)))
        have h2 := s5 _ _ (s4 _ _ (s3 _ _ (upd_same (H := upd H1 x1 (.lst [.int 1])) (a := x2) (o := .lst (nv (List.replicate n 1))))))
        have h4 := s5 _ _ (upd_same (H := upd (upd (upd H1 x1 (.lst [.int 1])) x2 (.lst (nv (List.replicate n 1)))) x3 (.lst [.int 1])) (a := x4) (o := .lst (nv (List.replicate n 1))))
        refine ⟨_, rfl, a, C, dx, _, rfl, s15 _ _ hO1, T.cl, T.nW, (by show 2 < 1000; decide), ?_⟩
        rw [dF_putW]
        refine ⟨(by show 1 ≤ sizeLine; decide), fun p hp => ?_⟩
        have e : Kp385.step st (.begin_ n) = (some ⟨n, List.replicate n 1, List.replicate n 1⟩, Kp385.say 0) := if_neg (by omega)
        rw [e] at q
        have kz : ∀ b o, b ≠ a → (upd (upd (upd (upd (upd H1 x1 (.lst [.int 1])) x2 (.lst (nv (List.replicate n 1)))) x3 (.lst [.int 1])) x4 (.lst (nv (List.replicate n 1)))) W' (.lst [.ref x2, .ref x4])) b = some o → (upd (upd (upd (upd (upd (upd (upd H1 x1 (.lst [.int 1])) x2 (.lst (nv (List.replicate n 1)))) x3 (.lst [.int 1])) x4 (.lst (nv (List.replicate n 1)))) W' (.lst [.ref x2, .ref x4])) a (.ins C dx (dF n W'))) p (.lst [.int 0])) b = some o := by
          intro b o hb e
          refine same_upd hp _ _ ?_
          rw [upd_ne hb]
          exact e
        have na : ∀ {b : Addr} {l : List V}, (upd (upd (upd (upd (upd H1 x1 (.lst [.int 1])) x2 (.lst (nv (List.replicate n 1)))) x3 (.lst [.int 1])) x4 (.lst (nv (List.replicate n 1)))) W' (.lst [.ref x2, .ref x4])) b = some (.lst l) → b ≠ a := fun e z => by
          rw [z, s15 _ _ hO1] at e
          cases e
        obtain ⟨lo, ho⟩ := hD.out
        have ho1 := k1.ls _ _ ho
        refine q _ p ?_ ⟨dx, W', x2, x4, ?_, ?_, ?_, ?_, ?_, ?_, ok_new (by omega) (by omega)⟩ ?_ upd_same
        · exact k1.trans ((Keeps.of s15).trans ((Keeps.ins (s15 _ _ hO1) _).trans (Keeps.of (same_upd hp))))
        · exact same_upd hp _ _ upd_same
        · exact ⟨lo, kz _ _ (na (s15 _ _ ho1)) (s15 _ _ ho1)⟩
        · exact ⟨Ne.symm (ne_of_none (s1 _ _ ho1) n2), Ne.symm (ne_of_none (s3 _ _ (s2 _ _ (s1 _ _ ho1))) n4)⟩
        · exact kz _ _ (na upd_same) upd_same
        · exact kz _ _ (na h2) h2
        · exact kz _ _ (na h4) h4
        · have f1 := s15.free (l := p) (by
            by_cases z : p = a
            · rw [z, upd_same] at hp
              cases hp
            · rw [upd_ne z] at hp
              exact hp)
          rw [← hH1] at f1
          by_cases z : p = a
          · rw [z, upd_same] at f1
            cases f1
          · rw [upd_ne z] at f1
            exact f1
end
end My
set_option Elab.async false
set_option maxRecDepth 100000
set_option maxHeartbeats 2000000
set_option linter.unusedVariables false
namespace My
open PySem PySem.Spec PyProof.Rows L2
theorem free_upd {H : Hp} {a b : Addr} {o : HO} (e : upd H a o b = none) : H b = none := by
  by_cases z : b = a
  · rw [z, upd_same] at e
    cases e
  · rw [upd_ne z] at e
    exact e
theorem okS_is (d : Kp385.Desk) (l : List Nat) : Kp385.okSource d l = okS d.a l := rfl
theorem okW_is (d : Kp385.Desk) (w : List Nat) : Kp385.okWord d w = okW d.a w := rfl
theorem T_pos_of {x : Nat} (h0 : 0 < x) : ∀ {l : List Nat}, x ∈ l → 0 < isum (l.map fun (k : Nat) => (k : Int))
  | [], hx => by cases hx
  | y :: l, hx => by
    have nn : 0 ≤ isum (l.map fun (k : Nat) => (k : Int)) := isum_nonneg fun z hz => by
      obtain ⟨k, _, rfl⟩ := List.mem_map.mp hz
      omega
    rw [List.map_cons, isum]
    rcases List.mem_cons.mp hx with e | e
    · subst e
      omega
    · have := T_pos_of h0 e
      omega
structure SrcOk (a : Nat) (l : List Nat) : Prop where
  len : l.length = a
  nine : ∀ x ∈ l, x ≤ 9
  pos : 0 < T l
theorem okS_src {a : Nat} {l : List Nat} (h : okS a l = true) : SrcOk a l := by
  unfold okS at h
  rw [Bool.and_eq_true, Bool.and_eq_true] at h
  obtain ⟨⟨h1, h2⟩, h3⟩ := h
  obtain ⟨x, hx, h4⟩ := List.any_eq_true.mp h3
  refine ⟨of_decide_eq_true h1, fun x hx => of_decide_eq_true (List.all_eq_true.mp h2 x hx), ?_⟩
  rw [T_isum]
  exact T_pos_of (of_decide_eq_true h4) hx
theorem Ok.putP {d : Kp385.Desk} (O : Ok d) {l : List Nat} (h : SrcOk d.a l) : Ok { d with plain := l } := ⟨O.lo, O.hi, h.len, O.lq, h.pos, O.tq, h.nine, O.bq⟩
theorem Ok.putQ {d : Kp385.Desk} (O : Ok d) {l : List Nat} (h : SrcOk d.a l) : Ok { d with other := l } := ⟨O.lo, O.hi, O.lp, h.len, O.tp, h.pos, O.bp, h.nine⟩
theorem Ok.swap {d : Kp385.Desk} (O : Ok d) : Ok { d with plain := d.other, other := d.plain } := ⟨O.lo, O.hi, O.lq, O.lp, O.tq, O.tp, O.bq, O.bp⟩
def tellC (s : Nat) (xs : List Nat) : Kp385.Call := if s = 0 then .plain xs else .other xs
theorem nv_ne_refs {l : List Nat} {H : Hp} {W b p : Addr} {r : List V} (h : H W = some (.lst (.ref p :: r))) (e : H b = some (.lst (nv l))) : b ≠ W := fun z => by
  rw [z, h] at e
  exact iv_ne_refs (HO.lst.inj (Option.some.inj e))
theorem Lay.aW {C o : Addr} {H : Hp} {a : Addr} {d : Kp385.Desk} {dx W p q : Addr} (L : Lay C o H a d dx W p q) : a ≠ W := fun z => by
  have h := L.o
  rw [z, L.w] at h
  cases h
section
variable {P : Program} {w : World} {K : PySem.W.Frag} {mg : Str → Option Value} {base : Heap} {C : Addr}
/-! ### tell_source -/
def spTell (K : PySem.W.Frag) (C : Addr) : Sp := fun vs H Q _ => ∃ (a b o : Addr) (s : Nat) (d : Kp385.Desk) (xs : List Nat), vs = [.ref a, .int (s : Int), .ref b] ∧ s ≤ 1 ∧ DeskAt C o H a (some d) ∧ SqL K H b (nv xs) ∧ Then C o H a Q (Kp385.step (some d) (tellC s xs))
theorem tell_no {d : Kp385.Desk} {s : Nat} {xs : List Nat} (h : okS d.a xs = false) : Kp385.step (some d) (tellC s xs) = (some d, Kp385.say (-22)) := by
  unfold tellC
  split
  · exact if_pos h
  · exact if_pos h
theorem tell_p {d : Kp385.Desk} {xs : List Nat} (h : okS d.a xs = true) : Kp385.step (some d) (tellC 0 xs) = (some { d with plain := xs }, Kp385.say (Kp346.total xs : Nat)) := if_neg (show ¬ okS d.a xs = false by rw [h]; decide)
theorem tell_q {d : Kp385.Desk} {xs : List Nat} (h : okS d.a xs = true) : Kp385.step (some d) (tellC 1 xs) = (some { d with other := xs }, Kp385.say (Kp346.total xs : Nat)) := if_neg (show ¬ okS d.a xs = false by rw [h]; decide)
theorem ok_tell {f fS : Addr} {fd fdS : FuncData} {k : Nat} (F : Fun K "tell_source" "tell_source" sTell f fd) (B : Bare mg) (Cl : ClsT K mg C) (c : Consts mg) (DS : Def K mg "is_source" sIsSource ["row", "letters"] fS fdS) :
    FnOk P w K mg base CX0 (k + 2) f fd ["desk", "source", "row"] (spTell K C) := by
  have GS : FnOk P w K mg base CX0 (k + 1) fS fdS ["row", "letters"] (spIsSource K) := ok_isSource DS.F B c.w9
  refine F.ok scTell (fun vs H Q E h => ?_) (fun cdv A outer s H vs Q E hr h => ?_)
  · obtain ⟨a, b, o, s, d, xs, rfl, _⟩ := h
    rfl
  · obtain ⟨a, b, o, s, d, xs, rfl, hs, hD, hb, q⟩ := h
    refine ⟨_, pss_cons (ps_if (pt_not (pt_val (pe_call GS hr (by rfl) DS.g DS.F.kp DS.b .nil pass0 (pa_cons (pv 2) (pa_cons (pe_fld (pv 0) rfl) pa_nil))))) (pss_one (ps_ret (pe_lst (pa_cons (pe_num c.n22) pa_nil)))) pss_nil)
      (pss_cons (ps_asg (pe_callTy call_list_of (by rfl) B.list (by decide +kernel) (pa_cons (pv 2) pa_nil)) (pg_sub (pe_fld (pv 0) rfl) (pv 1) set_list))
      (pss_one (ps_ret (pe_lst (pa_cons (pe_callB (cr_sum rfl) (by rfl) B.sum (by decide +kernel) (pa_cons (pv 2) pa_nil)) pa_nil))))), ?_⟩
    obtain ⟨dx, W, p, q0, L⟩ := hD
    have O := L.ok
    refine ⟨_, rfl, _, rfl, a, C, dx, _, _, rfl, L.o, Cl.cl, Cl.nL, dF_let _ _, b, d.a, xs, rfl, hb, by have := O.lo; omega, _, rfl, ?_⟩
    cases hk : okS d.a xs with
    | false =>
      rw [tell_no hk] at q
      exact iteT ⟨(by show 1 ≤ sizeLine; decide), fun p hp => (q.new ⟨dx, W, _, _, L⟩).one hp⟩
    | true =>
      refine iteF ⟨_, rfl, b, _, rfl, .inl hb, fun l nl => ?_⟩
      have s1 := same_upd (o := .lst (nv xs)) nl
      have hW := s1 _ _ L.w
      have eS : ∀ j, (s = j ∧ j ≤ 1) → ixN ([.ref p, .ref q0] : List V).length (s : Int) = some j := by
        rintro j ⟨rfl, hj⟩
        have : s = 0 ∨ s = 1 := by omega
        rcases this with rfl | rfl <;> rfl
      refine ⟨_, rfl, a, C, dx, _, _, rfl, s1 _ _ L.o, Cl.cl, Cl.nW, dF_wei _ _, _, rfl, W, _, _, s, rfl, rfl, hW, eS s ⟨rfl, hs⟩, ?_⟩
      have k2 : Keeps H (upd (upd H l (.lst (nv xs))) W (.lst (([.ref p, .ref q0] : List V).set s (.ref l)))) := (Keeps.of s1).trans (Keeps.refs hW _)
      have nlW : l ≠ W := nv_ne_refs (b := l) (l := xs) hW upd_same
      have npW : p ≠ W := nv_ne_refs L.w L.pl
      have nqW : q0 ≠ W := nv_ne_refs L.w L.ot
      have oA : (upd (upd H l (.lst (nv xs))) W (.lst (([.ref p, .ref q0] : List V).set s (.ref l)))) a = some (.ins C dx (dF d.a W)) := by
        rw [upd_ne L.aW]
        exact s1 _ _ L.o
      have oL : (upd (upd H l (.lst (nv xs))) W (.lst (([.ref p, .ref q0] : List V).set s (.ref l)))) l = some (.lst (nv xs)) := by
        rw [upd_ne nlW]
        exact upd_same
      have oP : (upd (upd H l (.lst (nv xs))) W (.lst (([.ref p, .ref q0] : List V).set s (.ref l)))) p = some (.lst (nv d.plain)) := by
        rw [upd_ne npW]
        exact s1 _ _ L.pl
      have oQ : (upd (upd H l (.lst (nv xs))) W (.lst (([.ref p, .ref q0] : List V).set s (.ref l)))) q0 = some (.lst (nv d.other)) := by
        rw [upd_ne nqW]
        exact s1 _ _ L.ot
      obtain ⟨lo, ho⟩ := L.ho
      have oO := k2.ls _ _ ho
      have nol : l ≠ o := Ne.symm (ne_of_none ho nl)
      have oW : (upd (upd H l (.lst (nv xs))) W (.lst (([.ref p, .ref q0] : List V).set s (.ref l)))) W = some (.lst (([.ref p, .ref q0] : List V).set s (.ref l))) := upd_same
      have fr : ∀ b, (upd (upd H l (.lst (nv xs))) W (.lst (([.ref p, .ref q0] : List V).set s (.ref l)))) b = none → H b = none := fun b e => free_upd (free_upd e)
      generalize hH2 : upd (upd H l (.lst (nv xs))) W (.lst (([.ref p, .ref q0] : List V).set s (.ref l))) = H2 at k2 oA oL oP oQ oW oO fr ⊢
      refine ⟨_, rfl, b, nI xs, rfl, k2.seq hb, (by show 1 ≤ sizeLine; decide), fun r hr' => ?_⟩
      have s3 := same_upd (o := .lst [.int (nI xs).sum]) hr'
      have hs' : s = 0 ∨ s = 1 := by omega
      have ex : (nI xs).sum = (Kp346.total xs : Int) := T_sum xs
      rcases hs' with rfl | rfl
      · rw [tell_p hk] at q
        refine q _ r (k2.trans (Keeps.of s3)) ⟨dx, W, l, q0, s3 _ _ oA, ⟨lo, s3 _ _ oO⟩, ⟨nol, L.no.2⟩, s3 _ _ oW, s3 _ _ oL, s3 _ _ oQ, O.putP (okS_src hk)⟩ (fr _ hr') ?_
        rw [upd_same, ex]
        rfl
      · rw [tell_q hk] at q
        refine q _ r (k2.trans (Keeps.of s3)) ⟨dx, W, p, l, s3 _ _ oA, ⟨lo, s3 _ _ oO⟩, ⟨L.no.1, nol⟩, s3 _ _ oW, s3 _ _ oP, s3 _ _ oL, O.putQ (okS_src hk)⟩ (fr _ hr') ?_
        rw [upd_same, ex]
        rfl
/-! ### plain, other -/
theorem ok_plain {f fT fS : Addr} {fd fdT fdS : FuncData} {k : Nat} (F : Fun K "plain" "plain" sPlain f fd) (B : Bare mg) (Cl : ClsT K mg C) (c : Consts mg) (DT : Def K mg "tell_source" sTell ["desk", "source", "row"] fT fdT) (DS : Def K mg "is_source" sIsSource ["row", "letters"] fS fdS) :
    FnOk P w K mg base CX0 (k + 3) f fd ["desk", "numbers"] (spDo K C (fun _ => True) .plain) := by
  have GT : FnOk P w K mg base CX0 (k + 2) fT fdT ["desk", "source", "row"] (spTell K C) := ok_tell DT.F B Cl c DS
  refine F.ok scPlain (fun vs H Q E h => ?_) (fun cdv A outer s H vs Q E hr h => ?_)
  · obtain ⟨a, b, o, d, xs, rfl, _⟩ := h
    rfl
  · obtain ⟨a, b, o, d, xs, rfl, hD, hb, _, q⟩ := h
    refine ⟨_, pss_one (ps_ret (pe_call GT hr (by rfl) DT.g DT.F.kp DT.b .nil pass0 (pa_cons (pv 0) (pa_cons (pe_num c.pl) (pa_cons (pv 1) pa_nil))))), ?_⟩
    exact ⟨_, rfl, _, rfl, a, b, o, 0, d, xs, rfl, by decide, hD, hb, q⟩
theorem ok_other {f fT fS : Addr} {fd fdT fdS : FuncData} {k : Nat} (F : Fun K "other" "other" sOther f fd) (B : Bare mg) (Cl : ClsT K mg C) (c : Consts mg) (DT : Def K mg "tell_source" sTell ["desk", "source", "row"] fT fdT) (DS : Def K mg "is_source" sIsSource ["row", "letters"] fS fdS) :
    FnOk P w K mg base CX0 (k + 3) f fd ["desk", "numbers"] (spDo K C (fun _ => True) .other) := by
  have GT : FnOk P w K mg base CX0 (k + 2) fT fdT ["desk", "source", "row"] (spTell K C) := ok_tell DT.F B Cl c DS
  refine F.ok scOther (fun vs H Q E h => ?_) (fun cdv A outer s H vs Q E hr h => ?_)
  · obtain ⟨a, b, o, d, xs, rfl, _⟩ := h
    rfl
  · obtain ⟨a, b, o, d, xs, rfl, hD, hb, _, q⟩ := h
    refine ⟨_, pss_one (ps_ret (pe_call GT hr (by rfl) DT.g DT.F.kp DT.b .nil pass0 (pa_cons (pv 0) (pa_cons (pe_num c.ot) (pa_cons (pv 1) pa_nil))))), ?_⟩
    exact ⟨_, rfl, _, rfl, a, b, o, 1, d, xs, rfl, by decide, hD, hb, q⟩
/-! ### sourceis -/
theorem one_long {xs : List Nat} (h : xs.length = 1) : ∃ x, xs = [x] := by
  match xs, h with
  | [x], _ => exact ⟨x, rfl⟩
theorem ok_sourceis {f : Addr} {fd : FuncData} {k : Nat} (F : Fun K "sourceis" "sourceis" sSourceis f fd) (Cl : ClsT K mg C) (c : Consts mg) :
    FnOk P w K mg base CX0 (k + 1) f fd ["desk", "numbers"] (spDo K C (fun xs => xs.length = 1) fun xs => .sourceIs (xs.getD 0 0)) := by
  refine F.ok scSourceis (fun vs H Q E h => ?_) (fun cdv A outer s H vs Q E hr h => ?_)
  · obtain ⟨a, b, o, d, xs, rfl, _⟩ := h
    rfl
  · obtain ⟨a, b, o, d, xs, rfl, hD, hb, hx, q⟩ := h
    obtain ⟨s, rfl⟩ := one_long hx
    refine ⟨_, pss_cons (ps_set (i := 2) scSourceis.nd rfl (.inl rfl) (pe_ix ix_list (pv 1) pe_int (fun _ _ => rfl)))
      (pss_cons (ps_if (pt_cmpR op_gt (pv 2) (pe_num c.ot) (nomark _)) (pss_one (ps_ret (pe_lst (pa_cons (pe_num c.n22) pa_nil)))) pss_nil)
      (pss_one (ps_ret (pe_op op_cat (pe_lst (pa_cons (pe_fld (pv 0) rfl) pa_nil)) (pe_ix ix_list (pe_fld (pv 0) rfl) (pv 2) (fun _ _ => rfl)))))), ?_⟩
    have q : NewL H Q (ansI (if 1 < s then Kp385.say (-22) else Kp385.row (Kp385.source d s))) := q.new hD
    obtain ⟨dx, W, p, q0, L⟩ := hD
    refine ⟨_, rfl, b, _, 0, .int s, rfl, rfl, hb, rfl, _, rfl, _, _, rfl, rfl, _, rfl, ite2 (fun e => ?_) (fun e => ?_)⟩
    · have e1 : (1 : Int) < s := of_decide_eq_true e
      rw [if_pos (by omega)] at q
      exact ⟨(by show 1 ≤ sizeLine; decide), fun p hp => q.one hp⟩
    · have e1 : ¬ (1 : Int) < s := fun z => e (decide_eq_true z)
      rw [if_neg (by omega)] at q
      obtain ⟨r, hr1, hr2⟩ := L.at (s := s) (by omega)
      refine ⟨_, rfl, a, C, dx, _, _, rfl, L.o, Cl.cl, Cl.nL, dF_let _ _, (by show 1 ≤ sizeLine; decide), fun z nz => ?_⟩
      have s1 := same_upd (o := .lst [.int d.a]) nz
      refine ⟨_, rfl, a, C, dx, _, _, rfl, s1 _ _ L.o, Cl.cl, Cl.nW, dF_wei _ _, _, rfl, W, _, _, _, rfl, rfl, SqL.of (s1 _ _ L.w), hr1, ?_⟩
      refine ⟨z, r, _, _, rfl, rfl, upd_same, s1 _ _ hr2, ?_, fun t nt => ?_⟩
      · rw [nv_len, L.ok.ls s]
        have := L.ok.hi
        show 1 + d.a ≤ 16777216
        omega
      · refine q _ t (s1.trans (same_upd nt)) (free_upd nt) ?_
        rw [upd_same]
        show _ = some (HO.lst (iv (((Kp385.source d s).length : Int) :: _)))
        rw [L.ok.ls s]
        rfl
/-! ### swap -/
theorem ok_swap {f : Addr} {fd : FuncData} {k : Nat} (F : Fun K "swap" "swap" sSwap f fd) (Cl : ClsT K mg C) (c : Consts mg) :
    FnOk P w K mg base CX0 (k + 1) f fd ["desk", "numbers"] (spDo K C (fun _ => True) fun _ => .swap) := by
  refine F.ok scSwap (fun vs H Q E h => ?_) (fun cdv A outer s H vs Q E hr h => ?_)
  · obtain ⟨a, b, o, d, xs, rfl, _⟩ := h
    rfl
  · obtain ⟨a, b, o, d, xs, rfl, hD, hb, _, q⟩ := h
    refine ⟨_, pss_cons (ps_fld (pv 0) (pe_lst (pa_cons (pe_ix ix_list (pe_fld (pv 0) rfl) (pe_num c.ot) (fun _ _ => rfl)) (pa_cons (pe_ix ix_list (pe_fld (pv 0) rfl) (pe_num c.pl) (fun _ _ => rfl)) pa_nil))) rfl)
      (pss_one (ps_ret (pe_lst (pa_cons pe_int pa_nil)))), ?_⟩
    obtain ⟨dx, W, p, q0, L⟩ := hD
    refine ⟨_, rfl, a, C, dx, _, _, rfl, L.o, Cl.cl, Cl.nW, dF_wei _ _, W, _, 1, .ref q0, rfl, rfl, SqL.of L.w, rfl, ?_⟩
    refine ⟨_, rfl, a, C, dx, _, _, rfl, L.o, Cl.cl, Cl.nW, dF_wei _ _, W, _, 0, .ref p, rfl, rfl, SqL.of L.w, rfl, (by show 2 ≤ sizeLine; decide), fun W' nW => ?_⟩
    have s1 := same_upd (o := .lst [.ref q0, .ref p]) nW
    refine ⟨_, rfl, a, C, dx, _, rfl, s1 _ _ L.o, Cl.cl, Cl.nW, (by show 2 < 1000; decide), ?_⟩
    rw [dF_putW]
    have k2 := (Keeps.of s1).trans (Keeps.ins (s1 _ _ L.o) (.ins C dx (dF d.a W')))
    have na : ∀ {b : Addr} {l : List V}, (upd H W' (.lst [.ref q0, .ref p])) b = some (.lst l) → b ≠ a := fun e z => by
      rw [z, s1 _ _ L.o] at e
      cases e
    have kz : ∀ {b : Addr} {l : List V}, (upd H W' (.lst [.ref q0, .ref p])) b = some (.lst l) → (upd (upd H W' (.lst [.ref q0, .ref p])) a (.ins C dx (dF d.a W'))) b = some (.lst l) := fun e => by
      rw [upd_ne (na e)]
      exact e
    refine ⟨(by show 1 ≤ sizeLine; decide), fun r nr => ?_⟩
    have s3 := same_upd (o := .lst [.int 0]) nr
    obtain ⟨lo, ho⟩ := L.ho
    exact q _ r (k2.trans (Keeps.of s3)) ⟨dx, W', q0, p, s3 _ _ upd_same, ⟨lo, s3 _ _ (kz (s1 _ _ ho))⟩, ⟨L.no.2, L.no.1⟩, s3 _ _ (kz upd_same), s3 _ _ (kz (s1 _ _ L.ot)), s3 _ _ (kz (s1 _ _ L.pl)), L.ok.swap⟩ (free_upd (free_upd nr)) upd_same
end
end My
set_option Elab.async false
set_option maxRecDepth 100000
set_option maxHeartbeats 2000000
set_option linter.unusedVariables false
namespace My
open PySem PySem.Spec PyProof.Rows L2
abbrev sLetter : Stmt := topS 46
abbrev sChance : Stmt := topS 47
abbrev sLikelier : Stmt := topS 48
abbrev sRatio : Stmt := topS 49
abbrev sApart : Stmt := topS 50
theorem scLetter : FnScope ["desk", "numbers", "source", "asked"] ["desk", "numbers"] (defScope sLetter) := ⟨rfl, rfl, rfl, by decide +kernel, rfl, by decide +kernel, by decide +kernel⟩
theorem scChance : FnScope ["desk", "numbers", "source", "word"] ["desk", "numbers"] (defScope sChance) := ⟨rfl, rfl, rfl, by decide +kernel, rfl, by decide +kernel, by decide +kernel⟩
theorem scLikelier : FnScope ["desk", "numbers", "compared"] ["desk", "numbers"] (defScope sLikelier) := ⟨rfl, rfl, rfl, by decide +kernel, rfl, by decide +kernel, by decide +kernel⟩
theorem scRatio : FnScope ["desk", "numbers", "compared"] ["desk", "numbers"] (defScope sRatio) := ⟨rfl, rfl, rfl, by decide +kernel, rfl, by decide +kernel, by decide +kernel⟩
theorem scApart : FnScope ["desk", "numbers", "length"] ["desk", "numbers"] (defScope sApart) := ⟨rfl, rfl, rfl, by decide +kernel, rfl, by decide +kernel, by decide +kernel⟩
/-! ### the mathematics of the answers -/
theorem letter_word {d : Kp385.Desk} (s l : Nat) : Kp385.letter d s l = Kp340.fr (wW (Kp385.source d s) [l]) (T (Kp385.source d s) ^ [l].length) := by
  rw [letter_fr]
  show _ = Kp340.fr (((Kp385.source d s).getD l 0 : Nat) * 1) (T (Kp385.source d s) ^ 1)
  rw [Int.mul_one, Int.pow_one]
theorem likelier_is {d : Kp385.Desk} (O : Ok d) (w : List Nat) : (if Kp346.ltF (Kp385.chance d 1 w) (Kp385.chance d 0 w) then (0 : Int) else if Kp346.ltF (Kp385.chance d 0 w) (Kp385.chance d 1 w) then 1 else 2) =
    if wW d.other w * T d.plain ^ w.length < wW d.plain w * T d.other ^ w.length then 0 else if wW d.plain w * T d.other ^ w.length < wW d.other w * T d.plain ^ w.length then 1 else 2 := by
  rw [chance_fr d 0 w O.tp, chance_fr d 1 w O.tq]
  show (if Kp346.ltF (Kp340.fr (wW d.other w) (T d.other ^ w.length)) (Kp340.fr (wW d.plain w) (T d.plain ^ w.length)) = true then (0 : Int) else if Kp346.ltF (Kp340.fr (wW d.plain w) (T d.plain ^ w.length)) (Kp340.fr (wW d.other w) (T d.other ^ w.length)) = true then 1 else 2) = _
  rw [fr_lt (ipow_pos O.tq _) (ipow_pos O.tp _), fr_lt (ipow_pos O.tp _) (ipow_pos O.tq _)]
  simp only [decide_eq_true_eq]
theorem ratio_zero {d : Kp385.Desk} (O : Ok d) (w : List Nat) : (Kp385.chance d 0 w).1 = 0 ↔ wW d.plain w * T d.other ^ w.length = 0 := by
  rw [chance_fr d 0 w O.tp]
  refine (fr_num_zero (ipow_pos O.tp _)).trans ?_
  have h := ipow_pos O.tq w.length
  show wW d.plain w = 0 ↔ _
  constructor
  · intro e
    rw [e, Int.zero_mul]
  · intro e
    rcases Int.mul_eq_zero.mp e with e | e
    · exact e
    · omega
theorem ratio_zero1 {d : Kp385.Desk} (O : Ok d) (w : List Nat) : (Kp385.chance d 1 w).1 = 0 ↔ wW d.other w * T d.plain ^ w.length = 0 := by
  rw [chance_fr d 1 w O.tq]
  refine (fr_num_zero (ipow_pos O.tq _)).trans ?_
  have h := ipow_pos O.tp w.length
  show wW d.other w = 0 ↔ _
  constructor
  · intro e
    rw [e, Int.zero_mul]
  · intro e
    rcases Int.mul_eq_zero.mp e with e | e
    · exact e
    · omega
theorem ratio_fr {d : Kp385.Desk} (O : Ok d) (w : List Nat) (h : wW d.plain w * T d.other ^ w.length ≠ 0) : Kp385.ratioOf d w = some (Kp340.fr (wW d.other w * T d.plain ^ w.length) (wW d.plain w * T d.other ^ w.length)) := by
  have h0 : ¬ (Kp385.chance d 0 w).1 = 0 := fun e => h ((ratio_zero O w).mp e)
  unfold Kp385.ratioOf
  dsimp only
  rw [if_neg h0]
  rw [chance_fr d 0 w O.tp] at h0 ⊢
  rw [chance_fr d 1 w O.tq]
  show some (Kp340.mul (Kp340.fr (wW d.other w) (T d.other ^ w.length)) (Kp340.fr (Kp340.fr (wW d.plain w) (T d.plain ^ w.length)).2 (Kp340.fr (wW d.plain w) (T d.plain ^ w.length)).1)) = _
  have h0 : ¬ (Kp340.fr (wW d.plain w) (T d.plain ^ w.length)).1 = 0 := h0
  have hA := ipow_pos O.tp w.length
  have hB := ipow_pos O.tq w.length
  have hp : 0 < wW d.plain w := by
    have := wW_nonneg d.plain w
    have : wW d.plain w ≠ 0 := fun e => h (by rw [e, Int.zero_mul])
    omega
  have hx := fr_cross (a := wW d.plain w) hA
  have hy := fr_den (a := wW d.plain w) hA
  have hs : ¬ (Kp340.fr (wW d.plain w) (T d.plain ^ w.length)).1 < 0 := fun z => by
    have := (fr_sign hA).mp z
    omega
  have e : Kp340.fr (Kp340.fr (wW d.plain w) (T d.plain ^ w.length)).2 (Kp340.fr (wW d.plain w) (T d.plain ^ w.length)).1 = Kp340.fr (T d.plain ^ w.length) (wW d.plain w) := by
    refine fr_eq (by omega) hp ?_
    rw [Int.mul_comm, ← hx, Int.mul_comm]
  rw [e, fr_mul hB hp]
  congr 2
  rw [Int.mul_comm]
theorem apart_far {d : Kp385.Desk} (O : Ok d) {n : Nat} (hn : n ≤ 6) : Kp385.apart d n = farF d.plain d.other n := by
  rw [apart_fr O hn]
  unfold farF
  rw [gapT_is O, Int.mul_pow, Int.mul_assoc]
theorem okW_ok {a : Nat} {l : List Nat} (h : okW a l = true) : l.length ≤ 6 ∧ ∀ x ∈ l, x < a := by
  unfold okW at h
  rw [Bool.and_eq_true] at h
  exact ⟨of_decide_eq_true h.1, fun x hx => of_decide_eq_true (List.all_eq_true.mp h.2 x hx)⟩
theorem two_long {xs : List Nat} (h : xs.length = 2) : ∃ x y, xs = [x, y] := by
  match xs, h with
  | [x, y], _ => exact ⟨x, y, rfl⟩
theorem cut_one (xs : List V) : cutV xs (some 1) none = xs.drop 1 := by
  cases xs with
  | nil => rfl
  | cons x r =>
    have e1 : HT.sIx (x :: r).length 0 (some 1) = 1 := (HT.sIx_nat _ 0 1).trans (Nat.min_eq_left (by simp))
    unfold cutV
    rw [e1, HT.sIx_none]
    exact List.take_of_length_le (by simp)
section
variable {P : Program} {w : World} {K : PySem.W.Frag} {mg : Str → Option Value} {base : Heap} {C : Addr}
/-- what the calls of the desk call -/
structure Words (K : PySem.W.Frag) (mg : Str → Option Value) : Prop where
  B : Bare mg
  c : Consts mg
  src : ∃ f fd, Def K mg "is_source" sIsSource ["row", "letters"] f fd
  wrd : ∃ f fd, Def K mg "is_word" sIsWord ["row", "letters"] f fd
  pow : ∃ f fd, Def K mg "power" sPower ["base", "times"] f fd
  fra : ∃ f fd, Def K mg "fraction" sFraction ["upper", "lower"] f fd
  wei : ∃ f fd, Def K mg "word_weight" sWeight ["weights", "word"] f fd
  cha : ∃ f fd, Def K mg "word_chance" sChanceW ["weights", "word"] f fd
  cmp : ∃ f fd, Def K mg "chances_compared" sCompared ["plain_weights", "other_weights", "word"] f fd
  lev : ∃ f fd, Def K mg "with_one_total" sWith ["plain_weights", "other_weights"] f fd
  sam : ∃ f fd, Def K mg "is_same_source" sSameSrc ["plain_weights", "other_weights"] f fd
  lon : ∃ f fd, Def K mg "one_letter_longer" sLonger ["many_of_pairs", "level"] f fd
  all : ∃ f fd, Def K mg "all_words" sAll ["plain_weights", "other_weights", "length"] f fd
  who : ∃ f fd, Def K mg "whole_of_words" sWhole ["plain_weights", "other_weights", "length"] f fd
  far : ∃ f fd, Def K mg "how_far_apart" sFar ["plain_weights", "other_weights", "length"] f fd
  err : ∃ f fd, Def K mg "how_often_best_errs" sErrsW ["plain_weights", "other_weights", "length"] f fd
  sai : ∃ f fd, Def K mg "how_many_said_other" sSaid ["plain_weights", "other_weights", "length"] f fd
  few : ∃ f fd, Def K mg "fewest_letters_apart" sFewest ["plain_weights", "other_weights", "hundredths"] f fd
  abo : ∃ f fd, Def K mg "chance_above" sAboveW ["plain_weights", "other_weights", "source", "length", "bound"] f fd
  cnt : ∃ f fd, Def K mg "weights_by_count" sCounts ["weights", "letter", "length"] f fd
  ala : ∃ f fd, Def K mg "chance_of_alarm" sAlarmW ["plain_weights", "letter", "least", "length"] f fd
  mis : ∃ f fd, Def K mg "chance_of_miss" sMissW ["other_weights", "letter", "least", "length"] f fd
  bes : ∃ f fd, Def K mg "best_told_test" sBest ["plain_weights", "other_weights", "length"] f fd
theorem Words.tabs (Wd : Words K mg) : Tabs K mg := ⟨Wd.B, Wd.pow, Wd.fra, Wd.lev, Wd.lon, Wd.all, Wd.who⟩
/-- [0] + a new list -/
theorem zero_cat {H H1 H2 : Hp} {Q : VK} {z t : Addr} {l : List Int} (q : NewL H Q (0 :: l)) (hl : l.length ≤ 1000) (s0 : Same H H1) (nz : H1 z = none) (s : Same (upd H1 z (.lst [.int 0])) H2) (ht : H2 t = some (.lst (iv l))) : rCat (.ref z) (.ref t) H2 Q := by
  refine ⟨z, t, _, _, rfl, rfl, s _ _ upd_same, ht, ?_, fun r nr => ?_⟩
  · rw [iv_len]
    show 1 + l.length ≤ 16777216
    omega
  · exact q _ r ((s0.trans (same_upd nz)).trans (s.trans (same_upd nr))) ((s0.trans (same_upd nz)).free (s.free nr)) upd_same
/-! ### letter -/
theorem ok_letter {f : Addr} {fd : FuncData} {k : Nat} (F : Fun K "letter" "letter" sLetter f fd) (Cl : ClsT K mg C) (Wd : Words K mg) :
    FnOk P w K mg base CX0 (k + 3) f fd ["desk", "numbers"] (spDo K C (fun xs => xs.length = 2) fun xs => .letter (xs.getD 0 0) (xs.getD 1 0)) := by
  obtain ⟨fC, fdC, DC⟩ := Wd.cha
  obtain ⟨fF, fdF, DF⟩ := Wd.fra
  obtain ⟨fW, fdW, DW⟩ := Wd.wei
  obtain ⟨fP, fdP, DP⟩ := Wd.pow
  have c := Wd.c
  have GC : FnOk P w K mg base CX0 (k + 2) fC fdC ["weights", "word"] (spChanceW K) := ok_chanceW DC.F Wd.B DF DW DP
  refine F.ok scLetter (fun vs H Q E h => ?_) (fun cdv A outer s H vs Q E hr h => ?_)
  · obtain ⟨a, b, o, d, xs, rfl, _⟩ := h
    rfl
  · obtain ⟨a, b, o, d, xs, rfl, hD, hb, hx, q⟩ := h
    obtain ⟨s, l, rfl⟩ := two_long hx
    refine ⟨_, pss_cons (ps_set (i := 2) scLetter.nd rfl (.inl rfl) (pe_ix ix_list (pv 1) pe_int (fun _ _ => rfl)))
      (pss_cons (ps_set (i := 3) scLetter.nd rfl (.inl rfl) (pe_ix ix_list (pv 1) pe_int (fun _ _ => rfl)))
      (pss_cons (ps_if (pt_cmpR op_gt (pv 2) (pe_num c.ot) (nomark _)) (pss_one (ps_ret (pe_lst (pa_cons (pe_num c.n22) pa_nil)))) pss_nil)
      (pss_cons (ps_if (pt_cmpR op_ge (pv 3) (pe_fld (pv 0) rfl) (nomark _)) (pss_one (ps_ret (pe_lst (pa_cons (pe_num c.n2) pa_nil)))) pss_nil)
      (pss_one (ps_ret (pe_op op_cat (pe_lst (pa_cons pe_int pa_nil)) (pe_call GC hr (by rfl) DC.g DC.F.kp DC.b .nil pass0 (pa_cons (pe_ix ix_list (pe_fld (pv 0) rfl) (pv 2) (fun _ _ => rfl)) (pa_cons (pe_lst (pa_cons (pv 3) pa_nil)) pa_nil))))))))), ?_⟩
    have q : NewL H Q (ansI (if 1 < s then Kp385.say (-22) else if d.a ≤ l then Kp385.say (-2) else Kp385.frRow (Kp385.letter d s l))) := q.new hD
    obtain ⟨dx, W, p, q0, L⟩ := hD
    refine ⟨_, rfl, b, _, 0, .int s, rfl, rfl, hb, rfl, _, rfl, b, _, 1, .int l, rfl, rfl, hb, rfl, _, rfl, _, _, rfl, rfl, _, rfl, ite2 (fun e => ?_) (fun e => ?_)⟩
    · have e1 : (1 : Int) < s := of_decide_eq_true e
      rw [if_pos (by omega)] at q
      exact ⟨(by show 1 ≤ sizeLine; decide), fun p hp => q.one hp⟩
    · have e1 : ¬ (1 : Int) < s := fun z => e (decide_eq_true z)
      rw [if_neg (by omega)] at q
      refine ⟨_, rfl, _, rfl, a, C, dx, _, _, rfl, L.o, Cl.cl, Cl.nL, dF_let _ _, _, _, rfl, rfl, _, rfl, ite2 (fun e => ?_) (fun e => ?_)⟩
      · have e2 : (d.a : Int) ≤ l := of_decide_eq_true e
        rw [if_pos (by omega)] at q
        exact ⟨(by show 1 ≤ sizeLine; decide), fun p hp => q.one hp⟩
      · have e2 : ¬ (d.a : Int) ≤ l := fun z => e (decide_eq_true z)
        rw [if_neg (by omega), letter_word] at q
        obtain ⟨r, hr1, hr2⟩ := L.at (s := s) (by omega)
        refine ⟨(by show 1 ≤ sizeLine; decide), fun z nz => ?_⟩
        have s1 := same_upd (o := .lst [.int 0]) nz
        refine ⟨_, rfl, a, C, dx, _, _, rfl, s1 _ _ L.o, Cl.cl, Cl.nW, dF_wei _ _, _, rfl, W, _, _, _, rfl, rfl, SqL.of (s1 _ _ L.w), hr1, ?_⟩
        refine ⟨_, rfl, (by show 1 ≤ sizeLine; decide), fun y ny => ?_⟩
        have s2 := same_upd (o := .lst [.int l]) ny
        refine ⟨r, y, d.a, Kp385.source d s, [l], rfl, SqL.of (s2 _ _ (s1 _ _ hr2)), SqL.of upd_same, L.ok.src s, ?_, (by show 1 ≤ 6; decide), fun H3 t s3 nt et => ?_⟩
        · intro x hx
          rw [List.mem_singleton.mp hx]
          omega
        · exact zero_cat q (by show 2 ≤ 1000; decide) (Same.refl _) nz (s2.trans s3) et
/-! ### chance -/
theorem cons_long {xs : List Nat} (h : 1 ≤ xs.length) : ∃ x r, xs = x :: r := by
  match xs, h with
  | x :: r, _ => exact ⟨x, r, rfl⟩
theorem ok_chance {f : Addr} {fd : FuncData} {k : Nat} (F : Fun K "chance" "chance" sChance f fd) (Cl : ClsT K mg C) (Wd : Words K mg) :
    FnOk P w K mg base CX0 (k + 3) f fd ["desk", "numbers"] (spDo K C (fun xs => 1 ≤ xs.length) fun xs => .chance (xs.getD 0 0) (xs.drop 1)) := by
  obtain ⟨fC, fdC, DC⟩ := Wd.cha
  obtain ⟨fF, fdF, DF⟩ := Wd.fra
  obtain ⟨fW, fdW, DW⟩ := Wd.wei
  obtain ⟨fP, fdP, DP⟩ := Wd.pow
  obtain ⟨fI, fdI, DI⟩ := Wd.wrd
  have c := Wd.c
  have GC : FnOk P w K mg base CX0 (k + 2) fC fdC ["weights", "word"] (spChanceW K) := ok_chanceW DC.F Wd.B DF DW DP
  have GI : FnOk P w K mg base CX0 (k + 2) fI fdI ["row", "letters"] (spIsWord K) := ok_isWord DI.F Wd.B c.w6
  refine F.ok scChance (fun vs H Q E h => ?_) (fun cdv A outer s H vs Q E hr h => ?_)
  · obtain ⟨a, b, o, d, xs, rfl, _⟩ := h
    rfl
  · obtain ⟨a, b, o, d, xs, rfl, hD, hb, hx, q⟩ := h
    obtain ⟨s, v, rfl⟩ := cons_long hx
    refine ⟨_, pss_cons (ps_set (i := 2) scChance.nd rfl (.inl rfl) (pe_ix ix_list (pv 1) pe_int (fun _ _ => rfl)))
      (pss_cons (ps_set (i := 3) scChance.nd rfl (.inl rfl) (pe_slice sl_list (pv 1) (po_some pe_int) po_none))
      (pss_cons (ps_if (PW.pt (pw_or (pt_cmpR op_gt (pv 2) (pe_num c.ot) (nomark _)) (pw_or1 (pt_not (pt_val (pe_call GI hr (by rfl) DI.g DI.F.kp DI.b .nil pass0 (pa_cons (pv 3) (pa_cons (pe_fld (pv 0) rfl) pa_nil)))))))) (pss_one (ps_ret (pe_lst (pa_cons (pe_num c.n22) pa_nil)))) pss_nil)
      (pss_one (ps_ret (pe_op op_cat (pe_lst (pa_cons pe_int pa_nil)) (pe_call GC hr (by rfl) DC.g DC.F.kp DC.b .nil pass0 (pa_cons (pe_ix ix_list (pe_fld (pv 0) rfl) (pv 2) (fun _ _ => rfl)) (pa_cons (pv 3) pa_nil)))))))), ?_⟩
    have q : NewL H Q (ansI (if 1 < s ∨ okW d.a v = false then Kp385.say (-22) else Kp385.frRow (Kp385.chance d s v))) := q.new hD
    obtain ⟨dx, W, p, q0, L⟩ := hD
    refine ⟨_, rfl, b, _, 0, .int s, rfl, rfl, hb, atI_nat (j := 0) rfl, _, rfl, 1, rfl, b, _, rfl, hb, fun y ny => ?_⟩
    have ey : cutV (nv (s :: v)) (some 1) none = nv v := cut_one _
    rw [ey]
    have s1 := same_upd (o := .lst (nv v)) ny
    have hy : (upd H y (.lst (nv v))) y = some (.lst (nv v)) := upd_same
    generalize upd H y (.lst (nv v)) = H1 at s1 hy ⊢
    have hno : (1 < s ∨ okW d.a v = false) → ∀ {H2 : Hp}, Same H H2 → ∀ {p : Addr}, H2 p = none → Q (.ref p) (upd H2 p (.lst [.int (-22)])) := fun hn H2 s2 p hp => by
      rw [if_pos hn] at q
      exact q _ p (s2.trans (same_upd hp)) (s2.free hp) upd_same
    refine ⟨_, rfl, _, _, rfl, rfl, _, rfl, ite2 (fun e => ?_) (fun e => ?_)⟩
    · have e1 : (1 : Int) < s := of_decide_eq_true e
      exact iteT ⟨(by show 1 ≤ sizeLine; decide), fun p hp => hno (.inl (by omega)) s1 hp⟩
    · have e1 : ¬ (1 : Int) < s := fun z => e (decide_eq_true z)
      refine ⟨_, rfl, _, rfl, a, C, dx, _, _, rfl, s1 _ _ L.o, Cl.cl, Cl.nL, dF_let _ _, y, d.a, v, rfl, SqL.of hy, fun H2 s2 => ⟨_, rfl, ?_⟩⟩
      cases hk : okW d.a v with
      | false =>
        exact iteT ⟨(by show 1 ≤ sizeLine; decide), fun p hp => hno (.inr hk) (s1.trans s2) hp⟩
      | true =>
        rw [if_neg (by rw [hk]; simp; omega), chance_fr d s v (L.ok.ts s)] at q
        obtain ⟨r, hr1, hr2⟩ := L.at (s := s) (by omega)
        have s12 := s1.trans s2
        refine iteF ⟨(by show 1 ≤ sizeLine; decide), fun z nz => ?_⟩
        have s3 := same_upd (o := .lst [.int 0]) nz
        have s13 := s12.trans s3
        refine ⟨_, rfl, a, C, dx, _, _, rfl, s13 _ _ L.o, Cl.cl, Cl.nW, dF_wei _ _, _, rfl, W, _, _, _, rfl, rfl, SqL.of (s13 _ _ L.w), hr1, _, rfl, ?_⟩
        refine ⟨r, y, d.a, Kp385.source d s, v, rfl, SqL.of (s13 _ _ hr2), SqL.of (s3 _ _ (s2 _ _ hy)), L.ok.src s, (okW_ok hk).2, (okW_ok hk).1, fun H3 t s4 nt et => ?_⟩
        exact zero_cat q (by show 2 ≤ 1000; decide) s12 nz s4 et
end
end My
set_option Elab.async false
set_option maxRecDepth 100000
set_option maxHeartbeats 2000000
set_option linter.unusedVariables false
namespace My
open PySem PySem.Spec PyProof.Rows L2
section
variable {P : Program} {w : World} {K : PySem.W.Frag} {mg : Str → Option Value} {base : Heap} {C : Addr}
/-! ### likelier -/
theorem ok_likelier {f : Addr} {fd : FuncData} {k : Nat} (F : Fun K "likelier" "likelier" sLikelier f fd) (Cl : ClsT K mg C) (Wd : Words K mg) :
    FnOk P w K mg base CX0 (k + 3) f fd ["desk", "numbers"] (spDo K C (fun _ => True) .likelier) := by
  obtain ⟨fC, fdC, DC⟩ := Wd.cmp
  obtain ⟨fW, fdW, DW⟩ := Wd.wei
  obtain ⟨fL, fdL, DL⟩ := Wd.lev
  obtain ⟨fI, fdI, DI⟩ := Wd.wrd
  have c := Wd.c
  have GC : FnOk P w K mg base CX0 (k + 2) fC fdC ["plain_weights", "other_weights", "word"] (spCompared K) := ok_compared DC.F Wd.B DW DL
  have GI : FnOk P w K mg base CX0 (k + 2) fI fdI ["row", "letters"] (spIsWord K) := ok_isWord DI.F Wd.B c.w6
  refine F.ok scLikelier (fun vs H Q E h => ?_) (fun cdv A outer s H vs Q E hr h => ?_)
  · obtain ⟨a, b, o, d, xs, rfl, _⟩ := h
    rfl
  · obtain ⟨a, b, o, d, v, rfl, hD, hb, _, q⟩ := h
    refine ⟨_, pss_cons (ps_if (pt_not (pt_val (pe_call GI hr (by rfl) DI.g DI.F.kp DI.b .nil pass0 (pa_cons (pv 1) (pa_cons (pe_fld (pv 0) rfl) pa_nil))))) (pss_one (ps_ret (pe_lst (pa_cons (pe_num c.n22) pa_nil)))) pss_nil)
      (pss_cons (ps_set (i := 2) scLikelier.nd rfl (.inl rfl) (pe_call GC hr (by rfl) DC.g DC.F.kp DC.b .nil pass0 (pa_cons (pe_ix ix_list (pe_fld (pv 0) rfl) (pe_num c.pl) (fun _ _ => rfl)) (pa_cons (pe_ix ix_list (pe_fld (pv 0) rfl) (pe_num c.ot) (fun _ _ => rfl)) (pa_cons (pv 1) pa_nil)))))
      (pss_cons (ps_if (pt_cmpR op_gt (pe_ix ix_tup (pv 2) (pe_num c.pl) (fun _ _ => rfl)) (pe_ix ix_tup (pv 2) (pe_num c.ot) (fun _ _ => rfl)) (nomark _)) (pss_one (ps_ret (pe_lst (pa_cons pe_int pa_nil)))) pss_nil)
      (pss_cons (ps_if (pt_cmpR op_gt (pe_ix ix_tup (pv 2) (pe_num c.ot) (fun _ _ => rfl)) (pe_ix ix_tup (pv 2) (pe_num c.pl) (fun _ _ => rfl)) (nomark _)) (pss_one (ps_ret (pe_lst (pa_cons pe_int pa_nil)))) pss_nil)
      (pss_one (ps_ret (pe_lst (pa_cons pe_int pa_nil))))))), ?_⟩
    have q : NewL H Q (ansI (if okW d.a v = false then Kp385.say (-22) else Kp385.say (if Kp346.ltF (Kp385.chance d 1 v) (Kp385.chance d 0 v) then 0 else if Kp346.ltF (Kp385.chance d 0 v) (Kp385.chance d 1 v) then 1 else 2))) := q.new hD
    obtain ⟨dx, W, p, q0, L⟩ := hD
    refine ⟨_, rfl, _, rfl, a, C, dx, _, _, rfl, L.o, Cl.cl, Cl.nL, dF_let _ _, b, d.a, v, rfl, hb, fun H1 s1 => ⟨_, rfl, ?_⟩⟩
    have done : ∀ {H2 : Hp}, Same H1 H2 → ∀ {p : Addr} {x : Int}, ansI (if okW d.a v = false then Kp385.say (-22) else Kp385.say (if Kp346.ltF (Kp385.chance d 1 v) (Kp385.chance d 0 v) then 0 else if Kp346.ltF (Kp385.chance d 0 v) (Kp385.chance d 1 v) then 1 else 2)) = [x] → H2 p = none → Q (.ref p) (upd H2 p (.lst [.int x])) := by
      intro H2 s2 p x e hp
      rw [e] at q
      exact q _ p ((s1.trans s2).trans (same_upd hp)) ((s1.trans s2).free hp) upd_same
    cases hk : okW d.a v with
    | false => exact iteT ⟨(by show 1 ≤ sizeLine; decide), fun p hp => done (Same.refl _) (by rw [hk]; rfl) hp⟩
    | true =>
      rw [hk] at done
      have eL := likelier_is L.ok v
      refine iteF ⟨_, rfl, a, C, dx, _, _, rfl, s1 _ _ L.o, Cl.cl, Cl.nW, dF_wei _ _, W, _, 0, .ref p, rfl, rfl, SqL.of (s1 _ _ L.w), rfl, _, rfl, a, C, dx, _, _, rfl, s1 _ _ L.o, Cl.cl, Cl.nW, dF_wei _ _, W, _, 1, .ref q0, rfl, rfl, SqL.of (s1 _ _ L.w), rfl, _, rfl, ?_⟩
      refine ⟨p, q0, b, d.a, d.plain, d.other, v, rfl, SqL.of (s1 _ _ L.pl), SqL.of (s1 _ _ L.ot), s1.seq hb, L.ok.src 0, L.ok.src 1, (okW_ok hk).2, (okW_ok hk).1, fun H2 t s2 nt et => ?_⟩
      refine ⟨_, rfl, t, _, 0, _, rfl, rfl, SqT.of et, rfl, _, rfl, t, _, 1, _, rfl, rfl, SqT.of et, rfl, _, _, rfl, rfl, _, rfl, ite2 (fun e => ?_) (fun e => ?_)⟩
      · refine ⟨(by show 1 ≤ sizeLine; decide), fun p hp => done s2 ?_ hp⟩
        show [_] = _
        rw [if_neg (by decide)]
        show [(if _ then (0 : Int) else _)] = _
        rw [eL, if_pos (of_decide_eq_true e)]
      · refine ⟨_, rfl, t, _, 1, _, rfl, rfl, SqT.of et, rfl, _, rfl, t, _, 0, _, rfl, rfl, SqT.of et, rfl, _, _, rfl, rfl, _, rfl, ite2 (fun e' => ?_) (fun e' => ?_)⟩
        · refine ⟨(by show 1 ≤ sizeLine; decide), fun p hp => done s2 ?_ hp⟩
          rw [if_neg (by decide)]
          show [(if _ then (0 : Int) else _)] = _
          rw [eL, if_neg (fun z => e (decide_eq_true z)), if_pos (of_decide_eq_true e')]
        · refine ⟨(by show 1 ≤ sizeLine; decide), fun p hp => done s2 ?_ hp⟩
          rw [if_neg (by decide)]
          show [(if _ then (0 : Int) else _)] = _
          rw [eL, if_neg (fun z => e (decide_eq_true z)), if_neg (fun z => e' (decide_eq_true z))]
/-! ### ratio -/
theorem ok_ratio {f : Addr} {fd : FuncData} {k : Nat} (F : Fun K "ratio" "ratio" sRatio f fd) (Cl : ClsT K mg C) (Wd : Words K mg) :
    FnOk P w K mg base CX0 (k + 3) f fd ["desk", "numbers"] (spDo K C (fun _ => True) .ratio) := by
  obtain ⟨fC, fdC, DC⟩ := Wd.cmp
  obtain ⟨fF, fdF, DF⟩ := Wd.fra
  obtain ⟨fW, fdW, DW⟩ := Wd.wei
  obtain ⟨fL, fdL, DL⟩ := Wd.lev
  obtain ⟨fI, fdI, DI⟩ := Wd.wrd
  have c := Wd.c
  have GC : FnOk P w K mg base CX0 (k + 2) fC fdC ["plain_weights", "other_weights", "word"] (spCompared K) := ok_compared DC.F Wd.B DW DL
  have GF : FnOk P w K mg base CX0 (k + 2) fF fdF ["upper", "lower"] spFraction := ok_fraction DF.F
  have GI : FnOk P w K mg base CX0 (k + 2) fI fdI ["row", "letters"] (spIsWord K) := ok_isWord DI.F Wd.B c.w6
  refine F.ok scRatio (fun vs H Q E h => ?_) (fun cdv A outer s H vs Q E hr h => ?_)
  · obtain ⟨a, b, o, d, xs, rfl, _⟩ := h
    rfl
  · obtain ⟨a, b, o, d, v, rfl, hD, hb, _, q⟩ := h
    refine ⟨_, pss_cons (ps_if (pt_not (pt_val (pe_call GI hr (by rfl) DI.g DI.F.kp DI.b .nil pass0 (pa_cons (pv 1) (pa_cons (pe_fld (pv 0) rfl) pa_nil))))) (pss_one (ps_ret (pe_lst (pa_cons (pe_num c.n22) pa_nil)))) pss_nil)
      (pss_cons (ps_set (i := 2) scRatio.nd rfl (.inl rfl) (pe_call GC hr (by rfl) DC.g DC.F.kp DC.b .nil pass0 (pa_cons (pe_ix ix_list (pe_fld (pv 0) rfl) (pe_num c.pl) (fun _ _ => rfl)) (pa_cons (pe_ix ix_list (pe_fld (pv 0) rfl) (pe_num c.ot) (fun _ _ => rfl)) (pa_cons (pv 1) pa_nil)))))
      (pss_cons (ps_if (PW.pt (pw_and (pt_cmpR op_eq (pe_ix ix_tup (pv 2) (pe_num c.pl) (fun _ _ => rfl)) pe_int (nomark _)) (pw_and1 (pt_cmpR op_eq (pe_ix ix_tup (pv 2) (pe_num c.ot) (fun _ _ => rfl)) pe_int (nomark _))))) (pss_one (ps_ret (pe_lst (pa_cons (pe_num c.n6) pa_nil)))) pss_nil)
      (pss_cons (ps_if (pt_cmpR op_eq (pe_ix ix_tup (pv 2) (pe_num c.pl) (fun _ _ => rfl)) pe_int (nomark _)) (pss_one (ps_ret (pe_lst (pa_cons (pe_num c.n33) pa_nil)))) pss_nil)
      (pss_one (ps_ret (pe_op op_cat (pe_lst (pa_cons pe_int pa_nil)) (pe_call GF hr (by rfl) DF.g DF.F.kp DF.b .nil pass0 (pa_cons (pe_ix ix_tup (pv 2) (pe_num c.ot) (fun _ _ => rfl)) (pa_cons (pe_ix ix_tup (pv 2) (pe_num c.pl) (fun _ _ => rfl)) pa_nil))))))))), ?_⟩
    have q : NewL H Q (ansI (if okW d.a v = false then Kp385.say (-22) else match Kp385.ratioOf d v with
        | none => if (Kp385.chance d 1 v).1 = 0 then Kp385.say (-6) else Kp385.say (-33)
        | some x => Kp385.frRow x)) := q.new hD
    obtain ⟨dx, W, p, q0, L⟩ := hD
    refine ⟨_, rfl, _, rfl, a, C, dx, _, _, rfl, L.o, Cl.cl, Cl.nL, dF_let _ _, b, d.a, v, rfl, hb, fun H1 s1 => ⟨_, rfl, ?_⟩⟩
    have done : ∀ {H2 : Hp}, Same H1 H2 → ∀ {p : Addr} {x : Int}, NewL H Q [x] → H2 p = none → Q (.ref p) (upd H2 p (.lst [.int x])) := by
      intro H2 s2 p x q hp
      exact q _ p ((s1.trans s2).trans (same_upd hp)) ((s1.trans s2).free hp) upd_same
    cases hk : okW d.a v with
    | false =>
      rw [hk, if_pos rfl] at q
      exact iteT ⟨(by show 1 ≤ sizeLine; decide), fun p hp => done (Same.refl _) q hp⟩
    | true =>
      rw [hk, if_neg (by decide)] at q
      refine iteF ⟨_, rfl, a, C, dx, _, _, rfl, s1 _ _ L.o, Cl.cl, Cl.nW, dF_wei _ _, W, _, 0, .ref p, rfl, rfl, SqL.of (s1 _ _ L.w), rfl, _, rfl, a, C, dx, _, _, rfl, s1 _ _ L.o, Cl.cl, Cl.nW, dF_wei _ _, W, _, 1, .ref q0, rfl, rfl, SqL.of (s1 _ _ L.w), rfl, _, rfl, ?_⟩
      refine ⟨p, q0, b, d.a, d.plain, d.other, v, rfl, SqL.of (s1 _ _ L.pl), SqL.of (s1 _ _ L.ot), s1.seq hb, L.ok.src 0, L.ok.src 1, (okW_ok hk).2, (okW_ok hk).1, fun H2 t s2 nt et => ?_⟩
      have z0 := ratio_zero L.ok v
      have z1 := ratio_zero1 L.ok v
      have second : wW d.plain v * T d.other ^ v.length = 0 → ¬ wW d.other v * T d.plain ^ v.length = 0 → NewL H Q [-33] := fun e0 e1 => by
        have : Kp385.ratioOf d v = none := if_pos (z0.mpr e0)
        rw [this] at q
        dsimp only at q
        rw [if_neg (fun z => e1 (z1.mp z))] at q
        exact q
      have rest : ¬ wW d.plain v * T d.other ^ v.length = 0 → NewL H Q (0 :: frI (Kp340.fr (wW d.other v * T d.plain ^ v.length) (wW d.plain v * T d.other ^ v.length))) := fun e0 => by
        rw [ratio_fr L.ok v e0] at q
        exact q
      have goOn : ¬ wW d.plain v * T d.other ^ v.length = 0 → ∀ (z : Addr), H2 z = none → spFraction [.int (wW d.other v * T d.plain ^ v.length), .int (wW d.plain v * T d.other ^ v.length)] (upd H2 z (.lst [.int 0])) (fun y H3 => rCat (.ref z) y H3 Q) E0 := fun e0 z nz => by
        have hA := ipow_pos L.ok.tp v.length
        have hB := (L.ok.src 1).pow_lt (okW_ok hk).1
        have hB1 : 0 < T d.other ^ v.length := hB.1
        have hB2 : T d.other ^ v.length ≤ 2176782336 := hB.2
        have h0 := wW_nonneg d.plain v
        have h1 := wW_nonneg d.other v
        have hle := wW_le L.ok.bp v
        have h9 : (9 : Int) ^ v.length ≤ 9 ^ 6 := by
          have := (okW_ok hk).1
          have : v.length = 0 ∨ v.length = 1 ∨ v.length = 2 ∨ v.length = 3 ∨ v.length = 4 ∨ v.length = 5 ∨ v.length = 6 := by omega
          rcases this with e | e | e | e | e | e | e <;> rw [e] <;> decide
        have h96 : (9 : Int) ^ 6 = 531441 := by decide
        have hp : 0 ≤ wW d.plain v * T d.other ^ v.length := Int.mul_nonneg h0 (by omega)
        have hm : wW d.plain v * T d.other ^ v.length ≤ 531441 * 2176782336 := Int.mul_le_mul (by omega) hB2 (by omega) (by omega)
        refine ⟨_, _, rfl, Int.mul_nonneg h1 (by omega), by omega, Nat.lt_of_lt_of_le (show _ < 2 ^ 80 by omega) (Nat.pow_le_pow_right (by decide) (by decide)), fun H3 r s3 nr er => ?_⟩
        exact zero_cat (rest e0) (by show 2 ≤ 1000; decide) (s1.trans s2) nz s3 er
      refine ⟨_, rfl, t, _, 0, _, rfl, rfl, SqT.of et, rfl, rfl, _, rfl, ite2 (fun e => ?_) (fun e => ?_)⟩
      · have e0 : wW d.plain v * T d.other ^ v.length = 0 := V.int.inj (of_decide_eq_true e)
        refine ⟨_, rfl, t, _, 1, _, rfl, rfl, SqT.of et, rfl, rfl, _, rfl, ite2 (fun e' => ?_) (fun e' => ?_)⟩
        · have e1 : wW d.other v * T d.plain ^ v.length = 0 := V.int.inj (of_decide_eq_true e')
          have : Kp385.ratioOf d v = none := if_pos (z0.mpr e0)
          rw [this] at q
          dsimp only at q
          rw [if_pos (z1.mpr e1)] at q
          exact ⟨(by show 1 ≤ sizeLine; decide), fun p hp => done s2 q hp⟩
        · have e1 : ¬ wW d.other v * T d.plain ^ v.length = 0 := fun z => e' (decide_eq_true (congrArg V.int z))
          refine ⟨_, rfl, t, _, 0, _, rfl, rfl, SqT.of et, rfl, rfl, _, rfl, ?_⟩
          refine ite2 (fun _ => ⟨(by show 1 ≤ sizeLine; decide), fun p hp => done s2 (second e0 e1) hp⟩) (fun n => absurd e n)
      · have e0 : ¬ wW d.plain v * T d.other ^ v.length = 0 := fun z => e (decide_eq_true (congrArg V.int z))
        refine iteF ⟨_, rfl, t, _, 0, _, rfl, rfl, SqT.of et, rfl, rfl, _, rfl, ite2 (fun z => absurd z e) (fun _ => ?_)⟩
        refine ⟨(by show 1 ≤ sizeLine; decide), fun z nz => ?_⟩
        have s3 := same_upd (o := .lst [.int 0]) nz
        exact ⟨_, rfl, t, _, 1, _, rfl, rfl, SqT.of (s3 _ _ et), rfl, _, rfl, t, _, 0, _, rfl, rfl, SqT.of (s3 _ _ et), rfl, goOn e0 z nz⟩
/-! ### apart -/
theorem ok_apart {f : Addr} {fd : FuncData} {k : Nat} (F : Fun K "apart" "apart" sApart f fd) (Cl : ClsT K mg C) (Wd : Words K mg) :
    FnOk P w K mg base CX0 (k + 4) f fd ["desk", "numbers"] (spDo K C (fun xs => xs.length = 1) fun xs => .apart (xs.getD 0 0)) := by
  obtain ⟨fC, fdC, DC⟩ := Wd.far
  have c := Wd.c
  have GC : FnOk P w K mg base CX0 (k + 3) fC fdC ["plain_weights", "other_weights", "length"] (spFar K) := ok_far DC.F Wd.tabs
  refine F.ok scApart (fun vs H Q E h => ?_) (fun cdv A outer s H vs Q E hr h => ?_)
  · obtain ⟨a, b, o, d, xs, rfl, _⟩ := h
    rfl
  · obtain ⟨a, b, o, d, xs, rfl, hD, hb, hx, q⟩ := h
    obtain ⟨n, rfl⟩ := one_long hx
    refine ⟨_, pss_cons (ps_set (i := 2) scApart.nd rfl (.inl rfl) (pe_ix ix_list (pv 1) pe_int (fun _ _ => rfl)))
      (pss_cons (ps_if (pt_cmpR op_gt (pv 2) (pe_num c.w6) (nomark _)) (pss_one (ps_ret (pe_lst (pa_cons (pe_num c.n22) pa_nil)))) pss_nil)
      (pss_one (ps_ret (pe_op op_cat (pe_lst (pa_cons pe_int pa_nil)) (pe_call GC hr (by rfl) DC.g DC.F.kp DC.b .nil pass0 (pa_cons (pe_ix ix_list (pe_fld (pv 0) rfl) (pe_num c.pl) (fun _ _ => rfl)) (pa_cons (pe_ix ix_list (pe_fld (pv 0) rfl) (pe_num c.ot) (fun _ _ => rfl)) (pa_cons (pv 2) pa_nil)))))))), ?_⟩
    have q : NewL H Q (ansI (if 6 < n then Kp385.say (-22) else Kp385.frRow (Kp385.apart d n))) := q.new hD
    obtain ⟨dx, W, p, q0, L⟩ := hD
    refine ⟨_, rfl, b, _, 0, .int n, rfl, rfl, hb, rfl, _, rfl, _, _, rfl, rfl, _, rfl, ite2 (fun e => ?_) (fun e => ?_)⟩
    · have e1 : (6 : Int) < n := of_decide_eq_true e
      rw [if_pos (by omega)] at q
      exact ⟨(by show 1 ≤ sizeLine; decide), fun p hp => q.one hp⟩
    · have e1 : ¬ (6 : Int) < n := fun z => e (decide_eq_true z)
      have hn : n ≤ 6 := by omega
      rw [if_neg (by omega), apart_far L.ok hn] at q
      refine ⟨(by show 1 ≤ sizeLine; decide), fun z nz => ?_⟩
      have s1 := same_upd (o := .lst [.int 0]) nz
      refine ⟨_, rfl, a, C, dx, _, _, rfl, s1 _ _ L.o, Cl.cl, Cl.nW, dF_wei _ _, W, _, 0, .ref p, rfl, rfl, SqL.of (s1 _ _ L.w), rfl, _, rfl, a, C, dx, _, _, rfl, s1 _ _ L.o, Cl.cl, Cl.nW, dF_wei _ _, W, _, 1, .ref q0, rfl, rfl, SqL.of (s1 _ _ L.w), rfl, _, rfl, ?_⟩
      refine ⟨p, q0, d.a, n, d.plain, d.other, rfl, SqL.of (s1 _ _ L.pl), SqL.of (s1 _ _ L.ot), L.ok.src 0, L.ok.src 1, hn, fun H3 t s3 nt et => ?_⟩
      exact zero_cat q (by show 2 ≤ 1000; decide) (Same.refl _) nz s3 et
end
end My
set_option Elab.async false
set_option maxRecDepth 100000
set_option maxHeartbeats 2000000
set_option linter.unusedVariables false
namespace My
open PySem PySem.Spec PyProof.Rows L2
abbrev sErrs : Stmt := topS 51
abbrev sNeeded : Stmt := topS 52
abbrev sRefusal : Stmt := topS 53
abbrev sAlarms : Stmt := topS 54
abbrev sMisses : Stmt := topS 55
abbrev sBesttold : Stmt := topS 56
abbrev sIsBound : Stmt := topS 57
abbrev sAbove : Stmt := topS 58
abbrev sSays : Stmt := topS 59
abbrev sIfplain : Stmt := topS 60
abbrev sSamesource : Stmt := topS 61
abbrev sCount : Stmt := topS 62
theorem scErrs : FnScope ["desk", "numbers", "length"] ["desk", "numbers"] (defScope sErrs) := ⟨rfl, rfl, rfl, by decide +kernel, rfl, by decide +kernel, by decide +kernel⟩
theorem scNeeded : FnScope ["desk", "numbers", "hundredths", "length"] ["desk", "numbers"] (defScope sNeeded) := ⟨rfl, rfl, rfl, by decide +kernel, rfl, by decide +kernel, by decide +kernel⟩
theorem scRefusal : FnScope ["desk", "asked", "length"] ["desk", "asked", "length"] (defScope sRefusal) := ⟨rfl, rfl, rfl, by decide +kernel, rfl, by decide +kernel, by decide +kernel⟩
theorem scAlarms : FnScope ["desk", "numbers", "refusal"] ["desk", "numbers"] (defScope sAlarms) := ⟨rfl, rfl, rfl, by decide +kernel, rfl, by decide +kernel, by decide +kernel⟩
theorem scMisses : FnScope ["desk", "numbers", "refusal"] ["desk", "numbers"] (defScope sMisses) := ⟨rfl, rfl, rfl, by decide +kernel, rfl, by decide +kernel, by decide +kernel⟩
theorem scBesttold : FnScope ["desk", "numbers", "length"] ["desk", "numbers"] (defScope sBesttold) := ⟨rfl, rfl, rfl, by decide +kernel, rfl, by decide +kernel, by decide +kernel⟩
theorem scIsBound : FnScope ["upper", "lower"] ["upper", "lower"] (defScope sIsBound) := ⟨rfl, rfl, rfl, by decide +kernel, rfl, by decide +kernel, by decide +kernel⟩
theorem scAbove : FnScope ["desk", "numbers", "source", "length", "bound"] ["desk", "numbers"] (defScope sAbove) := ⟨rfl, rfl, rfl, by decide +kernel, rfl, by decide +kernel, by decide +kernel⟩
theorem scSays : FnScope ["desk", "numbers", "length"] ["desk", "numbers"] (defScope sSays) := ⟨rfl, rfl, rfl, by decide +kernel, rfl, by decide +kernel, by decide +kernel⟩
theorem scIfplain : FnScope ["desk", "numbers", "length", "row"] ["desk", "numbers"] (defScope sIfplain) := ⟨rfl, rfl, rfl, by decide +kernel, rfl, by decide +kernel, by decide +kernel⟩
theorem scSamesource : FnScope ["desk", "numbers"] ["desk", "numbers"] (defScope sSamesource) := ⟨rfl, rfl, rfl, by decide +kernel, rfl, by decide +kernel, by decide +kernel⟩
theorem scCount : FnScope ["desk", "numbers"] ["desk", "numbers"] (defScope sCount) := ⟨rfl, rfl, rfl, by decide +kernel, rfl, by decide +kernel, by decide +kernel⟩
theorem three_long {xs : List Nat} (h : xs.length = 3) : ∃ x y z, xs = [x, y, z] := by
  match xs, h with
  | [x, y, z], _ => exact ⟨x, y, z, rfl⟩
theorem four_long {xs : List Nat} (h : xs.length = 4) : ∃ x y z u, xs = [x, y, z, u] := by
  match xs, h with
  | [x, y, z, u], _ => exact ⟨x, y, z, u, rfl⟩
theorem two_pow_small {d : Kp385.Desk} (O : Ok d) {n : Nat} (hn : n ≤ 6) : 2 * T d.plain ^ n * T d.other ^ n ≤ 4738381338321616896 * 2 := by
  have h := (whole_small (O.src 0) (O.src 1) hn).2
  have h : (T d.plain * T d.other) ^ n ≤ 4738381338321616896 := h
  rw [Int.mul_pow] at h
  rw [Int.mul_assoc]
  omega
theorem find_congr {p q : Nat → Bool} : ∀ {l : List Nat}, (∀ x ∈ l, p x = q x) → l.find? p = l.find? q
  | [], _ => rfl
  | x :: l, h => by
    rw [List.find?_cons, List.find?_cons, h x List.mem_cons_self, find_congr fun y hy => h y (List.mem_cons_of_mem _ hy)]
theorem needed_is {d : Kp385.Desk} (O : Ok d) (x : Nat) : ((List.range 7).find? fun n => !Kp346.ltF (Kp385.apart d n) (Kp340.fr (x : Nat) 100)) = (List.range 7).find? (farEnough d.plain d.other x) := by
  refine find_congr fun n hn => ?_
  have hn := List.mem_range.mp hn
  have hp := (whole_small (O.src 0) (O.src 1) (n := n) (by omega)).1
  have hp : 0 < (T d.plain * T d.other) ^ n := hp
  have h2 : 0 < 2 * (T d.plain * T d.other) ^ n := by omega
  rw [apart_far O (by omega)]
  unfold farEnough farF
  exact lt_far (fr_den h2) (fr_fr h2)
section
variable {P : Program} {w : World} {K : PySem.W.Frag} {mg : Str → Option Value} {base : Heap} {C : Addr}
/-! ### errs -/
theorem ok_errs {f : Addr} {fd : FuncData} {k : Nat} (F : Fun K "errs" "errs" sErrs f fd) (Cl : ClsT K mg C) (Wd : Words K mg) :
    FnOk P w K mg base CX0 (k + 5) f fd ["desk", "numbers"] (spDo K C (fun xs => xs.length = 1) fun xs => .errs (xs.getD 0 0)) := by
  obtain ⟨fC, fdC, DC⟩ := Wd.err
  obtain ⟨fR, fdR, DR⟩ := Wd.far
  have c := Wd.c
  have GC : FnOk P w K mg base CX0 (k + 4) fC fdC ["plain_weights", "other_weights", "length"] (spErrsW K) := ok_errsW DC.F Wd.tabs DR
  refine F.ok scErrs (fun vs H Q E h => ?_) (fun cdv A outer s H vs Q E hr h => ?_)
  · obtain ⟨a, b, o, d, xs, rfl, _⟩ := h
    rfl
  · obtain ⟨a, b, o, d, xs, rfl, hD, hb, hx, q⟩ := h
    obtain ⟨n, rfl⟩ := one_long hx
    refine ⟨_, pss_cons (ps_set (i := 2) scErrs.nd rfl (.inl rfl) (pe_ix ix_list (pv 1) pe_int (fun _ _ => rfl)))
      (pss_cons (ps_if (pt_cmpR op_gt (pv 2) (pe_num c.w6) (nomark _)) (pss_one (ps_ret (pe_lst (pa_cons (pe_num c.n22) pa_nil)))) pss_nil)
      (pss_one (ps_ret (pe_op op_cat (pe_lst (pa_cons pe_int pa_nil)) (pe_call GC hr (by rfl) DC.g DC.F.kp DC.b .nil pass0 (pa_cons (pe_ix ix_list (pe_fld (pv 0) rfl) (pe_num c.pl) (fun _ _ => rfl)) (pa_cons (pe_ix ix_list (pe_fld (pv 0) rfl) (pe_num c.ot) (fun _ _ => rfl)) (pa_cons (pv 2) pa_nil)))))))), ?_⟩
    have q : NewL H Q (ansI (if 6 < n then Kp385.say (-22) else Kp385.frRow (Kp385.errs d n))) := q.new hD
    obtain ⟨dx, W, p, q0, L⟩ := hD
    refine ⟨_, rfl, b, _, 0, .int n, rfl, rfl, hb, rfl, _, rfl, _, _, rfl, rfl, _, rfl, ite2 (fun e => ?_) (fun e => ?_)⟩
    · have e1 : (6 : Int) < n := of_decide_eq_true e
      rw [if_pos (by omega)] at q
      exact ⟨(by show 1 ≤ sizeLine; decide), fun p hp => q.one hp⟩
    · have e1 : ¬ (6 : Int) < n := fun z => e (decide_eq_true z)
      have hn : n ≤ 6 := by omega
      obtain ⟨eE, h1, h2, h3, _⟩ := errs_far L.ok hn
      have h3 := Int.le_trans h3 (two_pow_small L.ok hn)
      rw [apart_far L.ok hn] at eE h1 h2 h3
      rw [if_neg (by omega), eE] at q
      refine ⟨(by show 1 ≤ sizeLine; decide), fun z nz => ?_⟩
      have s1 := same_upd (o := .lst [.int 0]) nz
      refine ⟨_, rfl, a, C, dx, _, _, rfl, s1 _ _ L.o, Cl.cl, Cl.nW, dF_wei _ _, W, _, 0, .ref p, rfl, rfl, SqL.of (s1 _ _ L.w), rfl, _, rfl, a, C, dx, _, _, rfl, s1 _ _ L.o, Cl.cl, Cl.nW, dF_wei _ _, W, _, 1, .ref q0, rfl, rfl, SqL.of (s1 _ _ L.w), rfl, _, rfl, ?_⟩
      refine ⟨p, q0, d.a, n, d.plain, d.other, rfl, SqL.of (s1 _ _ L.pl), SqL.of (s1 _ _ L.ot), L.ok.src 0, L.ok.src 1, hn, h1, h2, h3, fun H3 t s3 nt et => ?_⟩
      exact zero_cat q (by show 2 ≤ 1000; decide) (Same.refl _) nz s3 et
/-! ### needed -/
theorem ok_needed {f : Addr} {fd : FuncData} {k : Nat} (F : Fun K "needed" "needed" sNeeded f fd) (Cl : ClsT K mg C) (Wd : Words K mg) :
    FnOk P w K mg base CX0 (k + 5) f fd ["desk", "numbers"] (spDo K C (fun xs => xs.length = 1) fun xs => .needed (xs.getD 0 0)) := by
  obtain ⟨fC, fdC, DC⟩ := Wd.few
  obtain ⟨fR, fdR, DR⟩ := Wd.far
  have c := Wd.c
  have GC : FnOk P w K mg base CX0 (k + 4) fC fdC ["plain_weights", "other_weights", "hundredths"] (spFewest K) := ok_fewest DC.F Wd.tabs c.w6 DR
  refine F.ok scNeeded (fun vs H Q E h => ?_) (fun cdv A outer s H vs Q E hr h => ?_)
  · obtain ⟨a, b, o, d, xs, rfl, _⟩ := h
    rfl
  · obtain ⟨a, b, o, d, xs, rfl, hD, hb, hx, q⟩ := h
    obtain ⟨x, rfl⟩ := one_long hx
    refine ⟨_, pss_cons (ps_set (i := 2) scNeeded.nd rfl (.inl rfl) (pe_ix ix_list (pv 1) pe_int (fun _ _ => rfl)))
      (pss_cons (ps_if (pt_cmpR op_gt (pv 2) (pe_num c.h100) (nomark _)) (pss_one (ps_ret (pe_lst (pa_cons (pe_num c.n22) pa_nil)))) pss_nil)
      (pss_cons (ps_set (i := 3) scNeeded.nd rfl (.inl rfl) (pe_call GC hr (by rfl) DC.g DC.F.kp DC.b .nil pass0 (pa_cons (pe_ix ix_list (pe_fld (pv 0) rfl) (pe_num c.pl) (fun _ _ => rfl)) (pa_cons (pe_ix ix_list (pe_fld (pv 0) rfl) (pe_num c.ot) (fun _ _ => rfl)) (pa_cons (pv 2) pa_nil)))))
      (pss_cons (ps_if (pt_cmpR op_isN (pv 3) pe_non (nomark _)) (pss_one (ps_ret (pe_lst (pa_cons (pe_num c.n34) pa_nil)))) pss_nil)
      (pss_one (ps_ret (pe_lst (pa_cons (pv 3) pa_nil))))))), ?_⟩
    have q : NewL H Q (ansI (if 100 < x then Kp385.say (-22) else match (List.range 7).find? fun n => !Kp346.ltF (Kp385.apart d n) (Kp340.fr (x : Nat) 100) with
        | none => Kp385.say (-33)
        | some n => Kp385.say (n : Nat))) := q.new hD
    obtain ⟨dx, W, p, q0, L⟩ := hD
    refine ⟨_, rfl, b, _, 0, .int x, rfl, rfl, hb, rfl, _, rfl, _, _, rfl, rfl, _, rfl, ite2 (fun e => ?_) (fun e => ?_)⟩
    · have e1 : (100 : Int) < x := of_decide_eq_true e
      rw [if_pos (by omega)] at q
      exact ⟨(by show 1 ≤ sizeLine; decide), fun p hp => q.one hp⟩
    · have e1 : ¬ (100 : Int) < x := fun z => e (decide_eq_true z)
      rw [if_neg (by omega), needed_is L.ok] at q
      refine ⟨_, rfl, a, C, dx, _, _, rfl, L.o, Cl.cl, Cl.nW, dF_wei _ _, W, _, 0, .ref p, rfl, rfl, SqL.of L.w, rfl, _, rfl, a, C, dx, _, _, rfl, L.o, Cl.cl, Cl.nW, dF_wei _ _, W, _, 1, .ref q0, rfl, rfl, SqL.of L.w, rfl, _, rfl, ?_⟩
      refine ⟨p, q0, d.a, x, d.plain, d.other, rfl, SqL.of L.pl, SqL.of L.ot, L.ok.src 0, L.ok.src 1, by omega, fun H1 s1 => ?_⟩
      have done : ∀ {y : Int}, NewL H Q [y] → ∀ {r : Addr}, H1 r = none → Q (.ref r) (upd H1 r (.lst [.int y])) := fun q r nr => q _ r (s1.trans (same_upd nr)) (s1.free nr) upd_same
      cases hf : (List.range 7).find? (farEnough d.plain d.other x) with
      | none =>
        rw [hf] at q
        refine ⟨_, rfl, rfl, _, rfl, ?_⟩
        exact iteT ⟨(by show 1 ≤ sizeLine; decide), fun r nr => done q nr⟩
      | some n =>
        rw [hf] at q
        refine ⟨_, rfl, rfl, _, rfl, ?_⟩
        exact iteF ⟨_, rfl, (by show 1 ≤ sizeLine; decide), fun r nr => done q nr⟩
/-! ### besttold -/
theorem bestP_is {d : Kp385.Desk} (O : Ok d) {n : Nat} (hn : n ≤ 6) : Kp385.bestTold d n = ((bestP d.plain d.other n).1, (bestP d.plain d.other n).2.1, Kp340.fr (bestP d.plain d.other n).2.2 (2 * (T d.plain * T d.other) ^ n)) := by
  have e : errW d n = wrT d.plain d.other n := by
    funext l k
    unfold errW wrT
    rw [told_lev, few_lev, T_tot, T_tot]
  rw [best_is O hn, e]
  unfold bestP
  rw [Int.mul_pow, O.lp]
theorem ok_besttold {f : Addr} {fd : FuncData} {k : Nat} (F : Fun K "besttold" "besttold" sBesttold f fd) (Cl : ClsT K mg C) (Wd : Words K mg) :
    FnOk P w K mg base CX0 (k + 3) f fd ["desk", "numbers"] (spDo K C (fun xs => xs.length = 1) fun xs => .bestTold (xs.getD 0 0)) := by
  obtain ⟨fC, fdC, DC⟩ := Wd.bes
  obtain ⟨fF, fdF, DF⟩ := Wd.fra
  obtain ⟨fP, fdP, DP⟩ := Wd.pow
  obtain ⟨fN, fdN, DN⟩ := Wd.cnt
  obtain ⟨fL, fdL, DL⟩ := Wd.lev
  have c := Wd.c
  have GC : FnOk P w K mg base CX0 (k + 2) fC fdC ["plain_weights", "other_weights", "length"] (spBest K) := ok_best DC.F Wd.B DF DP DN DL
  refine F.ok scBesttold (fun vs H Q E h => ?_) (fun cdv A outer s H vs Q E hr h => ?_)
  · obtain ⟨a, b, o, d, xs, rfl, _⟩ := h
    rfl
  · obtain ⟨a, b, o, d, xs, rfl, hD, hb, hx, q⟩ := h
    obtain ⟨n, rfl⟩ := one_long hx
    refine ⟨_, pss_cons (ps_set (i := 2) scBesttold.nd rfl (.inl rfl) (pe_ix ix_list (pv 1) pe_int (fun _ _ => rfl)))
      (pss_cons (ps_if (pt_cmpR op_gt (pv 2) (pe_num c.w6) (nomark _)) (pss_one (ps_ret (pe_lst (pa_cons (pe_num c.n22) pa_nil)))) pss_nil)
      (pss_one (ps_ret (pe_call GC hr (by rfl) DC.g DC.F.kp DC.b .nil pass0 (pa_cons (pe_ix ix_list (pe_fld (pv 0) rfl) (pe_num c.pl) (fun _ _ => rfl)) (pa_cons (pe_ix ix_list (pe_fld (pv 0) rfl) (pe_num c.ot) (fun _ _ => rfl)) (pa_cons (pv 2) pa_nil))))))), ?_⟩
    have q : NewL H Q (ansI (if 6 < n then Kp385.say (-22) else ⟨((Kp385.bestTold d n).1 : Int), [((Kp385.bestTold d n).2.1 : Int), (Kp385.bestTold d n).2.2.1, (Kp385.bestTold d n).2.2.2]⟩)) := q.new hD
    obtain ⟨dx, W, p, q0, L⟩ := hD
    refine ⟨_, rfl, b, _, 0, .int n, rfl, rfl, hb, rfl, _, rfl, _, _, rfl, rfl, _, rfl, ite2 (fun e => ?_) (fun e => ?_)⟩
    · have e1 : (6 : Int) < n := of_decide_eq_true e
      rw [if_pos (by omega)] at q
      exact ⟨(by show 1 ≤ sizeLine; decide), fun p hp => q.one hp⟩
    · have e1 : ¬ (6 : Int) < n := fun z => e (decide_eq_true z)
      have hn : n ≤ 6 := by omega
      rw [if_neg (by omega), bestP_is L.ok hn] at q
      refine ⟨_, rfl, a, C, dx, _, _, rfl, L.o, Cl.cl, Cl.nW, dF_wei _ _, W, _, 0, .ref p, rfl, rfl, SqL.of L.w, rfl, _, rfl, a, C, dx, _, _, rfl, L.o, Cl.cl, Cl.nW, dF_wei _ _, W, _, 1, .ref q0, rfl, rfl, SqL.of L.w, rfl, _, rfl, ?_⟩
      exact ⟨p, q0, d.a, n, d.plain, d.other, rfl, SqL.of L.pl, SqL.of L.ot, L.ok.src 0, L.ok.src 1, hn, q⟩
/-! ### says -/
theorem ok_says {f : Addr} {fd : FuncData} {k : Nat} (F : Fun K "says" "says" sSays f fd) (Cl : ClsT K mg C) (Wd : Words K mg) :
    FnOk P w K mg base CX0 (k + 4) f fd ["desk", "numbers"] (spDo K C (fun xs => xs.length = 1) fun xs => .says (xs.getD 0 0)) := by
  obtain ⟨fC, fdC, DC⟩ := Wd.sai
  have c := Wd.c
  have GC : FnOk P w K mg base CX0 (k + 3) fC fdC ["plain_weights", "other_weights", "length"] (spSaid K) := ok_said DC.F Wd.tabs
  refine F.ok scSays (fun vs H Q E h => ?_) (fun cdv A outer s H vs Q E hr h => ?_)
  · obtain ⟨a, b, o, d, xs, rfl, _⟩ := h
    rfl
  · obtain ⟨a, b, o, d, xs, rfl, hD, hb, hx, q⟩ := h
    obtain ⟨n, rfl⟩ := one_long hx
    refine ⟨_, pss_cons (ps_set (i := 2) scSays.nd rfl (.inl rfl) (pe_ix ix_list (pv 1) pe_int (fun _ _ => rfl)))
      (pss_cons (ps_if (pt_cmpR op_gt (pv 2) (pe_num c.w6) (nomark _)) (pss_one (ps_ret (pe_lst (pa_cons (pe_num c.n22) pa_nil)))) pss_nil)
      (pss_one (ps_ret (pe_lst (pa_cons (pe_call GC hr (by rfl) DC.g DC.F.kp DC.b .nil pass0 (pa_cons (pe_ix ix_list (pe_fld (pv 0) rfl) (pe_num c.pl) (fun _ _ => rfl)) (pa_cons (pe_ix ix_list (pe_fld (pv 0) rfl) (pe_num c.ot) (fun _ _ => rfl)) (pa_cons (pv 2) pa_nil)))) pa_nil))))), ?_⟩
    have q : NewL H Q (ansI (if 6 < n then Kp385.say (-22) else Kp385.say (Kp346.total (((Kp385.counts d.a n).filter fun c => Kp346.ltF (Kp385.chanceC d 0 c) (Kp385.chanceC d 1 c)).map Kp385.manyWords) : Nat))) := q.new hD
    obtain ⟨dx, W, p, q0, L⟩ := hD
    refine ⟨_, rfl, b, _, 0, .int n, rfl, rfl, hb, rfl, _, rfl, _, _, rfl, rfl, _, rfl, ite2 (fun e => ?_) (fun e => ?_)⟩
    · have e1 : (6 : Int) < n := of_decide_eq_true e
      rw [if_pos (by omega)] at q
      exact ⟨(by show 1 ≤ sizeLine; decide), fun p hp => q.one hp⟩
    · have e1 : ¬ (6 : Int) < n := fun z => e (decide_eq_true z)
      have hn : n ≤ 6 := by omega
      rw [if_neg (by omega), says_is L.ok hn, ← saysT_is L.ok] at q
      refine ⟨_, rfl, a, C, dx, _, _, rfl, L.o, Cl.cl, Cl.nW, dF_wei _ _, W, _, 0, .ref p, rfl, rfl, SqL.of L.w, rfl, _, rfl, a, C, dx, _, _, rfl, L.o, Cl.cl, Cl.nW, dF_wei _ _, W, _, 1, .ref q0, rfl, rfl, SqL.of L.w, rfl, _, rfl, ?_⟩
      refine ⟨p, q0, d.a, n, d.plain, d.other, rfl, SqL.of L.pl, SqL.of L.ot, L.ok.src 0, L.ok.src 1, hn, fun H1 s1 => ?_⟩
      exact ⟨(by show 1 ≤ sizeLine; decide), fun r nr => q _ r (s1.trans (same_upd nr)) (s1.free nr) upd_same⟩
/-! ### samesource, count -/
theorem ok_samesource {f : Addr} {fd : FuncData} {k : Nat} (F : Fun K "samesource" "samesource" sSamesource f fd) (Cl : ClsT K mg C) (Wd : Words K mg) :
    FnOk P w K mg base CX0 (k + 3) f fd ["desk", "numbers"] (spDo K C (fun _ => True) fun _ => .sameSource) := by
  obtain ⟨fC, fdC, DC⟩ := Wd.sam
  obtain ⟨fL, fdL, DL⟩ := Wd.lev
  have c := Wd.c
  have GC : FnOk P w K mg base CX0 (k + 2) fC fdC ["plain_weights", "other_weights"] (spSameSrc K) := ok_sameSrc DC.F Wd.B DL
  refine F.ok scSamesource (fun vs H Q E h => ?_) (fun cdv A outer s H vs Q E hr h => ?_)
  · obtain ⟨a, b, o, d, xs, rfl, _⟩ := h
    rfl
  · obtain ⟨a, b, o, d, xs, rfl, hD, hb, _, q⟩ := h
    refine ⟨_, pss_cons (ps_if (pt_val (pe_call GC hr (by rfl) DC.g DC.F.kp DC.b .nil pass0 (pa_cons (pe_ix ix_list (pe_fld (pv 0) rfl) (pe_num c.pl) (fun _ _ => rfl)) (pa_cons (pe_ix ix_list (pe_fld (pv 0) rfl) (pe_num c.ot) (fun _ _ => rfl)) pa_nil)))) (pss_one (ps_ret (pe_lst (pa_cons pe_int pa_nil)))) pss_nil)
      (pss_one (ps_ret (pe_lst (pa_cons pe_int pa_nil)))), ?_⟩
    have q : NewL H Q (ansI (Kp385.say (if (List.range d.a).all fun l => Kp385.letter d 0 l == Kp385.letter d 1 l then 1 else 0))) := q.new hD
    obtain ⟨dx, W, p, q0, L⟩ := hD
    rw [same_is L.ok] at q
    refine ⟨_, rfl, a, C, dx, _, _, rfl, L.o, Cl.cl, Cl.nW, dF_wei _ _, W, _, 0, .ref p, rfl, rfl, SqL.of L.w, rfl, _, rfl, a, C, dx, _, _, rfl, L.o, Cl.cl, Cl.nW, dF_wei _ _, W, _, 1, .ref q0, rfl, rfl, SqL.of L.w, rfl, ?_⟩
    refine ⟨p, q0, d.a, d.plain, d.other, rfl, SqL.of L.pl, SqL.of L.ot, L.ok.src 0, L.ok.src 1, fun H1 s1 => ⟨_, rfl, ite2 (fun e => ?_) (fun e => ?_)⟩⟩
    · rw [if_pos e] at q
      exact ⟨(by show 1 ≤ sizeLine; decide), fun r nr => q _ r (s1.trans (same_upd nr)) (s1.free nr) upd_same⟩
    · rw [if_neg e] at q
      exact ⟨(by show 1 ≤ sizeLine; decide), fun r nr => q _ r (s1.trans (same_upd nr)) (s1.free nr) upd_same⟩
theorem ok_count {f : Addr} {fd : FuncData} {k : Nat} (F : Fun K "count" "count" sCount f fd) (Cl : ClsT K mg C) :
    FnOk P w K mg base CX0 (k + 1) f fd ["desk", "numbers"] (spDo K C (fun _ => True) fun _ => .count) := by
  refine F.ok scCount (fun vs H Q E h => ?_) (fun cdv A outer s H vs Q E hr h => ?_)
  · obtain ⟨a, b, o, d, xs, rfl, _⟩ := h
    rfl
  · obtain ⟨a, b, o, d, xs, rfl, hD, hb, _, q⟩ := h
    refine ⟨_, pss_one (ps_ret (pe_lst (pa_cons (pe_fld (pv 0) rfl) pa_nil))), ?_⟩
    have q : NewL H Q (ansI (Kp385.say (d.a : Nat))) := q.new hD
    obtain ⟨dx, W, p, q0, L⟩ := hD
    exact ⟨_, rfl, a, C, dx, _, _, rfl, L.o, Cl.cl, Cl.nL, dF_let _ _, (by show 1 ≤ sizeLine; decide), fun r nr => q.one nr⟩
end
end My
set_option Elab.async false
set_option maxRecDepth 100000
set_option maxHeartbeats 2000000
set_option linter.unusedVariables false
namespace My
open PySem PySem.Spec PyProof.Rows L2
section
variable {P : Program} {w : World} {K : PySem.W.Frag} {mg : Str → Option Value} {base : Heap} {C : Addr}
/-! ### refusal_of_told_test -/
structure Refuse (d : Kp385.Desk) (l n : Nat) (H : Hp) (Q : VK) : Prop where
  letter : d.a ≤ l → NewL H Q [-2]
  long : l < d.a → 6 < n → NewL H Q [-22]
  none : l < d.a → n ≤ 6 → Q .non H
def spRefusal (C : Addr) : Sp := fun vs H Q _ => ∃ (a o : Addr) (l n : Nat) (d : Kp385.Desk), vs = [.ref a, .int (l : Int), .int (n : Int)] ∧ DeskAt C o H a (some d) ∧ Refuse d l n H Q
theorem ok_refusal {f : Addr} {fd : FuncData} {k : Nat} (F : Fun K "refusal_of_told_test" "refusal_of_told_test" sRefusal f fd) (Cl : ClsT K mg C) (c : Consts mg) : FnOk P w K mg base CX0 (k + 1) f fd ["desk", "asked", "length"] (spRefusal C) := by
  refine F.ok scRefusal (fun vs H Q E h => ?_) (fun cdv A outer s H vs Q E hr h => ?_)
  · obtain ⟨a, o, l, n, d, rfl, _⟩ := h
    rfl
  · obtain ⟨a, o, l, n, d, rfl, hD, q⟩ := h
    refine ⟨_, pss_cons (ps_if (pt_cmpR op_ge (pv 1) (pe_fld (pv 0) rfl) (nomark _)) (pss_one (ps_ret (pe_lst (pa_cons (pe_num c.n2) pa_nil)))) pss_nil)
      (pss_cons (ps_if (pt_cmpR op_gt (pv 2) (pe_num c.w6) (nomark _)) (pss_one (ps_ret (pe_lst (pa_cons (pe_num c.n22) pa_nil)))) pss_nil)
      (pss_one (ps_ret pe_non))), ?_⟩
    obtain ⟨dx, W, p, q0, L⟩ := hD
    refine ⟨_, rfl, _, rfl, a, C, dx, _, _, rfl, L.o, Cl.cl, Cl.nL, dF_let _ _, _, _, rfl, rfl, _, rfl, ite2 (fun e => ?_) (fun e => ?_)⟩
    · have e1 : (d.a : Int) ≤ l := of_decide_eq_true e
      exact ⟨(by show 1 ≤ sizeLine; decide), fun p hp => (q.letter (by omega)).one hp⟩
    · have e1 : ¬ (d.a : Int) ≤ l := fun z => e (decide_eq_true z)
      refine ⟨_, rfl, _, _, rfl, rfl, _, rfl, ite2 (fun e => ?_) (fun e => ?_)⟩
      · have e2 : (6 : Int) < n := of_decide_eq_true e
        exact ⟨(by show 1 ≤ sizeLine; decide), fun p hp => (q.long (by omega) (by omega)).one hp⟩
      · have e2 : ¬ (6 : Int) < n := fun z => e (decide_eq_true z)
        exact q.none (by omega) (by omega)
/-! ### alarms, misses -/
theorem ok_alarms {f fR : Addr} {fd fdR : FuncData} {k : Nat} (F : Fun K "alarms" "alarms" sAlarms f fd) (Cl : ClsT K mg C) (Wd : Words K mg) (DR : Def K mg "refusal_of_told_test" sRefusal ["desk", "asked", "length"] fR fdR) :
    FnOk P w K mg base CX0 (k + 3) f fd ["desk", "numbers"] (spDo K C (fun xs => xs.length = 3) fun xs => .alarms (xs.getD 0 0) (xs.getD 1 0) (xs.getD 2 0)) := by
  obtain ⟨fC, fdC, DC⟩ := Wd.ala
  obtain ⟨fF, fdF, DF⟩ := Wd.fra
  obtain ⟨fP, fdP, DP⟩ := Wd.pow
  obtain ⟨fN, fdN, DN⟩ := Wd.cnt
  have c := Wd.c
  have GC : FnOk P w K mg base CX0 (k + 2) fC fdC ["plain_weights", "letter", "least", "length"] (spAlarmW K) := ok_alarmW DC.F Wd.B DF DP DN
  have GR : FnOk P w K mg base CX0 (k + 2) fR fdR ["desk", "asked", "length"] (spRefusal C) := ok_refusal DR.F Cl c
  refine F.ok scAlarms (fun vs H Q E h => ?_) (fun cdv A outer s H vs Q E hr h => ?_)
  · obtain ⟨a, b, o, d, xs, rfl, _⟩ := h
    rfl
  · obtain ⟨a, b, o, d, xs, rfl, hD, hb, hx, q⟩ := h
    obtain ⟨l, k, n, rfl⟩ := three_long hx
    refine ⟨_, pss_cons (ps_set (i := 2) scAlarms.nd rfl (.inl rfl) (pe_call GR hr (by rfl) DR.g DR.F.kp DR.b .nil pass0 (pa_cons (pv 0) (pa_cons (pe_ix ix_list (pv 1) pe_int (fun _ _ => rfl)) (pa_cons (pe_ix ix_list (pv 1) pe_int (fun _ _ => rfl)) pa_nil)))))
      (pss_cons (ps_if (pt_cmpR op_notN (pv 2) pe_non (nomark _)) (pss_one (ps_ret (pv 2))) pss_nil)
      (pss_one (ps_ret (pe_op op_cat (pe_lst (pa_cons pe_int pa_nil)) (pe_call GC hr (by rfl) DC.g DC.F.kp DC.b .nil pass0 (pa_cons (pe_ix ix_list (pe_fld (pv 0) rfl) (pe_num c.pl) (fun _ _ => rfl)) (pa_cons (pe_ix ix_list (pv 1) pe_int (fun _ _ => rfl)) (pa_cons (pe_ix ix_list (pv 1) pe_int (fun _ _ => rfl)) (pa_cons (pe_ix ix_list (pv 1) pe_int (fun _ _ => rfl)) pa_nil))))))))), ?_⟩
    have q : NewL H Q (ansI (if d.a ≤ l then Kp385.say (-2) else if 6 < n then Kp385.say (-22) else Kp385.frRow (Kp385.atLeast d 0 l k n))) := q.new hD
    refine ⟨_, rfl, _, rfl, b, _, 0, .int l, rfl, rfl, hb, rfl, _, rfl, b, _, 2, .int n, rfl, rfl, hb, rfl, a, o, l, n, d, rfl, hD, ?_⟩
    obtain ⟨dx, W, p, q0, L⟩ := hD
    refine ⟨fun h1 H1 r s1 nr er => ?_, fun h1 h2 H1 r s1 nr er => ?_, fun h1 h2 => ?_⟩
    · rw [if_pos h1] at q
      exact ⟨_, rfl, rfl, _, rfl, iteT ⟨_, rfl, q H1 r s1 nr er⟩⟩
    · rw [if_neg (by omega), if_pos h2] at q
      exact ⟨_, rfl, rfl, _, rfl, iteT ⟨_, rfl, q H1 r s1 nr er⟩⟩
    · rw [if_neg (by omega), if_neg (by omega), atLeast_fr L.ok h2 h1, toldW_N L.ok] at q
      refine ⟨_, rfl, rfl, _, rfl, iteF ⟨(by show 1 ≤ sizeLine; decide), fun z nz => ?_⟩⟩
      have s1 := same_upd (o := .lst [.int 0]) nz
      have hb1 := s1.seq hb
      refine ⟨_, rfl, a, C, dx, _, _, rfl, s1 _ _ L.o, Cl.cl, Cl.nW, dF_wei _ _, W, _, 0, .ref p, rfl, rfl, SqL.of (s1 _ _ L.w), rfl, _, rfl, b, _, 0, .int l, rfl, rfl, hb1, rfl, _, rfl, b, _, 1, .int k, rfl, rfl, hb1, rfl, _, rfl, b, _, 2, .int n, rfl, rfl, hb1, rfl, ?_⟩
      refine ⟨p, l, k, n, d.a, d.plain, rfl, SqL.of (s1 _ _ L.pl), L.ok.src 0, h1, h2, fun H3 t s3 nt et => ?_⟩
      exact zero_cat q (by show 2 ≤ 1000; decide) (Same.refl _) nz s3 et
theorem ok_misses {f fR : Addr} {fd fdR : FuncData} {k : Nat} (F : Fun K "misses" "misses" sMisses f fd) (Cl : ClsT K mg C) (Wd : Words K mg) (DR : Def K mg "refusal_of_told_test" sRefusal ["desk", "asked", "length"] fR fdR) :
    FnOk P w K mg base CX0 (k + 3) f fd ["desk", "numbers"] (spDo K C (fun xs => xs.length = 3) fun xs => .misses (xs.getD 0 0) (xs.getD 1 0) (xs.getD 2 0)) := by
  obtain ⟨fC, fdC, DC⟩ := Wd.mis
  obtain ⟨fF, fdF, DF⟩ := Wd.fra
  obtain ⟨fP, fdP, DP⟩ := Wd.pow
  obtain ⟨fN, fdN, DN⟩ := Wd.cnt
  have c := Wd.c
  have GC : FnOk P w K mg base CX0 (k + 2) fC fdC ["other_weights", "letter", "least", "length"] (spMissW K) := ok_missW DC.F Wd.B DF DP DN
  have GR : FnOk P w K mg base CX0 (k + 2) fR fdR ["desk", "asked", "length"] (spRefusal C) := ok_refusal DR.F Cl c
  refine F.ok scMisses (fun vs H Q E h => ?_) (fun cdv A outer s H vs Q E hr h => ?_)
  · obtain ⟨a, b, o, d, xs, rfl, _⟩ := h
    rfl
  · obtain ⟨a, b, o, d, xs, rfl, hD, hb, hx, q⟩ := h
    obtain ⟨l, k, n, rfl⟩ := three_long hx
    refine ⟨_, pss_cons (ps_set (i := 2) scMisses.nd rfl (.inl rfl) (pe_call GR hr (by rfl) DR.g DR.F.kp DR.b .nil pass0 (pa_cons (pv 0) (pa_cons (pe_ix ix_list (pv 1) pe_int (fun _ _ => rfl)) (pa_cons (pe_ix ix_list (pv 1) pe_int (fun _ _ => rfl)) pa_nil)))))
      (pss_cons (ps_if (pt_cmpR op_notN (pv 2) pe_non (nomark _)) (pss_one (ps_ret (pv 2))) pss_nil)
      (pss_one (ps_ret (pe_op op_cat (pe_lst (pa_cons pe_int pa_nil)) (pe_call GC hr (by rfl) DC.g DC.F.kp DC.b .nil pass0 (pa_cons (pe_ix ix_list (pe_fld (pv 0) rfl) (pe_num c.ot) (fun _ _ => rfl)) (pa_cons (pe_ix ix_list (pv 1) pe_int (fun _ _ => rfl)) (pa_cons (pe_ix ix_list (pv 1) pe_int (fun _ _ => rfl)) (pa_cons (pe_ix ix_list (pv 1) pe_int (fun _ _ => rfl)) pa_nil))))))))), ?_⟩
    have q : NewL H Q (ansI (if d.a ≤ l then Kp385.say (-2) else if 6 < n then Kp385.say (-22) else Kp385.frRow (Kp346.sub (1, 1) (Kp385.atLeast d 1 l k n)))) := q.new hD
    refine ⟨_, rfl, _, rfl, b, _, 0, .int l, rfl, rfl, hb, rfl, _, rfl, b, _, 2, .int n, rfl, rfl, hb, rfl, a, o, l, n, d, rfl, hD, ?_⟩
    obtain ⟨dx, W, p, q0, L⟩ := hD
    refine ⟨fun h1 H1 r s1 nr er => ?_, fun h1 h2 H1 r s1 nr er => ?_, fun h1 h2 => ?_⟩
    · rw [if_pos h1] at q
      exact ⟨_, rfl, rfl, _, rfl, iteT ⟨_, rfl, q H1 r s1 nr er⟩⟩
    · rw [if_neg (by omega), if_pos h2] at q
      exact ⟨_, rfl, rfl, _, rfl, iteT ⟨_, rfl, q H1 r s1 nr er⟩⟩
    · rw [if_neg (by omega), if_neg (by omega), misses_fr L.ok h2 h1, fewW_N L.ok] at q
      refine ⟨_, rfl, rfl, _, rfl, iteF ⟨(by show 1 ≤ sizeLine; decide), fun z nz => ?_⟩⟩
      have s1 := same_upd (o := .lst [.int 0]) nz
      have hb1 := s1.seq hb
      refine ⟨_, rfl, a, C, dx, _, _, rfl, s1 _ _ L.o, Cl.cl, Cl.nW, dF_wei _ _, W, _, 1, .ref q0, rfl, rfl, SqL.of (s1 _ _ L.w), rfl, _, rfl, b, _, 0, .int l, rfl, rfl, hb1, rfl, _, rfl, b, _, 1, .int k, rfl, rfl, hb1, rfl, _, rfl, b, _, 2, .int n, rfl, rfl, hb1, rfl, ?_⟩
      refine ⟨q0, l, k, n, d.a, d.other, rfl, SqL.of (s1 _ _ L.ot), L.ok.src 1, h1, h2, fun H3 t s3 nt et => ?_⟩
      exact zero_cat q (by show 2 ≤ 1000; decide) (Same.refl _) nz s3 et
/-! ### is_bound, above -/
def okB (x y : Nat) : Bool := decide (x ≤ 1000) && (decide (1 ≤ y) && decide (y ≤ 1000))
def spIsBound : Sp := fun vs H Q _ => ∃ x y : Nat, vs = [.int (x : Int), .int (y : Int)] ∧ Q (.bl (okB x y)) H
theorem ok_isBound {f : Addr} {fd : FuncData} {k : Nat} (F : Fun K "is_bound" "is_bound" sIsBound f fd) (c : Consts mg) : FnOk P w K mg base CX0 (k + 1) f fd ["upper", "lower"] spIsBound := by
  refine F.ok scIsBound (fun vs H Q E h => ?_) (fun cdv A outer s H vs Q E hr h => ?_)
  · obtain ⟨x, y, rfl, _⟩ := h
    rfl
  · obtain ⟨x, y, rfl, q⟩ := h
    refine ⟨_, pss_one (ps_ret (pe_and (pe_cmpR op_le (pv 0) (pe_num c.b1000) (nomark _)) (pe_one (pe_chain op_le op_le pe_int (pv 1) (pe_num c.b1000))))), ?_⟩
    refine ⟨_, rfl, _, _, rfl, rfl, _, rfl, ite2 (fun e => ?_) (fun e => ?_)⟩
    · have e1 : (x : Int) ≤ 1000 := of_decide_eq_true e
      refine ⟨_, rfl, _, _, rfl, rfl, _, rfl, ite2 (fun e => ?_) (fun e => ?_)⟩
      · have e2 : (1 : Int) ≤ y := of_decide_eq_true e
        refine ⟨_, _, rfl, rfl, ?_⟩
        have : okB x y = decide ((y : Int) ≤ 1000) := by
          unfold okB
          rw [decide_eq_true (show x ≤ 1000 by omega), decide_eq_true (show 1 ≤ y by omega), Bool.true_and, Bool.true_and]
          exact decide_eq_decide.mpr (by omega)
        rw [this] at q
        exact q
      · have e2 : ¬ (1 : Int) ≤ y := fun z => e (decide_eq_true z)
        have : okB x y = false := by
          unfold okB
          rw [decide_eq_false (show ¬ 1 ≤ y by omega), Bool.false_and, Bool.and_false]
        rw [this] at q
        exact q
    · have e1 : ¬ (x : Int) ≤ 1000 := fun z => e (decide_eq_true z)
      have : okB x y = false := by
        unfold okB
        rw [decide_eq_false (show ¬ x ≤ 1000 by omega), Bool.false_and]
      rw [this] at q
      exact q
theorem ok_above {f fR : Addr} {fd fdR : FuncData} {k : Nat} (F : Fun K "above" "above" sAbove f fd) (Cl : ClsT K mg C) (Wd : Words K mg) (DR : Def K mg "is_bound" sIsBound ["upper", "lower"] fR fdR) :
    FnOk P w K mg base CX0 (k + 4) f fd ["desk", "numbers"] (spDo K C (fun xs => xs.length = 4) fun xs => .above (xs.getD 0 0) (xs.getD 1 0) (xs.getD 2 0) (xs.getD 3 0)) := by
  obtain ⟨fC, fdC, DC⟩ := Wd.abo
  have c := Wd.c
  have GC : FnOk P w K mg base CX0 (k + 3) fC fdC ["plain_weights", "other_weights", "source", "length", "bound"] (spAboveW K) := ok_aboveW DC.F Wd.tabs
  have GR : FnOk P w K mg base CX0 (k + 3) fR fdR ["upper", "lower"] spIsBound := ok_isBound DR.F c
  refine F.ok scAbove (fun vs H Q E h => ?_) (fun cdv A outer s H vs Q E hr h => ?_)
  · obtain ⟨a, b, o, d, xs, rfl, _⟩ := h
    rfl
  · obtain ⟨a, b, o, d, xs, rfl, hD, hb, hx, q⟩ := h
    obtain ⟨s, n, x, y, rfl⟩ := four_long hx
    refine ⟨_, pss_cons (ps_set (i := 2) scAbove.nd rfl (.inl rfl) (pe_ix ix_list (pv 1) pe_int (fun _ _ => rfl)))
      (pss_cons (ps_set (i := 3) scAbove.nd rfl (.inl rfl) (pe_ix ix_list (pv 1) pe_int (fun _ _ => rfl)))
      (pss_cons (ps_if (PW.pt (pw_or (pt_cmpR op_gt (pv 2) (pe_num c.ot) (nomark _)) (pw_or (pt_cmpR op_gt (pv 3) (pe_num c.w6) (nomark _)) (pw_or1 (pt_not (pt_val (pe_call GR hr (by rfl) DR.g DR.F.kp DR.b .nil pass0 (pa_cons (pe_ix ix_list (pv 1) pe_int (fun _ _ => rfl)) (pa_cons (pe_ix ix_list (pv 1) pe_int (fun _ _ => rfl)) pa_nil))))))))) (pss_one (ps_ret (pe_lst (pa_cons (pe_num c.n22) pa_nil)))) pss_nil)
      (pss_cons (ps_set (i := 4) scAbove.nd rfl (.inl rfl) (pe_tup (pa_cons (pe_ix ix_list (pv 1) pe_int (fun _ _ => rfl)) (pa_cons (pe_ix ix_list (pv 1) pe_int (fun _ _ => rfl)) pa_nil))))
      (pss_one (ps_ret (pe_op op_cat (pe_lst (pa_cons pe_int pa_nil)) (pe_call GC hr (by rfl) DC.g DC.F.kp DC.b .nil pass0 (pa_cons (pe_ix ix_list (pe_fld (pv 0) rfl) (pe_num c.pl) (fun _ _ => rfl)) (pa_cons (pe_ix ix_list (pe_fld (pv 0) rfl) (pe_num c.ot) (fun _ _ => rfl)) (pa_cons (pv 2) (pa_cons (pv 3) (pa_cons (pv 4) pa_nil)))))))))))), ?_⟩
    have q : NewL H Q (ansI (if 1 < s ∨ y < 1 ∨ 1000 < y ∨ 1000 < x ∨ 6 < n then Kp385.say (-22) else Kp385.frRow (Kp385.above d s n (Kp340.fr (x : Nat) (y : Nat))))) := q.new hD
    obtain ⟨dx, W, p, q0, L⟩ := hD
    have hno : (1 < s ∨ y < 1 ∨ 1000 < y ∨ 1000 < x ∨ 6 < n) → ∀ {p : Addr}, H p = none → Q (.ref p) (upd H p (.lst [.int (-22)])) := fun hn p hp => by
      rw [if_pos hn] at q
      exact q.one hp
    refine ⟨_, rfl, b, _, 0, .int s, rfl, rfl, hb, rfl, _, rfl, b, _, 1, .int n, rfl, rfl, hb, rfl, _, rfl, _, _, rfl, rfl, _, rfl, ite2 (fun e => ?_) (fun e => ?_)⟩
    · have e1 : (1 : Int) < s := of_decide_eq_true e
      exact iteT ⟨(by show 1 ≤ sizeLine; decide), fun p hp => hno (by omega) hp⟩
    · have e1 : ¬ (1 : Int) < s := fun z => e (decide_eq_true z)
      refine ⟨_, rfl, _, _, rfl, rfl, _, rfl, ite2 (fun e => ?_) (fun e => ?_)⟩
      · have e2 : (6 : Int) < n := of_decide_eq_true e
        exact iteT ⟨(by show 1 ≤ sizeLine; decide), fun p hp => hno (by omega) hp⟩
      · have e2 : ¬ (6 : Int) < n := fun z => e (decide_eq_true z)
        refine ⟨_, rfl, b, _, 2, .int x, rfl, rfl, hb, rfl, _, rfl, b, _, 3, .int y, rfl, rfl, hb, rfl, x, y, rfl, _, rfl, ?_⟩
        have hB : okB x y = true ↔ (x ≤ 1000 ∧ 1 ≤ y ∧ y ≤ 1000) := by
          unfold okB
          simp
        cases hk : okB x y with
        | false =>
          have : ¬ (x ≤ 1000 ∧ 1 ≤ y ∧ y ≤ 1000) := fun z => by
            rw [hB.mpr z] at hk
            cases hk
          exact iteT ⟨(by show 1 ≤ sizeLine; decide), fun p hp => hno (by omega) hp⟩
        | true =>
          have hk' := hB.mp hk
          rw [if_neg (by omega), aboveT_is L.ok (by omega) (by omega)] at q
          refine iteF ⟨_, rfl, b, _, 2, .int x, rfl, rfl, hb, rfl, _, rfl, b, _, 3, .int y, rfl, rfl, hb, rfl, (by show 2 ≤ sizeLine; decide), fun t nt => ?_⟩
          have s1 := same_upd (o := .tup [.int x, .int y]) nt
          have et : (upd H t (.tup [.int x, .int y])) t = some (.tup [.int x, .int y]) := upd_same
          generalize upd H t (.tup [.int x, .int y]) = H1 at s1 et ⊢
          refine ⟨(by show 1 ≤ sizeLine; decide), fun z nz => ?_⟩
          have s2 := same_upd (o := .lst [.int 0]) nz
          have s12 := s1.trans s2
          refine ⟨_, rfl, a, C, dx, _, _, rfl, s12 _ _ L.o, Cl.cl, Cl.nW, dF_wei _ _, W, _, 0, .ref p, rfl, rfl, SqL.of (s12 _ _ L.w), rfl, _, rfl, a, C, dx, _, _, rfl, s12 _ _ L.o, Cl.cl, Cl.nW, dF_wei _ _, W, _, 1, .ref q0, rfl, rfl, SqL.of (s12 _ _ L.w), rfl, _, rfl, _, rfl, _, rfl, ?_⟩
          refine ⟨p, q0, t, d.a, s, n, x, y, d.plain, d.other, rfl, SqL.of (s12 _ _ L.pl), SqL.of (s12 _ _ L.ot), s2 _ _ et, L.ok.src 0, L.ok.src 1, by omega, by omega, hk'.1, hk'.2.2, fun H3 r s3 nr er => ?_⟩
          exact zero_cat q (by show 2 ≤ 1000; decide) s1 nz s3 er
/-! ### ifplain -/
theorem ok_ifplain {f : Addr} {fd : FuncData} {k : Nat} (F : Fun K "ifplain" "ifplain" sIfplain f fd) (Cl : ClsT K mg C) (Wd : Words K mg) :
    FnOk P w K mg base CX0 (k + 4) f fd ["desk", "numbers"] (spDo K C (fun xs => 1 ≤ xs.length) fun xs => .ifPlain (xs.getD 0 0) (xs.drop 1)) := by
  obtain ⟨fC, fdC, DC⟩ := Wd.far
  obtain ⟨fI, fdI, DI⟩ := Wd.src
  have c := Wd.c
  have GC : FnOk P w K mg base CX0 (k + 3) fC fdC ["plain_weights", "other_weights", "length"] (spFar K) := ok_far DC.F Wd.tabs
  have GI : FnOk P w K mg base CX0 (k + 3) fI fdI ["row", "letters"] (spIsSource K) := ok_isSource DI.F Wd.B c.w9
  refine F.ok scIfplain (fun vs H Q E h => ?_) (fun cdv A outer s H vs Q E hr h => ?_)
  · obtain ⟨a, b, o, d, xs, rfl, _⟩ := h
    rfl
  · obtain ⟨a, b, o, d, xs, rfl, hD, hb, hx, q⟩ := h
    obtain ⟨n, v, rfl⟩ := cons_long hx
    refine ⟨_, pss_cons (ps_set (i := 2) scIfplain.nd rfl (.inl rfl) (pe_ix ix_list (pv 1) pe_int (fun _ _ => rfl)))
      (pss_cons (ps_set (i := 3) scIfplain.nd rfl (.inl rfl) (pe_slice sl_list (pv 1) (po_some pe_int) po_none))
      (pss_cons (ps_if (PW.pt (pw_or (pt_cmpR op_gt (pv 2) (pe_num c.w6) (nomark _)) (pw_or1 (pt_not (pt_val (pe_call GI hr (by rfl) DI.g DI.F.kp DI.b .nil pass0 (pa_cons (pv 3) (pa_cons (pe_fld (pv 0) rfl) pa_nil)))))))) (pss_one (ps_ret (pe_lst (pa_cons (pe_num c.n22) pa_nil)))) pss_nil)
      (pss_one (ps_ret (pe_op op_cat (pe_lst (pa_cons pe_int pa_nil)) (pe_call GC hr (by rfl) DC.g DC.F.kp DC.b .nil pass0 (pa_cons (pv 3) (pa_cons (pe_ix ix_list (pe_fld (pv 0) rfl) (pe_num c.ot) (fun _ _ => rfl)) (pa_cons (pv 2) pa_nil))))))))), ?_⟩
    have q : NewL H Q (ansI (if okS d.a v = false ∨ 6 < n then Kp385.say (-22) else Kp385.frRow (Kp385.apart { d with plain := v } n))) := q.new hD
    obtain ⟨dx, W, p, q0, L⟩ := hD
    have O := L.ok
    refine ⟨_, rfl, b, _, 0, .int n, rfl, rfl, hb, atI_nat (j := 0) rfl, _, rfl, 1, rfl, b, _, rfl, hb, fun y ny => ?_⟩
    have ey : cutV (nv (n :: v)) (some 1) none = nv v := cut_one _
    rw [ey]
    have s1 := same_upd (o := .lst (nv v)) ny
    have hy : (upd H y (.lst (nv v))) y = some (.lst (nv v)) := upd_same
    generalize upd H y (.lst (nv v)) = H1 at s1 hy ⊢
    have hno : (okS d.a v = false ∨ 6 < n) → ∀ {p : Addr}, H1 p = none → Q (.ref p) (upd H1 p (.lst [.int (-22)])) := fun hn p hp => by
      rw [if_pos hn] at q
      exact q _ p (s1.trans (same_upd hp)) (s1.free hp) upd_same
    refine ⟨_, rfl, _, _, rfl, rfl, _, rfl, ite2 (fun e => ?_) (fun e => ?_)⟩
    · have e1 : (6 : Int) < n := of_decide_eq_true e
      exact iteT ⟨(by show 1 ≤ sizeLine; decide), fun p hp => hno (.inr (by omega)) hp⟩
    · have e1 : ¬ (6 : Int) < n := fun z => e (decide_eq_true z)
      refine ⟨_, rfl, _, rfl, a, C, dx, _, _, rfl, s1 _ _ L.o, Cl.cl, Cl.nL, dF_let _ _, y, d.a, v, rfl, SqL.of hy, by have := O.lo; omega, _, rfl, ?_⟩
      cases hk : okS d.a v with
      | false =>
        exact iteT ⟨(by show 1 ≤ sizeLine; decide), fun p hp => hno (.inl hk) hp⟩
      | true =>
        have So := okS_src hk
        have hn : n ≤ 6 := by omega
        rw [if_neg (by rw [hk]; simp; omega), apart_far (O.putP So) hn] at q
        refine iteF ⟨(by show 1 ≤ sizeLine; decide), fun z nz => ?_⟩
        have s3 := same_upd (o := .lst [.int 0]) nz
        have s13 := s1.trans s3
        refine ⟨_, rfl, _, rfl, a, C, dx, _, _, rfl, s13 _ _ L.o, Cl.cl, Cl.nW, dF_wei _ _, W, _, 1, .ref q0, rfl, rfl, SqL.of (s13 _ _ L.w), rfl, _, rfl, ?_⟩
        refine ⟨y, q0, d.a, n, v, d.other, rfl, SqL.of (s3 _ _ hy), SqL.of (s13 _ _ L.ot), ⟨So.len, O.hi, So.nine, So.pos⟩, O.src 1, hn, fun H3 t s4 nt et => ?_⟩
        exact zero_cat q (by show 2 ≤ 1000; decide) s1 nz s4 et
end
end My
set_option Elab.async false
set_option maxRecDepth 100000
set_option maxHeartbeats 2000000
set_option linter.unusedVariables false
namespace My
open PySem PySem.Spec PyProof.Rows L2
abbrev sCall : Stmt := topS 64
abbrev sAnswers : Stmt := topS 66
theorem scCall : FnScope ["desk", "number", "numbers", "call"] ["desk", "number", "numbers"] (defScope sCall) := ⟨rfl, rfl, rfl, by decide +kernel, rfl, by decide +kernel, by decide +kernel⟩
theorem scAnswers : FnScope ["calls", "desk", "answered", "place", "first", "behind", "answer"] ["calls"] (defScope sAnswers) := ⟨rfl, rfl, rfl, by decide +kernel, rfl, by decide +kernel, by decide +kernel⟩
/-! ### a call of whatever def the slot holds -/
def tCallH (P : Program) (w : World) (K : PySem.W.Frag) (mg : Str → Option Value) (base : Heap) (k i : Nat) (t : TA) : TE := fun σ H Q => ∃ f sp, σ[i]? = some (some (.ref f)) ∧ Held P w K mg base k f sp ∧ t σ H fun vs H1 => sp vs H1 Q (fun _ _ _ => False)
theorem pe_callH {X : Cx} {k i : Nat} {x : Str} {p pos : Pos} {e : Expr} {es : List Expr} {t : TA} (hr : Room k X.A) (hN : X.N[i]? = some x) (hv : Vis X.env.scope x) (ha : PA X (e :: es) t)
    (hdb : (x == ("__debug__" : Str)) = false := by decide) (hcd : (x == ("__classdict__" : Str)) = false := by decide)
    (he : starEach (e :: es) X.env = (false, eval e X.env) :: starEach es X.env := by rfl) (hpl : (backTo pos (starEach es X.env)).any (·.1) = false := by rfl) :
    PE X (.Call (.Name x p) (e :: es) [] pos) (tCallH X.prog X.w X.K X.mg X.base k i t) := by
  refine ⟨fun pins s σ H Q I h => ?_⟩
  obtain ⟨f, sp, hs, hH, ht⟩ := h
  have A : ∀ g sp', (if g = f then some sp else none) = some sp' → Held X.prog X.w X.K X.mg X.base k g sp' := by
    intro g sp' h
    by_cases z : g = f
    · rw [if_pos z] at h
      cases h
      rw [z]
      exact hH
    · rw [if_neg z] at h
      cases h
  exact (pe_callA (S := fun g => if g = f then some sp else none) A hr hN hv ha hdb hcd he hpl).run pins s σ H Q I ⟨f, sp, hs, if_pos rfl, ht⟩
section
variable {P : Program} {w : World} {K : PySem.W.Frag} {mg : Str → Option Value} {base : Heap} {C : Addr}
theorem Def.held {f : Addr} {fd : FuncData} {x : Str} {st : Stmt} {ps : List Str} {k : Nat} {sp : Sp} (D : Def K mg x st ps f fd) (F : FnOk P w K mg base CX0 k f fd ps sp) : Held P w K mg base k f sp := ⟨fd, ps, F, D.F.kp, D.b⟩
/-- the table of calls -/
structure Tab (K : PySem.W.Frag) (mg : Str → Option Value) (t : Addr) (fs : List Addr) : Prop where
  g : mg "CALLS" = some (.ref t)
  seq : ∀ H, SqT K H t (fs.map V.ref)
structure Calls (K : PySem.W.Frag) (mg : Str → Option Value) (f0 f1 f2 f3 f4 f5 f6 f7 f8 f9 f10 f11 f12 f13 f14 f15 f16 f17 f18 f19 : Addr) : Prop where
  d0 : ∃ fd, Def K mg "begin" sBegin ["desk", "numbers"] f0 fd
  d1 : ∃ fd, Def K mg "plain" sPlain ["desk", "numbers"] f1 fd
  d2 : ∃ fd, Def K mg "other" sOther ["desk", "numbers"] f2 fd
  d3 : ∃ fd, Def K mg "sourceis" sSourceis ["desk", "numbers"] f3 fd
  d4 : ∃ fd, Def K mg "swap" sSwap ["desk", "numbers"] f4 fd
  d5 : ∃ fd, Def K mg "letter" sLetter ["desk", "numbers"] f5 fd
  d6 : ∃ fd, Def K mg "chance" sChance ["desk", "numbers"] f6 fd
  d7 : ∃ fd, Def K mg "likelier" sLikelier ["desk", "numbers"] f7 fd
  d8 : ∃ fd, Def K mg "ratio" sRatio ["desk", "numbers"] f8 fd
  d9 : ∃ fd, Def K mg "apart" sApart ["desk", "numbers"] f9 fd
  d10 : ∃ fd, Def K mg "errs" sErrs ["desk", "numbers"] f10 fd
  d11 : ∃ fd, Def K mg "needed" sNeeded ["desk", "numbers"] f11 fd
  d12 : ∃ fd, Def K mg "alarms" sAlarms ["desk", "numbers"] f12 fd
  d13 : ∃ fd, Def K mg "misses" sMisses ["desk", "numbers"] f13 fd
  d14 : ∃ fd, Def K mg "besttold" sBesttold ["desk", "numbers"] f14 fd
  d15 : ∃ fd, Def K mg "above" sAbove ["desk", "numbers"] f15 fd
  d16 : ∃ fd, Def K mg "says" sSays ["desk", "numbers"] f16 fd
  d17 : ∃ fd, Def K mg "ifplain" sIfplain ["desk", "numbers"] f17 fd
  d18 : ∃ fd, Def K mg "samesource" sSamesource ["desk", "numbers"] f18 fd
  d19 : ∃ fd, Def K mg "count" sCount ["desk", "numbers"] f19 fd
  tl : ∃ f fd, Def K mg "tell_source" sTell ["desk", "source", "row"] f fd
  rf : ∃ f fd, Def K mg "refusal_of_told_test" sRefusal ["desk", "asked", "length"] f fd
  bd : ∃ f fd, Def K mg "is_bound" sIsBound ["upper", "lower"] f fd
/-- what stands at a place of the table does what the call of that number asks -/
def spAt (K : PySem.W.Frag) (C : Addr) (p : Nat) : Sp := fun vs H Q _ => ∃ (a b o : Addr) (st : Kp385.State) (xs : List Nat), vs = [.ref a, .ref b] ∧ DeskAt C o H a st ∧ SqL K H b (nv xs) ∧ fitN p xs ∧ (p ≠ 0 → st ≠ none) ∧ Then C o H a Q (Kp385.step st (cmd p xs))
theorem Held.weaken {k : Nat} {f : Addr} {sp sp' : Sp} (h : Held P w K mg base k f sp) (hs : ∀ vs H Q E, sp' vs H Q E → sp vs H Q E) : Held P w K mg base k f sp' := by
  obtain ⟨fd, ps, F, hk, hb⟩ := h.ex
  exact ⟨fd, ps, F.imp hs, hk, hb⟩
theorem held_do {p : Nat} {f : Addr} {fd : FuncData} {x : Str} {stm : Stmt} {fit : List Nat → Prop} {c : List Nat → Kp385.Call} (hp : p ≠ 0) (D : Def K mg x stm ["desk", "numbers"] f fd) (F : FnOk P w K mg base CX0 5 f fd ["desk", "numbers"] (spDo K C fit c))
    (hf : ∀ xs, fitN p xs → fit xs) (hc : ∀ xs, cmd p xs = c xs) : Held P w K mg base 5 f (spAt K C p) := by
  refine Held.weaken (D.held F) fun vs H Q E h => ?_
  obtain ⟨a, b, o, st, xs, rfl, hD, hb, hx, hs, q⟩ := h
  cases st with
  | none => exact absurd rfl (hs hp)
  | some d =>
    rw [hc] at q
    exact ⟨a, b, o, d, xs, rfl, hD, hb, hf xs hx, q⟩
theorem held_at {f0 f1 f2 f3 f4 f5 f6 f7 f8 f9 f10 f11 f12 f13 f14 f15 f16 f17 f18 f19 : Addr} (Cs : Calls K mg f0 f1 f2 f3 f4 f5 f6 f7 f8 f9 f10 f11 f12 f13 f14 f15 f16 f17 f18 f19) (Cl : ClsT K mg C) (Wd : Words K mg) {p : Nat} {f : Addr} (h : [f0, f1, f2, f3, f4, f5, f6, f7, f8, f9, f10, f11, f12, f13, f14, f15, f16, f17, f18, f19][p]? = some f) : Held P w K mg base 5 f (spAt K C p) := by
  obtain ⟨fT, fdT, DT⟩ := Cs.tl
  obtain ⟨fS, fdS, DS⟩ := Wd.src
  obtain ⟨fR, fdR, DR⟩ := Cs.rf
  obtain ⟨fB, fdB, DB⟩ := Cs.bd
  have B := Wd.B
  have c := Wd.c
  match p, h with
  | 0, h =>
    obtain ⟨fd, D⟩ := Cs.d0
    cases h
    refine Held.weaken (D.held (ok_begin (k := 4) D.F Cl c)) fun vs H Q E h => ?_
    obtain ⟨a, b, o, st, xs, rfl, hD, hb, hx, hs, q⟩ := h
    obtain ⟨n, rfl⟩ := one_long hx
    exact ⟨a, b, o, st, n, rfl, hD, hb, q⟩
  | 1, h =>
    obtain ⟨fd, D⟩ := Cs.d1
    cases h
    exact held_do (by decide) D (ok_plain (k := 2) D.F B Cl c DT DS) (fun _ _ => trivial) fun _ => rfl
  | 2, h =>
    obtain ⟨fd, D⟩ := Cs.d2
    cases h
    exact held_do (by decide) D (ok_other (k := 2) D.F B Cl c DT DS) (fun _ _ => trivial) fun _ => rfl
  | 3, h =>
    obtain ⟨fd, D⟩ := Cs.d3
    cases h
    exact held_do (by decide) D (ok_sourceis (k := 4) D.F Cl c) (fun _ h => h) fun _ => rfl
  | 4, h =>
    obtain ⟨fd, D⟩ := Cs.d4
    cases h
    exact held_do (by decide) D (ok_swap (k := 4) D.F Cl c) (fun _ _ => trivial) fun _ => rfl
  | 5, h =>
    obtain ⟨fd, D⟩ := Cs.d5
    cases h
    exact held_do (by decide) D (ok_letter (k := 2) D.F Cl Wd) (fun _ h => h) fun _ => rfl
  | 6, h =>
    obtain ⟨fd, D⟩ := Cs.d6
    cases h
    exact held_do (by decide) D (ok_chance (k := 2) D.F Cl Wd) (fun _ h => h) fun _ => rfl
  | 7, h =>
    obtain ⟨fd, D⟩ := Cs.d7
    cases h
    exact held_do (by decide) D (ok_likelier (k := 2) D.F Cl Wd) (fun _ _ => trivial) fun _ => rfl
  | 8, h =>
    obtain ⟨fd, D⟩ := Cs.d8
    cases h
    exact held_do (by decide) D (ok_ratio (k := 2) D.F Cl Wd) (fun _ _ => trivial) fun _ => rfl
  | 9, h =>
    obtain ⟨fd, D⟩ := Cs.d9
    cases h
    exact held_do (by decide) D (ok_apart (k := 1) D.F Cl Wd) (fun _ h => h) fun _ => rfl
  | 10, h =>
    obtain ⟨fd, D⟩ := Cs.d10
    cases h
    exact held_do (by decide) D (ok_errs (k := 0) D.F Cl Wd) (fun _ h => h) fun _ => rfl
  | 11, h =>
    obtain ⟨fd, D⟩ := Cs.d11
    cases h
    exact held_do (by decide) D (ok_needed (k := 0) D.F Cl Wd) (fun _ h => h) fun _ => rfl
  | 12, h =>
    obtain ⟨fd, D⟩ := Cs.d12
    cases h
    exact held_do (by decide) D (ok_alarms (k := 2) D.F Cl Wd DR) (fun _ h => h) fun _ => rfl
  | 13, h =>
    obtain ⟨fd, D⟩ := Cs.d13
    cases h
    exact held_do (by decide) D (ok_misses (k := 2) D.F Cl Wd DR) (fun _ h => h) fun _ => rfl
  | 14, h =>
    obtain ⟨fd, D⟩ := Cs.d14
    cases h
    exact held_do (by decide) D (ok_besttold (k := 2) D.F Cl Wd) (fun _ h => h) fun _ => rfl
  | 15, h =>
    obtain ⟨fd, D⟩ := Cs.d15
    cases h
    exact held_do (by decide) D (ok_above (k := 1) D.F Cl Wd DB) (fun _ h => h) fun _ => rfl
  | 16, h =>
    obtain ⟨fd, D⟩ := Cs.d16
    cases h
    exact held_do (by decide) D (ok_says (k := 1) D.F Cl Wd) (fun _ h => h) fun _ => rfl
  | 17, h =>
    obtain ⟨fd, D⟩ := Cs.d17
    cases h
    exact held_do (by decide) D (ok_ifplain (k := 1) D.F Cl Wd) (fun _ h => h) fun _ => rfl
  | 18, h =>
    obtain ⟨fd, D⟩ := Cs.d18
    cases h
    exact held_do (by decide) D (ok_samesource (k := 2) D.F Cl Wd) (fun _ _ => trivial) fun _ => rfl
  | 19, h =>
    obtain ⟨fd, D⟩ := Cs.d19
    cases h
    exact held_do (by decide) D (ok_count (k := 4) D.F Cl) (fun _ _ => trivial) fun _ => rfl
/-! ### answer_of_call -/
def spCall (K : PySem.W.Frag) (C : Addr) (n : Nat) : Sp := fun vs H Q _ => ∃ (a b o : Addr) (p : Nat) (st : Kp385.State) (xs : List Nat), vs = [.ref a, .int (p : Int), .ref b] ∧ DeskAt C o H a st ∧ SqL K H b (nv xs) ∧ p < n ∧ fitN p xs ∧ Then C o H a Q (Kp385.step st (cmd p xs))
theorem step_none {p : Nat} (h0 : p ≠ 0) (xs : List Nat) : Kp385.step none (cmd p xs) = (none, Kp385.say (-11)) := by
  unfold cmd
  split <;> first | rfl | exact absurd rfl h0
theorem ok_call {f t f0 f1 f2 f3 f4 f5 f6 f7 f8 f9 f10 f11 f12 f13 f14 f15 f16 f17 f18 f19 : Addr} {fd : FuncData} (F : Fun K "answer_of_call" "answer_of_call" sCall f fd) (Cs : Calls K mg f0 f1 f2 f3 f4 f5 f6 f7 f8 f9 f10 f11 f12 f13 f14 f15 f16 f17 f18 f19) (Tb : Tab K mg t [f0, f1, f2, f3, f4, f5, f6, f7, f8, f9, f10, f11, f12, f13, f14, f15, f16, f17, f18, f19]) (Cl : ClsT K mg C) (Wd : Words K mg) :
    FnOk P w K mg base CX0 6 f fd ["desk", "number", "numbers"] (spCall K C 20) := by
  have c := Wd.c
  refine F.ok scCall (fun vs H Q E h => ?_) (fun cdv A outer s H vs Q E hr h => ?_)
  · obtain ⟨a, b, o, p, st, xs, rfl, _⟩ := h
    rfl
  · obtain ⟨a, b, o, p, st, xs, rfl, hD, hb, hp, hf, q⟩ := h
    refine ⟨_, pss_cons (ps_if (PW.pt (pw_and (pt_cmpR op_eq (pe_fld (pv 0) rfl) pe_int (nomark _)) (pw_and1 (pt_cmpR op_ne (pv 1) (pe_num c.be) (nomark _))))) (pss_one (ps_ret (pe_lst (pa_cons (pe_num c.n11) pa_nil)))) pss_nil)
      (pss_cons (ps_set (i := 3) scCall.nd rfl (.inl rfl) (pe_ix ix_tup (pe_glob (v := .ref t) rfl Tb.g rfl) (pv 1) (fun _ _ => rfl)))
      (pss_one (ps_ret (pe_callH (k := 5) (i := 3) hr rfl (.inl rfl) (pa_cons (pv 0) (pa_cons (pv 2) pa_nil)))))), ?_⟩
    have hm : ∃ (dx : Addr) (m : Nat) (W : Addr), H a = some (.ins C dx (dF m W)) ∧ (m = 0 ↔ st = none) := by
      cases st with
      | none =>
        obtain ⟨_, dx, W, h⟩ := hD
        exact ⟨dx, 0, W, h, by simp⟩
      | some d =>
        obtain ⟨dx, W, p, q0, L⟩ := hD
        exact ⟨dx, d.a, W, L.o, by have := L.ok.lo; simp; omega⟩
    obtain ⟨dx, m, W, hO, hm⟩ := hm
    have go : (p ≠ 0 → st ≠ none) → tSeq (tAsg (tOp (rIxT K) (tC (.ref t)) (tVar 1)) (gName 3)) (tRet (tCallH P w K mg base 5 3 (tCons (tVar 0) (tCons (tVar 2) tNil)))) { nx := fun _ H' => Q V.non H', rt := Q } [some (.ref a), some (.int (p : Int)), some (.ref b), none] H := by
      intro hs
      obtain ⟨g, hg⟩ : ∃ g, [f0, f1, f2, f3, f4, f5, f6, f7, f8, f9, f10, f11, f12, f13, f14, f15, f16, f17, f18, f19][p]? = some g := ⟨_, List.getElem?_eq_getElem (show p < 20 from hp)⟩
      have hg' : ([f0, f1, f2, f3, f4, f5, f6, f7, f8, f9, f10, f11, f12, f13, f14, f15, f16, f17, f18, f19].map V.ref)[p]? = some (.ref g) := by
        rw [List.getElem?_map, hg]
        rfl
      refine ⟨_, rfl, t, _, _, _, rfl, rfl, Tb.seq H, atI_nat hg', ?_⟩
      exact ⟨g, spAt K C p, rfl, held_at Cs Cl Wd hg, _, rfl, _, rfl, a, b, o, st, xs, rfl, hD, hb, hf, hs, q⟩
    refine ⟨_, rfl, a, C, dx, _, _, rfl, hO, Cl.cl, Cl.nL, dF_let _ _, rfl, _, rfl, ite2 (fun e => ?_) (fun e => ?_)⟩
    · have e0 : (m : Int) = 0 := V.int.inj (of_decide_eq_true e)
      have e1 : st = none := hm.mp (by omega)
      refine ⟨_, rfl, rfl, _, rfl, ?_⟩
      by_cases h0 : p = 0
      · refine iteNS (congrArg V.int (by omega)) (go fun h => absurd h0 h)
      · have : decide (V.int (p : Int) = V.int 0) = false := decide_eq_false fun z => h0 (by have := V.int.inj z; omega)
        rw [this]
        subst e1
        rw [step_none h0] at q
        exact iteT ⟨(by show 1 ≤ sizeLine; decide), fun r nr => (q.new hD).one nr⟩
    · have e1 : ¬ m = 0 := fun z => e (decide_eq_true (by rw [z]; rfl))
      exact iteF (go fun _ z => e1 (hm.mpr z))
end
end My
set_option Elab.async false
set_option maxRecDepth 100000
set_option maxHeartbeats 2000000
set_option linter.unusedVariables false
namespace My
open PySem PySem.Spec PyProof.Rows L2
theorem iv_cut (ns : List Int) (i k : Nat) : cutV (iv ns) (some (i : Int)) (some (((i + k : Nat)) : Int)) = iv ((ns.drop i).take k) := by
  unfold cutV
  rw [HT.sIx_nat, HT.sIx_nat]
  unfold iv
  rw [List.length_map, List.map_take, List.map_drop]
  by_cases h : i ≤ ns.length
  · rw [Nat.min_eq_left h]
    by_cases h2 : i + k ≤ ns.length
    · rw [Nat.min_eq_left h2, Nat.add_sub_cancel_left]
    · rw [Nat.min_eq_right (by omega), List.take_of_length_le (by simp), List.take_of_length_le (by simp; omega)]
  · rw [Nat.min_eq_right (a := i) (by omega), List.drop_eq_nil_of_le (by simp), List.drop_eq_nil_of_le (i := i) (by simp; omega)]
    simp
/-- the desk stands where only the list of answers changes -/
theorem DeskAt.grow {C o : Addr} {H : Hp} {a : Addr} (l : List Int) : ∀ {st : Kp385.State}, DeskAt C o H a st → DeskAt C o (upd H o (.lst (iv l))) a st
  | none, ⟨⟨l0, e⟩, dx, W, h⟩ => by
    have na : a ≠ o := fun z => by
      rw [z, e] at h
      cases h
    exact ⟨⟨l, upd_same⟩, dx, W, by rw [upd_ne na]; exact h⟩
  | some d, ⟨dx, W, p, q, L⟩ => by
    obtain ⟨l0, e⟩ := L.ho
    have na : a ≠ o := fun z => by
      have h := L.o
      rw [z, e] at h
      cases h
    have nW : W ≠ o := fun z => by
      have h := L.w
      rw [z, e] at h
      exact iv_ne_refs (HO.lst.inj (Option.some.inj h)).symm
    refine ⟨dx, W, p, q, by rw [upd_ne na]; exact L.o, ⟨l, upd_same⟩, L.no, by rw [upd_ne nW]; exact L.w, by rw [upd_ne L.no.1]; exact L.pl, by rw [upd_ne L.no.2]; exact L.ot, L.ok⟩
/-- the list handed in: read, and never the list of answers -/
def Arg (K : PySem.W.Frag) (H : Hp) (a o : Addr) (ns : List Int) : Prop := (Rd H a (.lst (iv ns)) ∧ a ≠ o) ∨ ∀ H', SqL K H' a (iv ns)
theorem Arg.sq {K : PySem.W.Frag} {H : Hp} {a o : Addr} {ns : List Int} (h : Arg K H a o ns) : SqL K H a (iv ns) := by
  rcases h with h | h
  · exact .inl h.1
  · exact h H
theorem Arg.of {K : PySem.W.Frag} {H : Hp} {a o : Addr} {ns : List Int} (h : SqL K H a (iv ns)) (n : H o = none) : Arg K H a o ns := by
  rcases h with (h | ⟨f, h⟩) | h
  · exact .inl ⟨.inl h, ne_of_none h n⟩
  · exact .inl ⟨.inr ⟨f, h⟩, ne_of_none h n⟩
  · exact .inr fun _ => .inr h
theorem Arg.keep {K : PySem.W.Frag} {H H' : Hp} {a o : Addr} {ns : List Int} (k : Keeps H H') (h : Arg K H a o ns) : Arg K H' a o ns := by
  rcases h with ⟨h | ⟨f, h⟩, n⟩ | h
  · exact .inl ⟨.inl (k.ls _ _ h), n⟩
  · exact .inl ⟨.inr ⟨f, k.frz _ _ _ h⟩, n⟩
  · exact .inr h
theorem Arg.grow {K : PySem.W.Frag} {H : Hp} {a o : Addr} {ns : List Int} (u : HO) (h : Arg K H a o ns) : Arg K (upd H o u) a o ns := by
  rcases h with ⟨h | ⟨f, h⟩, n⟩ | h
  · exact .inl ⟨.inl (by rw [upd_ne n]; exact h), n⟩
  · exact .inl ⟨.inr ⟨f, by rw [upd_ne n]; exact h⟩, n⟩
  · exact .inr h
theorem drop_nil_of {ns : List Int} {i : Nat} (h : ns.length ≤ i) : ns.drop i = [] := List.drop_eq_nil_of_le h
theorem get_drop {ns : List Int} {i k : Nat} {l : List Int} {x : Int} (h : ns.drop i = l) (hx : l[k]? = some x) : (iv ns)[i + k]? = some (.int x) := by
  unfold iv
  rw [List.getElem?_map, ← List.getElem?_drop, h, hx]
  rfl
section
variable {P : Program} {w : World} {K : PySem.W.Frag} {mg : Str → Option Value} {base : Heap} {C : Addr}
/-- the calls' numbers are all below m -/
def Below (m : Nat) (cs : List Kp385Neutral.Call) : Prop := ∀ (p : Nat) (xs : List Nat), [(p : Int) :: nI xs] ∈ cs → p < m
def spAns (K : PySem.W.Frag) (m : Nat) : Sp := fun vs H Q _ => ∃ (a : Addr) (ns : List Int) (cs : List Kp385Neutral.Call), vs = [.ref a] ∧ SqL K H a (iv ns) ∧ Left ns cs ∧ Below m cs ∧ (tell none cs).length ≤ 10000000 ∧
  ∀ (H' : Hp) (p : Addr), H' p = some (.lst (iv (tell none cs))) → Q (.ref p) H'
theorem ok_answers {f fI fA : Addr} {fd fdI fdA : FuncData} {m : Nat} (F : Fun K "answers" "answers" sAnswers f fd) (Cl : ClsT K mg C) (B : Bare mg) (M : Mk K C fI) (FI : Fun K "__init__" "Desk.__init__" sInit fI fdI) (bI : Binds K fdI ["self"] [])
    (DA : Def K mg "answer_of_call" sCall ["desk", "number", "numbers"] fA fdA) (GA : FnOk P w K mg base CX0 6 fA fdA ["desk", "number", "numbers"] (spCall K C m)) : FnOk P w K mg base CX0 7 f fd ["calls"] (spAns K m) := by
  have GI : FnOk P w K mg base CX0 5 fI fdI ["self"] (spInit C) := ok_init (k := 4) FI Cl
  refine F.ok scAnswers (fun vs H Q E h => ?_) (fun cdv A outer s H vs Q E hr h => ?_)
  · obtain ⟨a, ns, cs, rfl, _⟩ := h
    rfl
  · obtain ⟨a, ns, cs0, rfl, ha, hL, hm, hlen, q⟩ := h
    refine ⟨_, pss_cons (ps_set (i := 1) scAnswers.nd rfl (.inl rfl) (pe_make0 M GI hr rfl Cl.gC bI .nil pass0))
      (pss_cons (ps_set (i := 2) scAnswers.nd rfl (.inl rfl) (pe_lst pa_nil))
      (pss_cons (ps_set (i := 3) scAnswers.nd rfl (.inl rfl) pe_int)
      (pss_cons (ps_while PassesOwn.never (pt_cmpR op_lt (pv 3) (pe_callB call_len_seq (by rfl) B.len PySem.boot_len (pa_cons (pv 0) pa_nil)) (nomark _))
        (pss_cons (ps_set (i := 4) scAnswers.nd rfl (.inl rfl) (pe_op op_add (pv 3) pe_int))
        (pss_cons (ps_set (i := 5) scAnswers.nd rfl (.inl rfl) (pe_op op_add (pv 4) (pe_ix ix_list (pv 0) (pe_op op_add (pv 3) pe_int) (fun _ _ => rfl))))
        (pss_cons (ps_set (i := 6) scAnswers.nd rfl (.inl rfl) (pe_call GA hr (by rfl) DA.g DA.F.kp DA.b .nil pass0 (pa_cons (pv 1) (pa_cons (pe_ix ix_list (pv 0) (pv 3) (fun _ _ => rfl)) (pa_cons (pe_slice sl_list (pv 0) (po_some (pv 4)) (po_some (pv 5))) pa_nil)))))
        (pss_cons (ps_expr (pe_bm PySem.F.plainAttrs_list PySem.F.slot_list_append PySem.F.type_list_append mt_append (pv 2) (pa_cons (pe_callB call_len_seq (by rfl) B.len PySem.boot_len (pa_cons (pv 6) pa_nil)) pa_nil)))
        (pss_cons (ps_expr (pe_bm PySem.F.plainAttrs_list PySem.F.slot_list_extend PySem.F.type_list_extend mt_extend (pv 2) (pa_cons (pv 6) pa_nil)))
        (pss_one (ps_set (i := 3) scAnswers.nd rfl (.inl rfl) (pe_op op_add (pv 5) pe_int)))))))))
      (pss_one (ps_ret (pv 2)))))), ?_⟩
    intro x dx nx nd ne
    refine ⟨x, dx, rfl, upd_same, fun H1 J kp => ⟨rfl, ?_⟩⟩
    have s1 : Same H H1 := Same.made nx nd kp
    obtain ⟨dj, Wj, hj⟩ := J
    refine ⟨Nat.zero_le _, fun o no => ?_⟩
    have s2 := same_upd (o := .lst []) no
    refine while_by (fun σ H' => ∃ (i : Nat) (st : Kp385.State) (cs : List Kp385Neutral.Call) (out : List Int) (v4 v5 v6 : Option V), σ = [some (.ref a), some (.ref x), some (.ref o), some (.int (i : Int)), v4, v5, v6] ∧ Arg K H' a o ns ∧ DeskAt C o H' x st ∧ H' o = some (.lst (iv out)) ∧ Left (ns.drop i) cs ∧ Below m cs ∧ out ++ tell st cs = tell none cs0 ∧ i ≤ ns.length)
      (fun σ _ => match σ with | [_, _, _, some (.int i), _, _, _] => ns.length - i.toNat | _ => 0) ?_ ?_ ?_
    · exact ⟨0, none, cs0, [], none, none, none, rfl, Arg.keep (Keeps.of s2) (Arg.of (s1.seq ha) no), ⟨⟨[], upd_same⟩, dj, Wj, s2 _ _ hj⟩, upd_same, hL, hm, rfl, Nat.zero_le _⟩
    · rintro σ H2 ⟨i, st, cs, out, v4, v5, v6, rfl, hA, hD, hO, hL, hm, ho, hi⟩
      refine ⟨_, rfl, _, rfl, a, _, rfl, .inl hA.sq, _, _, rfl, rfl, _, rfl, ite2 (fun e => ?_) (fun e => ?_)⟩
      · have e1 : (i : Int) < ((iv ns).length : Int) := of_decide_eq_true e
        rw [iv_len] at e1
        obtain ⟨z, l, hz⟩ : ∃ z l, ns.drop i = z :: l := ⟨_, _, List.drop_eq_getElem_cons (by omega)⟩
        rw [hz] at hL
        obtain ⟨p, xs, t, cs', hp, hfit, hsm, hl, rfl, hcall, hL'⟩ := hL.cons
        rw [hl] at hz
        have g0 : (iv ns)[i]? = some (.int (p : Int)) := get_drop (k := 0) hz rfl
        have g1 : (iv ns)[i + 1]? = some (.int (xs.length : Int)) := get_drop (k := 1) hz rfl
        have ht : ns.drop (i + 2 + xs.length + 1) = t := by
          rw [← List.drop_drop, ← List.drop_drop, ← List.drop_drop, hz]
          show List.drop 1 (List.drop xs.length (nI xs ++ 0 :: t)) = t
          have ed : List.drop xs.length (nI xs ++ 0 :: t) = 0 :: t := by
            rw [← nI_len xs]
            exact List.drop_left
          rw [ed]
          rfl
        have hsl : (ns.drop (i + 2)).take xs.length = nI xs := by
          rw [← List.drop_drop, hz]
          show List.take xs.length (nI xs ++ 0 :: t) = nI xs
          rw [← nI_len xs]
          exact List.take_left
        have hend : i + 2 + xs.length + 1 ≤ ns.length := by
          have h1 := congrArg List.length hz
          rw [List.length_drop] at h1
          simp only [List.length_cons, List.length_append, nI_len] at h1
          omega
        refine ⟨_, rfl, _, _, rfl, rfl, ?_⟩
        refine ⟨_, rfl, _, rfl, _, rfl, _, _, rfl, rfl, a, _, _, _, rfl, rfl, hA.sq, at_of (j := i + 1) (by omega) g1, _, _, rfl, rfl, ?_⟩
        refine ⟨_, rfl, _, rfl, _, rfl, a, _, _, _, rfl, rfl, hA.sq, atI_nat g0, ?_⟩
        refine ⟨_, rfl, _, rfl, _, rfl, _, rfl, _, rfl, a, _, rfl, hA.sq, fun y ny => ?_⟩
        have e2 : (i : Int) + 2 = ((i + 2 : Nat) : Int) := by omega
        have e3 : (i : Int) + 2 + (xs.length : Int) = ((i + 2 + xs.length : Nat) : Int) := by omega
        have ey : cutV (iv ns) (some ((i : Int) + 2)) (some ((i : Int) + 2 + (xs.length : Int))) = nv xs := by
          rw [e2, show ((i + 2 : Nat) : Int) + (xs.length : Int) = ((i + 2 + xs.length : Nat) : Int) by omega, iv_cut, hsl]
        rw [ey]
        have s3 := same_upd (o := .lst (nv xs)) ny
        refine ⟨x, y, o, p, st, xs, rfl, hD.same s3, SqL.of upd_same, hm p xs List.mem_cons_self, hfit, fun H3 r k3 hD3 nr hr3 => ?_⟩
        have hO3 := k3.ls _ _ (s3 _ _ hO)
        have nro : r ≠ o := fun z => by
          rw [z, s3 _ _ hO] at nr
          cases nr
        rw [tell_cons hcall] at ho
        have hol := congrArg List.length ho
        rw [List.length_append, List.length_append, List.length_cons] at hol
        have hsz : sizeLine = 16777216 := by decide
        refine ⟨_, rfl, .inl ⟨rfl, _, SqL.of hO3⟩, _, rfl, r, _, rfl, .inl (SqL.of hr3), o, _, _, rfl, rfl, hO3, by rw [iv_len]; omega, ?_⟩
        rw [iv_len, iv_snoc]
        have hO4 : (upd H3 o (.lst (iv (out ++ [((ansI (Kp385.step st (cmd p xs)).2).length : Int)])))) o = some (.lst (iv (out ++ [((ansI (Kp385.step st (cmd p xs)).2).length : Int)]))) := upd_same
        have hr4 : (upd H3 o (.lst (iv (out ++ [((ansI (Kp385.step st (cmd p xs)).2).length : Int)])))) r = some (.lst (iv (ansI (Kp385.step st (cmd p xs)).2))) := by
          rw [upd_ne nro]
          exact hr3
        refine ⟨_, rfl, .inl ⟨rfl, _, SqL.of hO4⟩, _, rfl, o, r, _, _, rfl, rfl, hO4, hr4, by rw [iv_len, iv_len, List.length_append, List.length_singleton]; omega, ?_⟩
        have ea : iv (out ++ [((ansI (Kp385.step st (cmd p xs)).2).length : Int)]) ++ iv (ansI (Kp385.step st (cmd p xs)).2) = iv (out ++ ((ansI (Kp385.step st (cmd p xs)).2).length : Int) :: ansI (Kp385.step st (cmd p xs)).2) := by
          unfold iv
          rw [← List.map_append, List.append_assoc]
          rfl
        rw [ea]
        refine ⟨_, rfl, _, _, rfl, rfl, ⟨i + 2 + xs.length + 1, (Kp385.step st (cmd p xs)).1, cs', _, some (.int ((i : Int) + 2)), some (.int ((i : Int) + 2 + (xs.length : Int))), some (.ref r), ?_, (((hA.keep (Keeps.of s3)).keep k3).grow _).grow _, (hD3.grow _).grow _, upd_same, ?_, fun p' xs' h' => hm p' xs' (List.mem_cons_of_mem _ h'), ?_, hend⟩, ?_⟩
        · rw [show ((i + 2 + xs.length + 1 : Nat) : Int) = (i : Int) + 2 + (xs.length : Int) + 1 by omega]
          rfl
        · rw [ht]
          exact hL'
        · rw [← ho, List.append_assoc]
        · show ns.length - ((i : Int) + 2 + (xs.length : Int) + 1).toNat < ns.length - (i : Int).toNat
          omega
      · have e1 : ¬ (i : Int) < ((iv ns).length : Int) := fun z => e (decide_eq_true z)
        rw [iv_len] at e1
        rw [drop_nil_of (by omega)] at hL
        rw [hL.nil] at ho
        have : out = tell none cs0 := by
          rw [← ho]
          exact (List.append_nil _).symm
        rw [this] at hO
        exact ⟨_, rfl, q _ o hO⟩
    · intro σ H' Q1 Q2 hq h
      obtain ⟨v, hv, v', hv', p', ys, e0, hs, i, j, e1, e2, k, e3, h⟩ := h
      exact ⟨v, hv, v', hv', p', ys, e0, hs, i, j, e1, e2, k, e3, hq _ _ h⟩
theorem below20 {ns : List Int} {cs : List Kp385Neutral.Call} (h : Left ns cs) : Below 20 cs := by
  intro p xs hm
  obtain ⟨p', xs', A⟩ := asked_inv (h.asked _ hm)
  have e := (List.cons.inj (List.cons.inj A.eq).1).1
  have := A.lt
  omega
end
end My
set_option Elab.async false
set_option maxRecDepth 100000
set_option maxHeartbeats 2000000
set_option linter.unusedVariables false
namespace My
open PySem PySem.Spec PyProof.Rows L2
open PySem.W (Codec)
theorem all_mk {P : Program} {w : World} {K : PySem.W.Frag} {h : Heap} {mg : Str → Option Value} {fa C fI tT : Addr} {f0 f1 f2 f3 f4 f5 f6 f7 f8 f9 f10 f11 f12 f13 f14 f15 f16 f17 f18 f19 f20 f21 f22 f23 f24 f25 f26 f27 f28 f29 f30 f31 f32 f33 f34 f35 f36 f37 f38 f39 f40 f41 f42 f43 f44 f45 : Addr} (X : K.In h) (G : h.Ns mainGlobals mg) (hfa : mg "answers" = some (.ref fa))
    {od0 an0 : Option Addr} {sl0 : Array (Option Value)} {oc0 kV0 dc0 pm0 cd0 ct0 : Value} {od1 an1 : Option Addr} {sl1 : Array (Option Value)} {oc1 kV1 dc1 pm1 cd1 ct1 : Value} {od2 an2 : Option Addr} {sl2 : Array (Option Value)} {oc2 kV2 dc2 pm2 cd2 ct2 : Value} {od3 an3 : Option Addr} {sl3 : Array (Option Value)} {oc3 kV3 dc3 pm3 cd3 ct3 : Value} {od4 an4 : Option Addr} {sl4 : Array (Option Value)} {oc4 kV4 dc4 pm4 cd4 ct4 : Value} {od5 an5 : Option Addr} {sl5 : Array (Option Value)} {oc5 kV5 dc5 pm5 cd5 ct5 : Value} {od6 an6 : Option Addr} {sl6 : Array (Option Value)} {oc6 kV6 dc6 pm6 cd6 ct6 : Value} {od7 an7 : Option Addr} {sl7 : Array (Option Value)} {oc7 kV7 dc7 pm7 cd7 ct7 : Value} {od8 an8 : Option Addr} {sl8 : Array (Option Value)} {oc8 kV8 dc8 pm8 cd8 ct8 : Value} {od9 an9 : Option Addr} {sl9 : Array (Option Value)} {oc9 kV9 dc9 pm9 cd9 ct9 : Value} {od10 an10 : Option Addr} {sl10 : Array (Option Value)} {oc10 kV10 dc10 pm10 cd10 ct10 : Value} {od11 an11 : Option Addr} {sl11 : Array (Option Value)} {oc11 kV11 dc11 pm11 cd11 ct11 : Value} {od12 an12 : Option Addr} {sl12 : Array (Option Value)} {oc12 kV12 dc12 pm12 cd12 ct12 : Value} {od13 an13 : Option Addr} {sl13 : Array (Option Value)} {oc13 kV13 dc13 pm13 cd13 ct13 : Value} {od14 an14 : Option Addr} {sl14 : Array (Option Value)} {oc14 kV14 dc14 pm14 cd14 ct14 : Value} {od15 an15 : Option Addr} {sl15 : Array (Option Value)} {oc15 kV15 dc15 pm15 cd15 ct15 : Value} {od16 an16 : Option Addr} {sl16 : Array (Option Value)} {oc16 kV16 dc16 pm16 cd16 ct16 : Value} {od17 an17 : Option Addr} {sl17 : Array (Option Value)} {oc17 kV17 dc17 pm17 cd17 ct17 : Value} {od18 an18 : Option Addr} {sl18 : Array (Option Value)} {oc18 kV18 dc18 pm18 cd18 ct18 : Value} {od19 an19 : Option Addr} {sl19 : Array (Option Value)} {oc19 kV19 dc19 pm19 cd19 ct19 : Value} {od20 an20 : Option Addr} {sl20 : Array (Option Value)} {oc20 kV20 dc20 pm20 cd20 ct20 : Value} {od21 an21 : Option Addr} {sl21 : Array (Option Value)} {oc21 kV21 dc21 pm21 cd21 ct21 : Value} {od22 an22 : Option Addr} {sl22 : Array (Option Value)} {oc22 kV22 dc22 pm22 cd22 ct22 : Value} {od23 an23 : Option Addr} {sl23 : Array (Option Value)} {oc23 kV23 dc23 pm23 cd23 ct23 : Value} {od24 an24 : Option Addr} {sl24 : Array (Option Value)} {oc24 kV24 dc24 pm24 cd24 ct24 : Value} {od25 an25 : Option Addr} {sl25 : Array (Option Value)} {oc25 kV25 dc25 pm25 cd25 ct25 : Value} {od26 an26 : Option Addr} {sl26 : Array (Option Value)} {oc26 kV26 dc26 pm26 cd26 ct26 : Value} {od27 an27 : Option Addr} {sl27 : Array (Option Value)} {oc27 kV27 dc27 pm27 cd27 ct27 : Value} {od28 an28 : Option Addr} {sl28 : Array (Option Value)} {oc28 kV28 dc28 pm28 cd28 ct28 : Value} {od29 an29 : Option Addr} {sl29 : Array (Option Value)} {oc29 kV29 dc29 pm29 cd29 ct29 : Value} {od30 an30 : Option Addr} {sl30 : Array (Option Value)} {oc30 kV30 dc30 pm30 cd30 ct30 : Value} {od31 an31 : Option Addr} {sl31 : Array (Option Value)} {oc31 kV31 dc31 pm31 cd31 ct31 : Value} {od32 an32 : Option Addr} {sl32 : Array (Option Value)} {oc32 kV32 dc32 pm32 cd32 ct32 : Value} {od33 an33 : Option Addr} {sl33 : Array (Option Value)} {oc33 kV33 dc33 pm33 cd33 ct33 : Value} {od34 an34 : Option Addr} {sl34 : Array (Option Value)} {oc34 kV34 dc34 pm34 cd34 ct34 : Value} {od35 an35 : Option Addr} {sl35 : Array (Option Value)} {oc35 kV35 dc35 pm35 cd35 ct35 : Value} {od36 an36 : Option Addr} {sl36 : Array (Option Value)} {oc36 kV36 dc36 pm36 cd36 ct36 : Value} {od37 an37 : Option Addr} {sl37 : Array (Option Value)} {oc37 kV37 dc37 pm37 cd37 ct37 : Value} {od38 an38 : Option Addr} {sl38 : Array (Option Value)} {oc38 kV38 dc38 pm38 cd38 ct38 : Value} {od39 an39 : Option Addr} {sl39 : Array (Option Value)} {oc39 kV39 dc39 pm39 cd39 ct39 : Value} {od40 an40 : Option Addr} {sl40 : Array (Option Value)} {oc40 kV40 dc40 pm40 cd40 ct40 : Value} {od41 an41 : Option Addr} {sl41 : Array (Option Value)} {oc41 kV41 dc41 pm41 cd41 ct41 : Value} {od42 an42 : Option Addr} {sl42 : Array (Option Value)} {oc42 kV42 dc42 pm42 cd42 ct42 : Value} {od43 an43 : Option Addr} {sl43 : Array (Option Value)} {oc43 kV43 dc43 pm43 cd43 ct43 : Value} {od44 an44 : Option Addr} {sl44 : Array (Option Value)} {oc44 kV44 dc44 pm44 cd44 ct44 : Value} {od45 an45 : Option Addr} {sl45 : Array (Option Value)} {oc45 kV45 dc45 pm45 cd45 ct45 : Value} {odI anI : Option Addr} {slI : Array (Option Value)} {ocI kVI dcI pmI cdI ctI : Value} {oT : Obj} {nT : Nat} {tk0 tk1 tk2 tk3 tk4 tk5 tk6 tk7 tk8 tk9 tk10 tk11 tk12 tk13 tk14 : Nat}
    (a0 : PySem.W.nsIn K mainGlobals "is_source" = some (some (.ref f0))) (l0 : K.lookup f0 = some ⟨oc0, od0, .func (PySem.W.fnOf "is_source" "is_source" (defArgs sIsSource) (defBody sIsSource) (defScope sIsSource) .none kV0 dc0 pm0 an0 cd0 ct0), sl0⟩) (c0 : PySem.W.codeIn K cd0 "is_source" = true) (k0 : PySem.W.keepIn K (.ref f0) = true)
    (a1 : PySem.W.nsIn K mainGlobals "is_word" = some (some (.ref f1))) (l1 : K.lookup f1 = some ⟨oc1, od1, .func (PySem.W.fnOf "is_word" "is_word" (defArgs sIsWord) (defBody sIsWord) (defScope sIsWord) .none kV1 dc1 pm1 an1 cd1 ct1), sl1⟩) (c1 : PySem.W.codeIn K cd1 "is_word" = true) (k1 : PySem.W.keepIn K (.ref f1) = true)
    (a2 : PySem.W.nsIn K mainGlobals "power" = some (some (.ref f2))) (l2 : K.lookup f2 = some ⟨oc2, od2, .func (PySem.W.fnOf "power" "power" (defArgs sPower) (defBody sPower) (defScope sPower) .none kV2 dc2 pm2 an2 cd2 ct2), sl2⟩) (c2 : PySem.W.codeIn K cd2 "power" = true) (k2 : PySem.W.keepIn K (.ref f2) = true)
    (a3 : PySem.W.nsIn K mainGlobals "fraction" = some (some (.ref f3))) (l3 : K.lookup f3 = some ⟨oc3, od3, .func (PySem.W.fnOf "fraction" "fraction" (defArgs sFraction) (defBody sFraction) (defScope sFraction) .none kV3 dc3 pm3 an3 cd3 ct3), sl3⟩) (c3 : PySem.W.codeIn K cd3 "fraction" = true) (k3 : PySem.W.keepIn K (.ref f3) = true)
    (a4 : PySem.W.nsIn K mainGlobals "word_weight" = some (some (.ref f4))) (l4 : K.lookup f4 = some ⟨oc4, od4, .func (PySem.W.fnOf "word_weight" "word_weight" (defArgs sWeight) (defBody sWeight) (defScope sWeight) .none kV4 dc4 pm4 an4 cd4 ct4), sl4⟩) (c4 : PySem.W.codeIn K cd4 "word_weight" = true) (k4 : PySem.W.keepIn K (.ref f4) = true)
    (a5 : PySem.W.nsIn K mainGlobals "word_chance" = some (some (.ref f5))) (l5 : K.lookup f5 = some ⟨oc5, od5, .func (PySem.W.fnOf "word_chance" "word_chance" (defArgs sChanceW) (defBody sChanceW) (defScope sChanceW) .none kV5 dc5 pm5 an5 cd5 ct5), sl5⟩) (c5 : PySem.W.codeIn K cd5 "word_chance" = true) (k5 : PySem.W.keepIn K (.ref f5) = true)
    (a6 : PySem.W.nsIn K mainGlobals "chances_compared" = some (some (.ref f6))) (l6 : K.lookup f6 = some ⟨oc6, od6, .func (PySem.W.fnOf "chances_compared" "chances_compared" (defArgs sCompared) (defBody sCompared) (defScope sCompared) .none kV6 dc6 pm6 an6 cd6 ct6), sl6⟩) (c6 : PySem.W.codeIn K cd6 "chances_compared" = true) (k6 : PySem.W.keepIn K (.ref f6) = true)
    (a7 : PySem.W.nsIn K mainGlobals "with_one_total" = some (some (.ref f7))) (l7 : K.lookup f7 = some ⟨oc7, od7, .func (PySem.W.fnOf "with_one_total" "with_one_total" (defArgs sWith) (defBody sWith) (defScope sWith) .none kV7 dc7 pm7 an7 cd7 ct7), sl7⟩) (c7 : PySem.W.codeIn K cd7 "with_one_total" = true) (k7 : PySem.W.keepIn K (.ref f7) = true)
    (a8 : PySem.W.nsIn K mainGlobals "is_same_source" = some (some (.ref f8))) (l8 : K.lookup f8 = some ⟨oc8, od8, .func (PySem.W.fnOf "is_same_source" "is_same_source" (defArgs sSameSrc) (defBody sSameSrc) (defScope sSameSrc) .none kV8 dc8 pm8 an8 cd8 ct8), sl8⟩) (c8 : PySem.W.codeIn K cd8 "is_same_source" = true) (k8 : PySem.W.keepIn K (.ref f8) = true)
    (a9 : PySem.W.nsIn K mainGlobals "one_letter_longer" = some (some (.ref f9))) (l9 : K.lookup f9 = some ⟨oc9, od9, .func (PySem.W.fnOf "one_letter_longer" "one_letter_longer" (defArgs sLonger) (defBody sLonger) (defScope sLonger) .none kV9 dc9 pm9 an9 cd9 ct9), sl9⟩) (c9 : PySem.W.codeIn K cd9 "one_letter_longer" = true) (k9 : PySem.W.keepIn K (.ref f9) = true)
    (a10 : PySem.W.nsIn K mainGlobals "all_words" = some (some (.ref f10))) (l10 : K.lookup f10 = some ⟨oc10, od10, .func (PySem.W.fnOf "all_words" "all_words" (defArgs sAll) (defBody sAll) (defScope sAll) .none kV10 dc10 pm10 an10 cd10 ct10), sl10⟩) (c10 : PySem.W.codeIn K cd10 "all_words" = true) (k10 : PySem.W.keepIn K (.ref f10) = true)
    (a11 : PySem.W.nsIn K mainGlobals "whole_of_words" = some (some (.ref f11))) (l11 : K.lookup f11 = some ⟨oc11, od11, .func (PySem.W.fnOf "whole_of_words" "whole_of_words" (defArgs sWhole) (defBody sWhole) (defScope sWhole) .none kV11 dc11 pm11 an11 cd11 ct11), sl11⟩) (c11 : PySem.W.codeIn K cd11 "whole_of_words" = true) (k11 : PySem.W.keepIn K (.ref f11) = true)
    (a12 : PySem.W.nsIn K mainGlobals "how_far_apart" = some (some (.ref f12))) (l12 : K.lookup f12 = some ⟨oc12, od12, .func (PySem.W.fnOf "how_far_apart" "how_far_apart" (defArgs sFar) (defBody sFar) (defScope sFar) .none kV12 dc12 pm12 an12 cd12 ct12), sl12⟩) (c12 : PySem.W.codeIn K cd12 "how_far_apart" = true) (k12 : PySem.W.keepIn K (.ref f12) = true)
    (a13 : PySem.W.nsIn K mainGlobals "how_often_best_errs" = some (some (.ref f13))) (l13 : K.lookup f13 = some ⟨oc13, od13, .func (PySem.W.fnOf "how_often_best_errs" "how_often_best_errs" (defArgs sErrsW) (defBody sErrsW) (defScope sErrsW) .none kV13 dc13 pm13 an13 cd13 ct13), sl13⟩) (c13 : PySem.W.codeIn K cd13 "how_often_best_errs" = true) (k13 : PySem.W.keepIn K (.ref f13) = true)
    (a14 : PySem.W.nsIn K mainGlobals "how_many_said_other" = some (some (.ref f14))) (l14 : K.lookup f14 = some ⟨oc14, od14, .func (PySem.W.fnOf "how_many_said_other" "how_many_said_other" (defArgs sSaid) (defBody sSaid) (defScope sSaid) .none kV14 dc14 pm14 an14 cd14 ct14), sl14⟩) (c14 : PySem.W.codeIn K cd14 "how_many_said_other" = true) (k14 : PySem.W.keepIn K (.ref f14) = true)
    (a15 : PySem.W.nsIn K mainGlobals "fewest_letters_apart" = some (some (.ref f15))) (l15 : K.lookup f15 = some ⟨oc15, od15, .func (PySem.W.fnOf "fewest_letters_apart" "fewest_letters_apart" (defArgs sFewest) (defBody sFewest) (defScope sFewest) .none kV15 dc15 pm15 an15 cd15 ct15), sl15⟩) (c15 : PySem.W.codeIn K cd15 "fewest_letters_apart" = true) (k15 : PySem.W.keepIn K (.ref f15) = true)
    (a16 : PySem.W.nsIn K mainGlobals "chance_above" = some (some (.ref f16))) (l16 : K.lookup f16 = some ⟨oc16, od16, .func (PySem.W.fnOf "chance_above" "chance_above" (defArgs sAboveW) (defBody sAboveW) (defScope sAboveW) .none kV16 dc16 pm16 an16 cd16 ct16), sl16⟩) (c16 : PySem.W.codeIn K cd16 "chance_above" = true) (k16 : PySem.W.keepIn K (.ref f16) = true)
    (a17 : PySem.W.nsIn K mainGlobals "weights_by_count" = some (some (.ref f17))) (l17 : K.lookup f17 = some ⟨oc17, od17, .func (PySem.W.fnOf "weights_by_count" "weights_by_count" (defArgs sCounts) (defBody sCounts) (defScope sCounts) .none kV17 dc17 pm17 an17 cd17 ct17), sl17⟩) (c17 : PySem.W.codeIn K cd17 "weights_by_count" = true) (k17 : PySem.W.keepIn K (.ref f17) = true)
    (a18 : PySem.W.nsIn K mainGlobals "chance_of_alarm" = some (some (.ref f18))) (l18 : K.lookup f18 = some ⟨oc18, od18, .func (PySem.W.fnOf "chance_of_alarm" "chance_of_alarm" (defArgs sAlarmW) (defBody sAlarmW) (defScope sAlarmW) .none kV18 dc18 pm18 an18 cd18 ct18), sl18⟩) (c18 : PySem.W.codeIn K cd18 "chance_of_alarm" = true) (k18 : PySem.W.keepIn K (.ref f18) = true)
    (a19 : PySem.W.nsIn K mainGlobals "chance_of_miss" = some (some (.ref f19))) (l19 : K.lookup f19 = some ⟨oc19, od19, .func (PySem.W.fnOf "chance_of_miss" "chance_of_miss" (defArgs sMissW) (defBody sMissW) (defScope sMissW) .none kV19 dc19 pm19 an19 cd19 ct19), sl19⟩) (c19 : PySem.W.codeIn K cd19 "chance_of_miss" = true) (k19 : PySem.W.keepIn K (.ref f19) = true)
    (a20 : PySem.W.nsIn K mainGlobals "best_told_test" = some (some (.ref f20))) (l20 : K.lookup f20 = some ⟨oc20, od20, .func (PySem.W.fnOf "best_told_test" "best_told_test" (defArgs sBest) (defBody sBest) (defScope sBest) .none kV20 dc20 pm20 an20 cd20 ct20), sl20⟩) (c20 : PySem.W.codeIn K cd20 "best_told_test" = true) (k20 : PySem.W.keepIn K (.ref f20) = true)
    (a21 : PySem.W.nsIn K mainGlobals "refusal_of_told_test" = some (some (.ref f21))) (l21 : K.lookup f21 = some ⟨oc21, od21, .func (PySem.W.fnOf "refusal_of_told_test" "refusal_of_told_test" (defArgs sRefusal) (defBody sRefusal) (defScope sRefusal) .none kV21 dc21 pm21 an21 cd21 ct21), sl21⟩) (c21 : PySem.W.codeIn K cd21 "refusal_of_told_test" = true) (k21 : PySem.W.keepIn K (.ref f21) = true)
    (a22 : PySem.W.nsIn K mainGlobals "is_bound" = some (some (.ref f22))) (l22 : K.lookup f22 = some ⟨oc22, od22, .func (PySem.W.fnOf "is_bound" "is_bound" (defArgs sIsBound) (defBody sIsBound) (defScope sIsBound) .none kV22 dc22 pm22 an22 cd22 ct22), sl22⟩) (c22 : PySem.W.codeIn K cd22 "is_bound" = true) (k22 : PySem.W.keepIn K (.ref f22) = true)
    (a23 : PySem.W.nsIn K mainGlobals "tell_source" = some (some (.ref f23))) (l23 : K.lookup f23 = some ⟨oc23, od23, .func (PySem.W.fnOf "tell_source" "tell_source" (defArgs sTell) (defBody sTell) (defScope sTell) .none kV23 dc23 pm23 an23 cd23 ct23), sl23⟩) (c23 : PySem.W.codeIn K cd23 "tell_source" = true) (k23 : PySem.W.keepIn K (.ref f23) = true)
    (a24 : PySem.W.nsIn K mainGlobals "begin" = some (some (.ref f24))) (l24 : K.lookup f24 = some ⟨oc24, od24, .func (PySem.W.fnOf "begin" "begin" (defArgs sBegin) (defBody sBegin) (defScope sBegin) .none kV24 dc24 pm24 an24 cd24 ct24), sl24⟩) (c24 : PySem.W.codeIn K cd24 "begin" = true) (k24 : PySem.W.keepIn K (.ref f24) = true)
    (a25 : PySem.W.nsIn K mainGlobals "plain" = some (some (.ref f25))) (l25 : K.lookup f25 = some ⟨oc25, od25, .func (PySem.W.fnOf "plain" "plain" (defArgs sPlain) (defBody sPlain) (defScope sPlain) .none kV25 dc25 pm25 an25 cd25 ct25), sl25⟩) (c25 : PySem.W.codeIn K cd25 "plain" = true) (k25 : PySem.W.keepIn K (.ref f25) = true)
    (a26 : PySem.W.nsIn K mainGlobals "other" = some (some (.ref f26))) (l26 : K.lookup f26 = some ⟨oc26, od26, .func (PySem.W.fnOf "other" "other" (defArgs sOther) (defBody sOther) (defScope sOther) .none kV26 dc26 pm26 an26 cd26 ct26), sl26⟩) (c26 : PySem.W.codeIn K cd26 "other" = true) (k26 : PySem.W.keepIn K (.ref f26) = true)
    (a27 : PySem.W.nsIn K mainGlobals "sourceis" = some (some (.ref f27))) (l27 : K.lookup f27 = some ⟨oc27, od27, .func (PySem.W.fnOf "sourceis" "sourceis" (defArgs sSourceis) (defBody sSourceis) (defScope sSourceis) .none kV27 dc27 pm27 an27 cd27 ct27), sl27⟩) (c27 : PySem.W.codeIn K cd27 "sourceis" = true) (k27 : PySem.W.keepIn K (.ref f27) = true)
    (a28 : PySem.W.nsIn K mainGlobals "swap" = some (some (.ref f28))) (l28 : K.lookup f28 = some ⟨oc28, od28, .func (PySem.W.fnOf "swap" "swap" (defArgs sSwap) (defBody sSwap) (defScope sSwap) .none kV28 dc28 pm28 an28 cd28 ct28), sl28⟩) (c28 : PySem.W.codeIn K cd28 "swap" = true) (k28 : PySem.W.keepIn K (.ref f28) = true)
    (a29 : PySem.W.nsIn K mainGlobals "letter" = some (some (.ref f29))) (l29 : K.lookup f29 = some ⟨oc29, od29, .func (PySem.W.fnOf "letter" "letter" (defArgs sLetter) (defBody sLetter) (defScope sLetter) .none kV29 dc29 pm29 an29 cd29 ct29), sl29⟩) (c29 : PySem.W.codeIn K cd29 "letter" = true) (k29 : PySem.W.keepIn K (.ref f29) = true)
    (a30 : PySem.W.nsIn K mainGlobals "chance" = some (some (.ref f30))) (l30 : K.lookup f30 = some ⟨oc30, od30, .func (PySem.W.fnOf "chance" "chance" (defArgs sChance) (defBody sChance) (defScope sChance) .none kV30 dc30 pm30 an30 cd30 ct30), sl30⟩) (c30 : PySem.W.codeIn K cd30 "chance" = true) (k30 : PySem.W.keepIn K (.ref f30) = true)
    (a31 : PySem.W.nsIn K mainGlobals "likelier" = some (some (.ref f31))) (l31 : K.lookup f31 = some ⟨oc31, od31, .func (PySem.W.fnOf "likelier" "likelier" (defArgs sLikelier) (defBody sLikelier) (defScope sLikelier) .none kV31 dc31 pm31 an31 cd31 ct31), sl31⟩) (c31 : PySem.W.codeIn K cd31 "likelier" = true) (k31 : PySem.W.keepIn K (.ref f31) = true)
    (a32 : PySem.W.nsIn K mainGlobals "ratio" = some (some (.ref f32))) (l32 : K.lookup f32 = some ⟨oc32, od32, .func (PySem.W.fnOf "ratio" "ratio" (defArgs sRatio) (defBody sRatio) (defScope sRatio) .none kV32 dc32 pm32 an32 cd32 ct32), sl32⟩) (c32 : PySem.W.codeIn K cd32 "ratio" = true) (k32 : PySem.W.keepIn K (.ref f32) = true)
    (a33 : PySem.W.nsIn K mainGlobals "apart" = some (some (.ref f33))) (l33 : K.lookup f33 = some ⟨oc33, od33, .func (PySem.W.fnOf "apart" "apart" (defArgs sApart) (defBody sApart) (defScope sApart) .none kV33 dc33 pm33 an33 cd33 ct33), sl33⟩) (c33 : PySem.W.codeIn K cd33 "apart" = true) (k33 : PySem.W.keepIn K (.ref f33) = true)
    (a34 : PySem.W.nsIn K mainGlobals "errs" = some (some (.ref f34))) (l34 : K.lookup f34 = some ⟨oc34, od34, .func (PySem.W.fnOf "errs" "errs" (defArgs sErrs) (defBody sErrs) (defScope sErrs) .none kV34 dc34 pm34 an34 cd34 ct34), sl34⟩) (c34 : PySem.W.codeIn K cd34 "errs" = true) (k34 : PySem.W.keepIn K (.ref f34) = true)
    (a35 : PySem.W.nsIn K mainGlobals "needed" = some (some (.ref f35))) (l35 : K.lookup f35 = some ⟨oc35, od35, .func (PySem.W.fnOf "needed" "needed" (defArgs sNeeded) (defBody sNeeded) (defScope sNeeded) .none kV35 dc35 pm35 an35 cd35 ct35), sl35⟩) (c35 : PySem.W.codeIn K cd35 "needed" = true) (k35 : PySem.W.keepIn K (.ref f35) = true)
    (a36 : PySem.W.nsIn K mainGlobals "alarms" = some (some (.ref f36))) (l36 : K.lookup f36 = some ⟨oc36, od36, .func (PySem.W.fnOf "alarms" "alarms" (defArgs sAlarms) (defBody sAlarms) (defScope sAlarms) .none kV36 dc36 pm36 an36 cd36 ct36), sl36⟩) (c36 : PySem.W.codeIn K cd36 "alarms" = true) (k36 : PySem.W.keepIn K (.ref f36) = true)
    (a37 : PySem.W.nsIn K mainGlobals "misses" = some (some (.ref f37))) (l37 : K.lookup f37 = some ⟨oc37, od37, .func (PySem.W.fnOf "misses" "misses" (defArgs sMisses) (defBody sMisses) (defScope sMisses) .none kV37 dc37 pm37 an37 cd37 ct37), sl37⟩) (c37 : PySem.W.codeIn K cd37 "misses" = true) (k37 : PySem.W.keepIn K (.ref f37) = true)
    (a38 : PySem.W.nsIn K mainGlobals "besttold" = some (some (.ref f38))) (l38 : K.lookup f38 = some ⟨oc38, od38, .func (PySem.W.fnOf "besttold" "besttold" (defArgs sBesttold) (defBody sBesttold) (defScope sBesttold) .none kV38 dc38 pm38 an38 cd38 ct38), sl38⟩) (c38 : PySem.W.codeIn K cd38 "besttold" = true) (k38 : PySem.W.keepIn K (.ref f38) = true)
    (a39 : PySem.W.nsIn K mainGlobals "above" = some (some (.ref f39))) (l39 : K.lookup f39 = some ⟨oc39, od39, .func (PySem.W.fnOf "above" "above" (defArgs sAbove) (defBody sAbove) (defScope sAbove) .none kV39 dc39 pm39 an39 cd39 ct39), sl39⟩) (c39 : PySem.W.codeIn K cd39 "above" = true) (k39 : PySem.W.keepIn K (.ref f39) = true)
    (a40 : PySem.W.nsIn K mainGlobals "says" = some (some (.ref f40))) (l40 : K.lookup f40 = some ⟨oc40, od40, .func (PySem.W.fnOf "says" "says" (defArgs sSays) (defBody sSays) (defScope sSays) .none kV40 dc40 pm40 an40 cd40 ct40), sl40⟩) (c40 : PySem.W.codeIn K cd40 "says" = true) (k40 : PySem.W.keepIn K (.ref f40) = true)
    (a41 : PySem.W.nsIn K mainGlobals "ifplain" = some (some (.ref f41))) (l41 : K.lookup f41 = some ⟨oc41, od41, .func (PySem.W.fnOf "ifplain" "ifplain" (defArgs sIfplain) (defBody sIfplain) (defScope sIfplain) .none kV41 dc41 pm41 an41 cd41 ct41), sl41⟩) (c41 : PySem.W.codeIn K cd41 "ifplain" = true) (k41 : PySem.W.keepIn K (.ref f41) = true)
    (a42 : PySem.W.nsIn K mainGlobals "samesource" = some (some (.ref f42))) (l42 : K.lookup f42 = some ⟨oc42, od42, .func (PySem.W.fnOf "samesource" "samesource" (defArgs sSamesource) (defBody sSamesource) (defScope sSamesource) .none kV42 dc42 pm42 an42 cd42 ct42), sl42⟩) (c42 : PySem.W.codeIn K cd42 "samesource" = true) (k42 : PySem.W.keepIn K (.ref f42) = true)
    (a43 : PySem.W.nsIn K mainGlobals "count" = some (some (.ref f43))) (l43 : K.lookup f43 = some ⟨oc43, od43, .func (PySem.W.fnOf "count" "count" (defArgs sCount) (defBody sCount) (defScope sCount) .none kV43 dc43 pm43 an43 cd43 ct43), sl43⟩) (c43 : PySem.W.codeIn K cd43 "count" = true) (k43 : PySem.W.keepIn K (.ref f43) = true)
    (a44 : PySem.W.nsIn K mainGlobals "answer_of_call" = some (some (.ref f44))) (l44 : K.lookup f44 = some ⟨oc44, od44, .func (PySem.W.fnOf "answer_of_call" "answer_of_call" (defArgs sCall) (defBody sCall) (defScope sCall) .none kV44 dc44 pm44 an44 cd44 ct44), sl44⟩) (c44 : PySem.W.codeIn K cd44 "answer_of_call" = true) (k44 : PySem.W.keepIn K (.ref f44) = true)
    (a45 : PySem.W.nsIn K mainGlobals "answers" = some (some (.ref f45))) (l45 : K.lookup f45 = some ⟨oc45, od45, .func (PySem.W.fnOf "answers" "answers" (defArgs sAnswers) (defBody sAnswers) (defScope sAnswers) .none kV45 dc45 pm45 an45 cd45 ct45), sl45⟩) (c45 : PySem.W.codeIn K cd45 "answers" = true) (k45 : PySem.W.keepIn K (.ref f45) = true)
    (aC : PySem.W.nsIn K mainGlobals "Desk" = some (some (.ref C))) (aI : PySem.W.findIn K (.ref C) "__init__" = some (some (.ref fI))) (iI : PySem.W.isFn K (.ref fI) = true) (lI : K.lookup fI = some ⟨ocI, odI, .func (PySem.W.fnOf "__init__" "Desk.__init__" (defArgs sInit) (defBody sInit) (defScope sInit) .none kVI dcI pmI anI cdI ctI), slI⟩) (cI : PySem.W.codeIn K cdI "Desk.__init__" = true) (kI : PySem.W.keepIn K (.ref fI) = true)
    (pg : PySem.W.plainGet K C Str.empty = true) (hd : PySem.W.hasDictIn K C = true) (po : PySem.W.plainOver K C = true) (sa : PySem.W.findIn K (.ref C) "__setattr__" = some (some (.builtin "object.__setattr__"))) (mk : PySem.W.makesIn K C = true) (kc : PySem.W.keepIn K (.ref C) = true)
    (nL : PySem.W.findIn K (.ref C) "letters" = some none) (nW : PySem.W.findIn K (.ref C) "weights" = some none)
    (v0 : PySem.W.nsIn K mainGlobals "MOST_WEIGHT" = some (some (.int 9 tk0)))
    (v1 : PySem.W.nsIn K mainGlobals "MOST_LETTERS_OF_A_WORD" = some (some (.int 6 tk1)))
    (v2 : PySem.W.nsIn K mainGlobals "NO_SUCH_LETTER" = some (some (.int (-2) tk2)))
    (v3 : PySem.W.nsIn K mainGlobals "NOT_LIKELY_BY_EITHER" = some (some (.int (-6) tk3)))
    (v4 : PySem.W.nsIn K mainGlobals "NOT_BEGUN" = some (some (.int (-11) tk4)))
    (v5 : PySem.W.nsIn K mainGlobals "NOT_AS_TOLD" = some (some (.int (-22) tk5)))
    (v6 : PySem.W.nsIn K mainGlobals "NOT_LIKELY_BY_PLAIN" = some (some (.int (-33) tk6)))
    (v7 : PySem.W.nsIn K mainGlobals "NEVER_SO_FAR_APART" = some (some (.int (-33) tk7)))
    (v8 : PySem.W.nsIn K mainGlobals "FEWEST_LETTERS" = some (some (.int 2 tk8)))
    (v9 : PySem.W.nsIn K mainGlobals "MOST_LETTERS" = some (some (.int 4 tk9)))
    (v10 : PySem.W.nsIn K mainGlobals "MOST_HUNDREDTHS" = some (some (.int 100 tk10)))
    (v11 : PySem.W.nsIn K mainGlobals "MOST_OF_A_BOUND" = some (some (.int 1000 tk11)))
    (v12 : PySem.W.nsIn K mainGlobals "PLAIN" = some (some (.int 0 tk12)))
    (v13 : PySem.W.nsIn K mainGlobals "OTHER" = some (some (.int 1 tk13)))
    (v14 : PySem.W.nsIn K mainGlobals "BEGIN" = some (some (.int 0 tk14)))
    (z0 : PySem.W.nsIn K mainGlobals "range" = some none)
    (z1 : PySem.W.nsIn K mainGlobals "sum" = some none)
    (z2 : PySem.W.nsIn K mainGlobals "len" = some none)
    (z3 : PySem.W.nsIn K mainGlobals "zip" = some none)
    (z4 : PySem.W.nsIn K mainGlobals "abs" = some none)
    (z5 : PySem.W.nsIn K mainGlobals "max" = some none)
    (z6 : PySem.W.nsIn K mainGlobals "all" = some none)
    (z7 : PySem.W.nsIn K mainGlobals "list" = some none)
    (aT : PySem.W.nsIn K mainGlobals "CALLS" = some (some (.ref tT))) (lT : K.lookup tT = some oT) (cT : oT.cls = .type "tuple") (dT : oT.data = .seq #[.ref f24, .ref f25, .ref f26, .ref f27, .ref f28, .ref f29, .ref f30, .ref f31, .ref f32, .ref f33, .ref f34, .ref f35, .ref f36, .ref f37, .ref f38, .ref f39, .ref f40, .ref f41, .ref f42, .ref f43] nT) :
    ∃ fd : FuncData, (∀ (s : Shared) (us : List Value), us.length = (["calls"] : List Str).length → BindsTo s fd ⟨us, []⟩ ((["calls"] : List Str).zip us)) ∧ ∀ base : Heap, K.In base → base.Ns mainGlobals mg → FnOk P w K mg base CX0 7 fa fd ["calls"] (spAns K 20) := by
  have e := hfa.symm.trans (PySem.W.mg_of X G a45)
  cases e
  have F0 := fun_mk (st := sIsSource) l0 c0 k0
  have b0 := F0.binds (ps := ["row", "letters"]) fun _ _ _ _ _ _ us hl => match us, hl with | [_, _], _ => rfl
  have D0 : Def K mg "is_source" sIsSource ["row", "letters"] f0 _ := ⟨F0, b0, PySem.W.mg_of X G a0⟩
  have F1 := fun_mk (st := sIsWord) l1 c1 k1
  have b1 := F1.binds (ps := ["row", "letters"]) fun _ _ _ _ _ _ us hl => match us, hl with | [_, _], _ => rfl
  have D1 : Def K mg "is_word" sIsWord ["row", "letters"] f1 _ := ⟨F1, b1, PySem.W.mg_of X G a1⟩
  have F2 := fun_mk (st := sPower) l2 c2 k2
  have b2 := F2.binds (ps := ["base", "times"]) fun _ _ _ _ _ _ us hl => match us, hl with | [_, _], _ => rfl
  have D2 : Def K mg "power" sPower ["base", "times"] f2 _ := ⟨F2, b2, PySem.W.mg_of X G a2⟩
  have F3 := fun_mk (st := sFraction) l3 c3 k3
  have b3 := F3.binds (ps := ["upper", "lower"]) fun _ _ _ _ _ _ us hl => match us, hl with | [_, _], _ => rfl
  have D3 : Def K mg "fraction" sFraction ["upper", "lower"] f3 _ := ⟨F3, b3, PySem.W.mg_of X G a3⟩
  have F4 := fun_mk (st := sWeight) l4 c4 k4
  have b4 := F4.binds (ps := ["weights", "word"]) fun _ _ _ _ _ _ us hl => match us, hl with | [_, _], _ => rfl
  have D4 : Def K mg "word_weight" sWeight ["weights", "word"] f4 _ := ⟨F4, b4, PySem.W.mg_of X G a4⟩
  have F5 := fun_mk (st := sChanceW) l5 c5 k5
  have b5 := F5.binds (ps := ["weights", "word"]) fun _ _ _ _ _ _ us hl => match us, hl with | [_, _], _ => rfl
  have D5 : Def K mg "word_chance" sChanceW ["weights", "word"] f5 _ := ⟨F5, b5, PySem.W.mg_of X G a5⟩
  have F6 := fun_mk (st := sCompared) l6 c6 k6
  have b6 := F6.binds (ps := ["plain_weights", "other_weights", "word"]) fun _ _ _ _ _ _ us hl => match us, hl with | [_, _, _], _ => rfl
  have D6 : Def K mg "chances_compared" sCompared ["plain_weights", "other_weights", "word"] f6 _ := ⟨F6, b6, PySem.W.mg_of X G a6⟩
  have F7 := fun_mk (st := sWith) l7 c7 k7
  have b7 := F7.binds (ps := ["plain_weights", "other_weights"]) fun _ _ _ _ _ _ us hl => match us, hl with | [_, _], _ => rfl
  have D7 : Def K mg "with_one_total" sWith ["plain_weights", "other_weights"] f7 _ := ⟨F7, b7, PySem.W.mg_of X G a7⟩
  have F8 := fun_mk (st := sSameSrc) l8 c8 k8
  have b8 := F8.binds (ps := ["plain_weights", "other_weights"]) fun _ _ _ _ _ _ us hl => match us, hl with | [_, _], _ => rfl
  have D8 : Def K mg "is_same_source" sSameSrc ["plain_weights", "other_weights"] f8 _ := ⟨F8, b8, PySem.W.mg_of X G a8⟩
  have F9 := fun_mk (st := sLonger) l9 c9 k9
  have b9 := F9.binds (ps := ["many_of_pairs", "level"]) fun _ _ _ _ _ _ us hl => match us, hl with | [_, _], _ => rfl
  have D9 : Def K mg "one_letter_longer" sLonger ["many_of_pairs", "level"] f9 _ := ⟨F9, b9, PySem.W.mg_of X G a9⟩
  have F10 := fun_mk (st := sAll) l10 c10 k10
  have b10 := F10.binds (ps := ["plain_weights", "other_weights", "length"]) fun _ _ _ _ _ _ us hl => match us, hl with | [_, _, _], _ => rfl
  have D10 : Def K mg "all_words" sAll ["plain_weights", "other_weights", "length"] f10 _ := ⟨F10, b10, PySem.W.mg_of X G a10⟩
  have F11 := fun_mk (st := sWhole) l11 c11 k11
  have b11 := F11.binds (ps := ["plain_weights", "other_weights", "length"]) fun _ _ _ _ _ _ us hl => match us, hl with | [_, _, _], _ => rfl
  have D11 : Def K mg "whole_of_words" sWhole ["plain_weights", "other_weights", "length"] f11 _ := ⟨F11, b11, PySem.W.mg_of X G a11⟩
  have F12 := fun_mk (st := sFar) l12 c12 k12
  have b12 := F12.binds (ps := ["plain_weights", "other_weights", "length"]) fun _ _ _ _ _ _ us hl => match us, hl with | [_, _, _], _ => rfl
  have D12 : Def K mg "how_far_apart" sFar ["plain_weights", "other_weights", "length"] f12 _ := ⟨F12, b12, PySem.W.mg_of X G a12⟩
  have F13 := fun_mk (st := sErrsW) l13 c13 k13
  have b13 := F13.binds (ps := ["plain_weights", "other_weights", "length"]) fun _ _ _ _ _ _ us hl => match us, hl with | [_, _, _], _ => rfl
  have D13 : Def K mg "how_often_best_errs" sErrsW ["plain_weights", "other_weights", "length"] f13 _ := ⟨F13, b13, PySem.W.mg_of X G a13⟩
  have F14 := fun_mk (st := sSaid) l14 c14 k14
  have b14 := F14.binds (ps := ["plain_weights", "other_weights", "length"]) fun _ _ _ _ _ _ us hl => match us, hl with | [_, _, _], _ => rfl
  have D14 : Def K mg "how_many_said_other" sSaid ["plain_weights", "other_weights", "length"] f14 _ := ⟨F14, b14, PySem.W.mg_of X G a14⟩
  have F15 := fun_mk (st := sFewest) l15 c15 k15
  have b15 := F15.binds (ps := ["plain_weights", "other_weights", "hundredths"]) fun _ _ _ _ _ _ us hl => match us, hl with | [_, _, _], _ => rfl
  have D15 : Def K mg "fewest_letters_apart" sFewest ["plain_weights", "other_weights", "hundredths"] f15 _ := ⟨F15, b15, PySem.W.mg_of X G a15⟩
  have F16 := fun_mk (st := sAboveW) l16 c16 k16
  have b16 := F16.binds (ps := ["plain_weights", "other_weights", "source", "length", "bound"]) fun _ _ _ _ _ _ us hl => match us, hl with | [_, _, _, _, _], _ => rfl
  have D16 : Def K mg "chance_above" sAboveW ["plain_weights", "other_weights", "source", "length", "bound"] f16 _ := ⟨F16, b16, PySem.W.mg_of X G a16⟩
  have F17 := fun_mk (st := sCounts) l17 c17 k17
  have b17 := F17.binds (ps := ["weights", "letter", "length"]) fun _ _ _ _ _ _ us hl => match us, hl with | [_, _, _], _ => rfl
  have D17 : Def K mg "weights_by_count" sCounts ["weights", "letter", "length"] f17 _ := ⟨F17, b17, PySem.W.mg_of X G a17⟩
  have F18 := fun_mk (st := sAlarmW) l18 c18 k18
  have b18 := F18.binds (ps := ["plain_weights", "letter", "least", "length"]) fun _ _ _ _ _ _ us hl => match us, hl with | [_, _, _, _], _ => rfl
  have D18 : Def K mg "chance_of_alarm" sAlarmW ["plain_weights", "letter", "least", "length"] f18 _ := ⟨F18, b18, PySem.W.mg_of X G a18⟩
  have F19 := fun_mk (st := sMissW) l19 c19 k19
  have b19 := F19.binds (ps := ["other_weights", "letter", "least", "length"]) fun _ _ _ _ _ _ us hl => match us, hl with | [_, _, _, _], _ => rfl
  have D19 : Def K mg "chance_of_miss" sMissW ["other_weights", "letter", "least", "length"] f19 _ := ⟨F19, b19, PySem.W.mg_of X G a19⟩
  have F20 := fun_mk (st := sBest) l20 c20 k20
  have b20 := F20.binds (ps := ["plain_weights", "other_weights", "length"]) fun _ _ _ _ _ _ us hl => match us, hl with | [_, _, _], _ => rfl
  have D20 : Def K mg "best_told_test" sBest ["plain_weights", "other_weights", "length"] f20 _ := ⟨F20, b20, PySem.W.mg_of X G a20⟩
  have F21 := fun_mk (st := sRefusal) l21 c21 k21
  have b21 := F21.binds (ps := ["desk", "asked", "length"]) fun _ _ _ _ _ _ us hl => match us, hl with | [_, _, _], _ => rfl
  have D21 : Def K mg "refusal_of_told_test" sRefusal ["desk", "asked", "length"] f21 _ := ⟨F21, b21, PySem.W.mg_of X G a21⟩
  have F22 := fun_mk (st := sIsBound) l22 c22 k22
  have b22 := F22.binds (ps := ["upper", "lower"]) fun _ _ _ _ _ _ us hl => match us, hl with | [_, _], _ => rfl
  have D22 : Def K mg "is_bound" sIsBound ["upper", "lower"] f22 _ := ⟨F22, b22, PySem.W.mg_of X G a22⟩
  have F23 := fun_mk (st := sTell) l23 c23 k23
  have b23 := F23.binds (ps := ["desk", "source", "row"]) fun _ _ _ _ _ _ us hl => match us, hl with | [_, _, _], _ => rfl
  have D23 : Def K mg "tell_source" sTell ["desk", "source", "row"] f23 _ := ⟨F23, b23, PySem.W.mg_of X G a23⟩
  have F24 := fun_mk (st := sBegin) l24 c24 k24
  have b24 := F24.binds (ps := ["desk", "numbers"]) fun _ _ _ _ _ _ us hl => match us, hl with | [_, _], _ => rfl
  have D24 : Def K mg "begin" sBegin ["desk", "numbers"] f24 _ := ⟨F24, b24, PySem.W.mg_of X G a24⟩
  have F25 := fun_mk (st := sPlain) l25 c25 k25
  have b25 := F25.binds (ps := ["desk", "numbers"]) fun _ _ _ _ _ _ us hl => match us, hl with | [_, _], _ => rfl
  have D25 : Def K mg "plain" sPlain ["desk", "numbers"] f25 _ := ⟨F25, b25, PySem.W.mg_of X G a25⟩
  have F26 := fun_mk (st := sOther) l26 c26 k26
  have b26 := F26.binds (ps := ["desk", "numbers"]) fun _ _ _ _ _ _ us hl => match us, hl with | [_, _], _ => rfl
  have D26 : Def K mg "other" sOther ["desk", "numbers"] f26 _ := ⟨F26, b26, PySem.W.mg_of X G a26⟩
  have F27 := fun_mk (st := sSourceis) l27 c27 k27
  have b27 := F27.binds (ps := ["desk", "numbers"]) fun _ _ _ _ _ _ us hl => match us, hl with | [_, _], _ => rfl
  have D27 : Def K mg "sourceis" sSourceis ["desk", "numbers"] f27 _ := ⟨F27, b27, PySem.W.mg_of X G a27⟩
  have F28 := fun_mk (st := sSwap) l28 c28 k28
  have b28 := F28.binds (ps := ["desk", "numbers"]) fun _ _ _ _ _ _ us hl => match us, hl with | [_, _], _ => rfl
  have D28 : Def K mg "swap" sSwap ["desk", "numbers"] f28 _ := ⟨F28, b28, PySem.W.mg_of X G a28⟩
  have F29 := fun_mk (st := sLetter) l29 c29 k29
  have b29 := F29.binds (ps := ["desk", "numbers"]) fun _ _ _ _ _ _ us hl => match us, hl with | [_, _], _ => rfl
  have D29 : Def K mg "letter" sLetter ["desk", "numbers"] f29 _ := ⟨F29, b29, PySem.W.mg_of X G a29⟩
  have F30 := fun_mk (st := sChance) l30 c30 k30
  have b30 := F30.binds (ps := ["desk", "numbers"]) fun _ _ _ _ _ _ us hl => match us, hl with | [_, _], _ => rfl
  have D30 : Def K mg "chance" sChance ["desk", "numbers"] f30 _ := ⟨F30, b30, PySem.W.mg_of X G a30⟩
  have F31 := fun_mk (st := sLikelier) l31 c31 k31
  have b31 := F31.binds (ps := ["desk", "numbers"]) fun _ _ _ _ _ _ us hl => match us, hl with | [_, _], _ => rfl
  have D31 : Def K mg "likelier" sLikelier ["desk", "numbers"] f31 _ := ⟨F31, b31, PySem.W.mg_of X G a31⟩
  have F32 := fun_mk (st := sRatio) l32 c32 k32
  have b32 := F32.binds (ps := ["desk", "numbers"]) fun _ _ _ _ _ _ us hl => match us, hl with | [_, _], _ => rfl
  have D32 : Def K mg "ratio" sRatio ["desk", "numbers"] f32 _ := ⟨F32, b32, PySem.W.mg_of X G a32⟩
  have F33 := fun_mk (st := sApart) l33 c33 k33
  have b33 := F33.binds (ps := ["desk", "numbers"]) fun _ _ _ _ _ _ us hl => match us, hl with | [_, _], _ => rfl
  have D33 : Def K mg "apart" sApart ["desk", "numbers"] f33 _ := ⟨F33, b33, PySem.W.mg_of X G a33⟩
  have F34 := fun_mk (st := sErrs) l34 c34 k34
  have b34 := F34.binds (ps := ["desk", "numbers"]) fun _ _ _ _ _ _ us hl => match us, hl with | [_, _], _ => rfl
  have D34 : Def K mg "errs" sErrs ["desk", "numbers"] f34 _ := ⟨F34, b34, PySem.W.mg_of X G a34⟩
  have F35 := fun_mk (st := sNeeded) l35 c35 k35
  have b35 := F35.binds (ps := ["desk", "numbers"]) fun _ _ _ _ _ _ us hl => match us, hl with | [_, _], _ => rfl
  have D35 : Def K mg "needed" sNeeded ["desk", "numbers"] f35 _ := ⟨F35, b35, PySem.W.mg_of X G a35⟩
  have F36 := fun_mk (st := sAlarms) l36 c36 k36
  have b36 := F36.binds (ps := ["desk", "numbers"]) fun _ _ _ _ _ _ us hl => match us, hl with | [_, _], _ => rfl
  have D36 : Def K mg "alarms" sAlarms ["desk", "numbers"] f36 _ := ⟨F36, b36, PySem.W.mg_of X G a36⟩
  have F37 := fun_mk (st := sMisses) l37 c37 k37
  have b37 := F37.binds (ps := ["desk", "numbers"]) fun _ _ _ _ _ _ us hl => match us, hl with | [_, _], _ => rfl
  have D37 : Def K mg "misses" sMisses ["desk", "numbers"] f37 _ := ⟨F37, b37, PySem.W.mg_of X G a37⟩
  have F38 := fun_mk (st := sBesttold) l38 c38 k38
  have b38 := F38.binds (ps := ["desk", "numbers"]) fun _ _ _ _ _ _ us hl => match us, hl with | [_, _], _ => rfl
  have D38 : Def K mg "besttold" sBesttold ["desk", "numbers"] f38 _ := ⟨F38, b38, PySem.W.mg_of X G a38⟩
  have F39 := fun_mk (st := sAbove) l39 c39 k39
  have b39 := F39.binds (ps := ["desk", "numbers"]) fun _ _ _ _ _ _ us hl => match us, hl with | [_, _], _ => rfl
  have D39 : Def K mg "above" sAbove ["desk", "numbers"] f39 _ := ⟨F39, b39, PySem.W.mg_of X G a39⟩
  have F40 := fun_mk (st := sSays) l40 c40 k40
  have b40 := F40.binds (ps := ["desk", "numbers"]) fun _ _ _ _ _ _ us hl => match us, hl with | [_, _], _ => rfl
  have D40 : Def K mg "says" sSays ["desk", "numbers"] f40 _ := ⟨F40, b40, PySem.W.mg_of X G a40⟩
  have F41 := fun_mk (st := sIfplain) l41 c41 k41
  have b41 := F41.binds (ps := ["desk", "numbers"]) fun _ _ _ _ _ _ us hl => match us, hl with | [_, _], _ => rfl
  have D41 : Def K mg "ifplain" sIfplain ["desk", "numbers"] f41 _ := ⟨F41, b41, PySem.W.mg_of X G a41⟩
  have F42 := fun_mk (st := sSamesource) l42 c42 k42
  have b42 := F42.binds (ps := ["desk", "numbers"]) fun _ _ _ _ _ _ us hl => match us, hl with | [_, _], _ => rfl
  have D42 : Def K mg "samesource" sSamesource ["desk", "numbers"] f42 _ := ⟨F42, b42, PySem.W.mg_of X G a42⟩
  have F43 := fun_mk (st := sCount) l43 c43 k43
  have b43 := F43.binds (ps := ["desk", "numbers"]) fun _ _ _ _ _ _ us hl => match us, hl with | [_, _], _ => rfl
  have D43 : Def K mg "count" sCount ["desk", "numbers"] f43 _ := ⟨F43, b43, PySem.W.mg_of X G a43⟩
  have F44 := fun_mk (st := sCall) l44 c44 k44
  have b44 := F44.binds (ps := ["desk", "number", "numbers"]) fun _ _ _ _ _ _ us hl => match us, hl with | [_, _, _], _ => rfl
  have D44 : Def K mg "answer_of_call" sCall ["desk", "number", "numbers"] f44 _ := ⟨F44, b44, PySem.W.mg_of X G a44⟩
  have F45 := fun_mk (st := sAnswers) l45 c45 k45
  have FI := fun_mk (st := sInit) lI cI kI
  have bI := FI.binds (ps := ["self"]) fun _ _ _ _ _ _ us hl => match us, hl with | [_], _ => rfl
  have Cn : Consts mg := ⟨⟨_, PySem.W.mg_of X G v0⟩, ⟨_, PySem.W.mg_of X G v1⟩, ⟨_, PySem.W.mg_of X G v2⟩, ⟨_, PySem.W.mg_of X G v3⟩, ⟨_, PySem.W.mg_of X G v4⟩, ⟨_, PySem.W.mg_of X G v5⟩, ⟨_, PySem.W.mg_of X G v6⟩, ⟨_, PySem.W.mg_of X G v7⟩, ⟨_, PySem.W.mg_of X G v8⟩, ⟨_, PySem.W.mg_of X G v9⟩, ⟨_, PySem.W.mg_of X G v10⟩, ⟨_, PySem.W.mg_of X G v11⟩, ⟨_, PySem.W.mg_of X G v12⟩, ⟨_, PySem.W.mg_of X G v13⟩, ⟨_, PySem.W.mg_of X G v14⟩⟩
  have B : Bare mg := ⟨PySem.W.mg_none_of X G z0, PySem.W.mg_none_of X G z1, PySem.W.mg_none_of X G z2, PySem.W.mg_none_of X G z3, PySem.W.mg_none_of X G z4, PySem.W.mg_none_of X G z5, PySem.W.mg_none_of X G z6, PySem.W.mg_none_of X G z7⟩
  have Cl : ClsT K mg C := ⟨⟨pg, hd, po, sa⟩, nL, nW, PySem.W.mg_of X G aC⟩
  have Wd : Words K mg := ⟨B, Cn, ⟨_, _, D0⟩, ⟨_, _, D1⟩, ⟨_, _, D2⟩, ⟨_, _, D3⟩, ⟨_, _, D4⟩, ⟨_, _, D5⟩, ⟨_, _, D6⟩, ⟨_, _, D7⟩, ⟨_, _, D8⟩, ⟨_, _, D9⟩, ⟨_, _, D10⟩, ⟨_, _, D11⟩, ⟨_, _, D12⟩, ⟨_, _, D13⟩, ⟨_, _, D14⟩, ⟨_, _, D15⟩, ⟨_, _, D16⟩, ⟨_, _, D17⟩, ⟨_, _, D18⟩, ⟨_, _, D19⟩, ⟨_, _, D20⟩⟩
  have Cs : Calls K mg f24 f25 f26 f27 f28 f29 f30 f31 f32 f33 f34 f35 f36 f37 f38 f39 f40 f41 f42 f43 := ⟨⟨_, D24⟩, ⟨_, D25⟩, ⟨_, D26⟩, ⟨_, D27⟩, ⟨_, D28⟩, ⟨_, D29⟩, ⟨_, D30⟩, ⟨_, D31⟩, ⟨_, D32⟩, ⟨_, D33⟩, ⟨_, D34⟩, ⟨_, D35⟩, ⟨_, D36⟩, ⟨_, D37⟩, ⟨_, D38⟩, ⟨_, D39⟩, ⟨_, D40⟩, ⟨_, D41⟩, ⟨_, D42⟩, ⟨_, D43⟩, ⟨_, _, D23⟩, ⟨_, _, D21⟩, ⟨_, _, D22⟩⟩
  have Tb : Tab K mg tT [f24, f25, f26, f27, f28, f29, f30, f31, f32, f33, f34, f35, f36, f37, f38, f39, f40, f41, f42, f43] := ⟨PySem.W.mg_of X G aT, fun H => .inr ⟨oT, #[.ref f24, .ref f25, .ref f26, .ref f27, .ref f28, .ref f29, .ref f30, .ref f31, .ref f32, .ref f33, .ref f34, .ref f35, .ref f36, .ref f37, .ref f38, .ref f39, .ref f40, .ref f41, .ref f42, .ref f43], nT, lT, cT, dT, by show 20 ≤ sizeLine; decide, .cons rfl (.cons rfl (.cons rfl (.cons rfl (.cons rfl (.cons rfl (.cons rfl (.cons rfl (.cons rfl (.cons rfl (.cons rfl (.cons rfl (.cons rfl (.cons rfl (.cons rfl (.cons rfl (.cons rfl (.cons rfl (.cons rfl (.cons rfl (.nil))))))))))))))))))))⟩⟩
  refine ⟨_, fun s us hu => match us, hu with | [_], _ => .of_eq rfl, fun base _ _ => ok_answers F45 Cl B ⟨mk, aI, iI, kc⟩ FI bI D44 (ok_call F44 Cs Tb Cl Wd)⟩
end My
open PySem PySem.W PyProof.Rows
set_option maxRecDepth 100000 in
set_option maxHeartbeats 8000000 in
theorem PySem.Challenge.cw_toldapartdesk_s01_answers_holds : PySem.Challenge.rw_toldapartdesk_s01_answers.Holds := by
  w_on; k_headS; (case hw => exact ⟨[.list [.int 19, .int 0, .int 0]], by decide +kernel, by decide +kernel⟩)
  k_fillS
  refine L2.walk_specK (r := PySem.Challenge.rw_toldapartdesk_s01_answers) (k := 7) (CX := L2.CX0) (ps := ["calls"]) (sp := fun K => My.spAns K 20) (by decide +kernel) rfl rfl ⟨rfl, by decide, by decide⟩ (fun w h Y => PySem.W.kIn_of Y) ?F ?S (fun _ _ _ _ z => z)
  case F =>
    intro w mg fa h Y KX G hmg
    refine' My.all_mk KX G hmg ?a0 ?l0 ?c0 ?k0 ?a1 ?l1 ?c1 ?k1 ?a2 ?l2 ?c2 ?k2 ?a3 ?l3 ?c3 ?k3 ?a4 ?l4 ?c4 ?k4 ?a5 ?l5 ?c5 ?k5 ?a6 ?l6 ?c6 ?k6 ?a7 ?l7 ?c7 ?k7 ?a8 ?l8 ?c8 ?k8 ?a9 ?l9 ?c9 ?k9 ?a10 ?l10 ?c10 ?k10 ?a11 ?l11 ?c11 ?k11 ?a12 ?l12 ?c12 ?k12 ?a13 ?l13 ?c13 ?k13 ?a14 ?l14 ?c14 ?k14 ?a15 ?l15 ?c15 ?k15 ?a16 ?l16 ?c16 ?k16 ?a17 ?l17 ?c17 ?k17 ?a18 ?l18 ?c18 ?k18 ?a19 ?l19 ?c19 ?k19 ?a20 ?l20 ?c20 ?k20 ?a21 ?l21 ?c21 ?k21 ?a22 ?l22 ?c22 ?k22 ?a23 ?l23 ?c23 ?k23 ?a24 ?l24 ?c24 ?k24 ?a25 ?l25 ?c25 ?k25 ?a26 ?l26 ?c26 ?k26 ?a27 ?l27 ?c27 ?k27 ?a28 ?l28 ?c28 ?k28 ?a29 ?l29 ?c29 ?k29 ?a30 ?l30 ?c30 ?k30 ?a31 ?l31 ?c31 ?k31 ?a32 ?l32 ?c32 ?k32 ?a33 ?l33 ?c33 ?k33 ?a34 ?l34 ?c34 ?k34 ?a35 ?l35 ?c35 ?k35 ?a36 ?l36 ?c36 ?k36 ?a37 ?l37 ?c37 ?k37 ?a38 ?l38 ?c38 ?k38 ?a39 ?l39 ?c39 ?k39 ?a40 ?l40 ?c40 ?k40 ?a41 ?l41 ?c41 ?k41 ?a42 ?l42 ?c42 ?k42 ?a43 ?l43 ?c43 ?k43 ?a44 ?l44 ?c44 ?k44 ?a45 ?l45 ?c45 ?k45 ?aC ?aI ?iI ?lI ?cI ?kI ?pg ?hd ?po ?sa ?mk ?kc ?nL ?nW ?v0 ?v1 ?v2 ?v3 ?v4 ?v5 ?v6 ?v7 ?v8 ?v9 ?v10 ?v11 ?v12 ?v13 ?v14 ?z0 ?z1 ?z2 ?z3 ?z4 ?z5 ?z6 ?z7 ?aT ?lT ?cT ?dT
    (case a0 => k_is)
    (case l0 => k_is)
    (case c0 => k_is)
    (case k0 => k_is)
    (case a1 => k_is)
    (case l1 => k_is)
    (case c1 => k_is)
    (case k1 => k_is)
    (case a2 => k_is)
    (case l2 => k_is)
    (case c2 => k_is)
    (case k2 => k_is)
    (case a3 => k_is)
    (case l3 => k_is)
    (case c3 => k_is)
    (case k3 => k_is)
    (case a4 => k_is)
    (case l4 => k_is)
    (case c4 => k_is)
    (case k4 => k_is)
    (case a5 => k_is)
    (case l5 => k_is)
    (case c5 => k_is)
    (case k5 => k_is)
    (case a6 => k_is)
    (case l6 => k_is)
    (case c6 => k_is)
    (case k6 => k_is)
    (case a7 => k_is)
    (case l7 => k_is)
    (case c7 => k_is)
    (case k7 => k_is)
    (case a8 => k_is)
    (case l8 => k_is)
    (case c8 => k_is)
    (case k8 => k_is)
    (case a9 => k_is)
    (case l9 => k_is)
    (case c9 => k_is)
    (case k9 => k_is)
    (case a10 => k_is)
    (case l10 => k_is)
    (case c10 => k_is)
    (case k10 => k_is)
    (case a11 => k_is)
    (case l11 => k_is)
    (case c11 => k_is)
    (case k11 => k_is)
    (case a12 => k_is)
    (case l12 => k_is)
    (case c12 => k_is)
    (case k12 => k_is)
    (case a13 => k_is)
    (case l13 => k_is)
    (case c13 => k_is)
    (case k13 => k_is)
    (case a14 => k_is)
    (case l14 => k_is)
    (case c14 => k_is)
    (case k14 => k_is)
    (case a15 => k_is)
    (case l15 => k_is)
    (case c15 => k_is)
    (case k15 => k_is)
    (case a16 => k_is)
    (case l16 => k_is)
    (case c16 => k_is)
    (case k16 => k_is)
    (case a17 => k_is)
    (case l17 => k_is)
    (case c17 => k_is)
    (case k17 => k_is)
    (case a18 => k_is)
    (case l18 => k_is)
    (case c18 => k_is)
    (case k18 => k_is)
    (case a19 => k_is)
    (case l19 => k_is)
    (case c19 => k_is)
    (case k19 => k_is)
    (case a20 => k_is)
    (case l20 => k_is)
    (case c20 => k_is)
    (case k20 => k_is)
    (case a21 => k_is)
    (case l21 => k_is)
    (case c21 => k_is)
    (case k21 => k_is)
    (case a22 => k_is)
    (case l22 => k_is)
    (case c22 => k_is)
    (case k22 => k_is)
    (case a23 => k_is)
    (case l23 => k_is)
    (case c23 => k_is)
    (case k23 => k_is)
    (case a24 => k_is)
    (case l24 => k_is)
    (case c24 => k_is)
    (case k24 => k_is)
    (case a25 => k_is)
    (case l25 => k_is)
    (case c25 => k_is)
    (case k25 => k_is)
    (case a26 => k_is)
    (case l26 => k_is)
    (case c26 => k_is)
    (case k26 => k_is)
    (case a27 => k_is)
    (case l27 => k_is)
    (case c27 => k_is)
    (case k27 => k_is)
    (case a28 => k_is)
    (case l28 => k_is)
    (case c28 => k_is)
    (case k28 => k_is)
    (case a29 => k_is)
    (case l29 => k_is)
    (case c29 => k_is)
    (case k29 => k_is)
    (case a30 => k_is)
    (case l30 => k_is)
    (case c30 => k_is)
    (case k30 => k_is)
    (case a31 => k_is)
    (case l31 => k_is)
    (case c31 => k_is)
    (case k31 => k_is)
    (case a32 => k_is)
    (case l32 => k_is)
    (case c32 => k_is)
    (case k32 => k_is)
    (case a33 => k_is)
    (case l33 => k_is)
    (case c33 => k_is)
    (case k33 => k_is)
    (case a34 => k_is)
    (case l34 => k_is)
    (case c34 => k_is)
    (case k34 => k_is)
    (case a35 => k_is)
    (case l35 => k_is)
    (case c35 => k_is)
    (case k35 => k_is)
    (case a36 => k_is)
    (case l36 => k_is)
    (case c36 => k_is)
    (case k36 => k_is)
    (case a37 => k_is)
    (case l37 => k_is)
    (case c37 => k_is)
    (case k37 => k_is)
    (case a38 => k_is)
    (case l38 => k_is)
    (case c38 => k_is)
    (case k38 => k_is)
    (case a39 => k_is)
    (case l39 => k_is)
    (case c39 => k_is)
    (case k39 => k_is)
    (case a40 => k_is)
    (case l40 => k_is)
    (case c40 => k_is)
    (case k40 => k_is)
    (case a41 => k_is)
    (case l41 => k_is)
    (case c41 => k_is)
    (case k41 => k_is)
    (case a42 => k_is)
    (case l42 => k_is)
    (case c42 => k_is)
    (case k42 => k_is)
    (case a43 => k_is)
    (case l43 => k_is)
    (case c43 => k_is)
    (case k43 => k_is)
    (case a44 => k_is)
    (case l44 => k_is)
    (case c44 => k_is)
    (case k44 => k_is)
    (case a45 => k_is)
    (case l45 => k_is)
    (case c45 => k_is)
    (case k45 => k_is)
    (case aC => k_is)
    (case aI => k_is)
    (case iI => k_is)
    (case lI => k_is)
    (case cI => k_is)
    (case kI => k_is)
    (case pg => k_is)
    (case hd => k_is)
    (case po => k_is)
    (case sa => k_is)
    (case mk => k_is)
    (case kc => k_is)
    (case nL => k_is)
    (case nW => k_is)
    (case v0 => k_is)
    (case v1 => k_is)
    (case v2 => k_is)
    (case v3 => k_is)
    (case v4 => k_is)
    (case v5 => k_is)
    (case v6 => k_is)
    (case v7 => k_is)
    (case v8 => k_is)
    (case v9 => k_is)
    (case v10 => k_is)
    (case v11 => k_is)
    (case v12 => k_is)
    (case v13 => k_is)
    (case v14 => k_is)
    (case z0 => k_is)
    (case z1 => k_is)
    (case z2 => k_is)
    (case z3 => k_is)
    (case z4 => k_is)
    (case z5 => k_is)
    (case z6 => k_is)
    (case z7 => k_is)
    (case aT => k_is)
    (case lT => k_is)
    (case cT => rfl)
    (case dT => rfl)
  case S =>
    intro K H xs a hO hwi hask hx
    cases hx with
    | cons h1 h2 =>
      cases h2
      cases h1 with
      | lst hs ha =>
        have e := L2.ints_dw a.1 _ ha
        subst e
        have q : PyKp385.answers_asked a.1 = true := hask
        obtain ⟨cs, hL, he, hn⟩ := My.start_left q
        refine ⟨_, a.1, cs, rfl, hs, hL, My.below20 hL, hn, fun H' p hp => ?_⟩
        rw [← he] at hp
        exact .lst (L2.SqL.of hp) (L2.dw_ints _)
