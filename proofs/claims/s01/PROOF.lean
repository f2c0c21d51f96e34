import PyProof.Rows.All
import PySi32
import PyFlatLaws
import Wide.All
import OpenK.AllK
import Wide.FinOn
import Open.SpecLaws
import KE.OsGo
import HandS.ForSpec
import HandS.TryMany
import HandS.Dict
import HandS.WordsDict
import HandS.Comp
import HandS.Iter
import PySem.Challenge.RW_sheetpages_s01_answers
import PyProof.AutoSeq1
set_option Elab.async false
set_option linter.all false
set_option maxRecDepth 100000
set_option maxHeartbeats 4000000
namespace Sh
open Si32Neutral
/-- a call as the program reads it, and what the document's machine is asked -/
inductive Is : List (List Int) → Si32.Call → Prop where
  | begins : Is [[0]] .begins
  | size (w a b n : Nat) (hw : w ≤ 1) (ha : a ≤ 4294967295) (hb : b ≤ 4294967295) (hn : n ≤ 4294967295) : Is [[1, (w : Int), a, b, n]] (.size (w == 0) a b n)
  | paper (x0 x1 x2 x3 x4 x5 : Nat) (h0 : x0 ≤ 4294967295) (h1 : x1 ≤ 4294967295) (h2 : x2 ≤ 4294967295) (h3 : x3 ≤ 4294967295) (h4 : x4 ≤ 4294967295) (h5 : x5 ≤ 4294967295) :
      Is [[2, (x0 : Int), x1, x2, x3, x4, x5]] (.paper ⟨x0, x1, x2, x3, x4, x5⟩)
  | areas (l : List Nat) (hl : ∀ x ∈ l, x ≤ 4294967295) (h4 : l.length % 4 = 0) (hm : l.length ≤ 160) (ha : (areasOf (l.map fun (n : Nat) => (n : Int))).all Si32.goodArea = true → places (areasOf (l.map fun (n : Nat) => (n : Int))) ≤ 1500) :
      Is [[3], l.map fun (n : Nat) => (n : Int)] (.areas (areasOf (l.map fun (n : Nat) => (n : Int))))
  | untitled (w : Nat) (hw : w ≤ 1) : Is [[4, (w : Int)], []] (.titles (w == 0) none)
  | titles (w a b : Nat) (hw : w ≤ 1) (ha : a ≤ 4294967295) (hb : b ≤ 4294967295) : Is [[4, (w : Int)], [(a : Int), b]] (.titles (w == 0) (some (a, b)))
  | breaks (w : Nat) (l : List Nat) (hw : w ≤ 1) (hl : ∀ x ∈ l, x ≤ 4294967295) (hm : l.length ≤ 600) : Is [[5, (w : Int)], l.map fun (n : Nat) => (n : Int)] (.breaks (w == 0) l)
  | scale (p : Nat) (hp : p ≤ 4294967295) : Is [[6, (p : Int)]] (.scale (.told p))
  | fit (w h : Nat) (hw : w ≤ 4294967295) (hh : h ≤ 4294967295) : Is [[7, (w : Int), h]] (.scale (.fit w h))
  | how (o a d : Nat) (f : Int) (ho : o ≤ 1) (ha : a ≤ 1) (hd : d ≤ 1) (h1 : -2147483648 ≤ f) (h2 : f ≤ 2147483647) : Is [[8, (o : Int), a, d, f]] (.how (o == 1) (a == 1) (d == 1) f)
  | heads (h f : List Nat) (hh : ∀ x ∈ h, x ≤ 255) (hf : ∀ x ∈ f, x ≤ 255) (mh : h.length ≤ 300) (mf : f.length ≤ 300) :
      Is [[9], h.map fun (n : Nat) => (n : Int), f.map fun (n : Nat) => (n : Int)] (.heads h f)
  | pages : Is [[10]] .pages
  | page (n : Nat) (hn : n ≤ 4294967295) : Is [[11, (n : Int)]] (.page n)
  | where_ (r c : Nat) (hr : r ≤ 4294967295) (hc : c ≤ 4294967295) : Is [[12, (r : Int), c]] (.where_ r c)
  | texts (n : Nat) (hn : n ≤ 4294967295) : Is [[13, (n : Int)]] (.texts n)

theorem within_nat {hi x : Int} (h : PyInside.within 0 hi x = true) : ∃ n : Nat, x = n ∧ (n : Int) ≤ hi := by
  simp only [PyInside.within, Bool.and_eq_true, decide_eq_true_eq] at h
  exact ⟨x.toNat, by omega, by omega⟩
theorem all_nats {hi : Int} : ∀ {l : List Int}, l.all (PyInside.within 0 hi) = true → ∃ m : List Nat, l = m.map (fun (n : Nat) => (n : Int)) ∧ ∀ x ∈ m, (x : Int) ≤ hi
  | [], _ => ⟨[], rfl, by intro x hx; cases hx⟩
  | a :: l, h => by
    simp only [List.all_cons, Bool.and_eq_true] at h
    obtain ⟨n, rfl, hn⟩ := within_nat h.1
    obtain ⟨m, rfl, hm⟩ := all_nats h.2
    refine ⟨n :: m, rfl, fun x hx => ?_⟩
    cases hx with
    | head => exact hn
    | tail _ hx => exact hm x hx
theorem nats_map (l : List Nat) : nats (l.map fun (n : Nat) => (n : Int)) = l := by
  unfold nats
  rw [List.map_map]
  induction l with
  | nil => rfl
  | cons a l ih => simp only [List.map_cons, Function.comp_apply, Int.toNat_natCast, ih]
theorem natural_of {n : Nat} {b : Nat} (h : n < 2 ^ b) : natural (n : Int) b = true := by
  have : ((n : Int)) < 2 ^ b := by exact_mod_cast h
  simp [natural, this]
theorem all_natural {b : Nat} {l : List Nat} (h : ∀ x ∈ l, x < 2 ^ b) : (l.map fun (n : Nat) => (n : Int)).all (fun z => natural z b) = true := by
  rw [List.all_eq_true]
  intro z hz
  obtain ⟨n, hn, rfl⟩ := List.mem_map.mp hz
  exact natural_of (h n hn)
/-- the spec's reading of a raw call -/
def dec (c : List (List Int)) : Option Si32.Call := callOf ((PySi32.whole c).headD [])
theorem shape_range {p : Int} {s : Nat × Nat} (h : PySi32.shape p = some s) : 0 ≤ p ∧ p ≤ 13 := by
  apply Classical.byContradiction
  intro hn
  have : PySi32.shape p = none := by
    unfold PySi32.shape
    repeat rw [if_neg (by omega)]
  rw [this] at h
  cases h
theorem len0 {l : List Int} (h : l.length = 0) : l = [] := List.length_eq_zero_iff.mp h
theorem len1 {α : Type} {l : List α} (h : l.length = 1) : ∃ a, l = [a] := by
  match l, h with | [a], _ => exact ⟨a, rfl⟩
theorem len2 {α : Type} {l : List α} (h : l.length = 2) : ∃ a b, l = [a, b] := by
  match l, h with | [a, b], _ => exact ⟨a, b, rfl⟩
theorem len4 {α : Type} {l : List α} (h : l.length = 4) : ∃ a b c d, l = [a, b, c, d] := by
  match l, h with | [a, b, c, d], _ => exact ⟨a, b, c, d, rfl⟩
theorem len6 {α : Type} {l : List α} (h : l.length = 6) : ∃ a b c d e f, l = [a, b, c, d, e, f] := by
  match l, h with | [a, b, c, d, e, f], _ => exact ⟨a, b, c, d, e, f, rfl⟩

theorem each_cons {lo hi x : Int} {b : List (Int × Int)} {xs : List Int} : PyInside.each ((lo, hi) :: b) (x :: xs) = (PyInside.within lo hi x && PyInside.each b xs) := rfl
theorem lists_cons {lo hi : Int} {le mo : Nat} {b : List (Int × Int × Nat × Nat)} {r : List Int} {rs : List (List Int)} : PyInside.lists ((lo, hi, le, mo) :: b) (r :: rs) = (decide (le ≤ r.length) && decide (r.length ≤ mo) && r.all (PyInside.within lo hi) && PyInside.lists b rs) := rfl
theorem whole_of {c : List (List Int)} {l : List Int} (e : PySi32.whole c = [l]) : dec c = callOf l := by
  unfold dec; rw [e]; rfl
theorem eq0 (w : Nat) : ((w : Int) == 0) = (w == 0) := by
  rw [Bool.eq_iff_iff]; simp
theorem eq1 (w : Nat) : ((w : Int) == 1) = (w == 1) := by
  rw [Bool.eq_iff_iff]; simp; omega
theorem bound_0 : PySi32.bound 0 = ([], []) := by
  unfold PySi32.bound
  repeat first | rw [if_pos (by decide)] | rw [if_neg (by decide)]
theorem bound_1 : PySi32.bound 1 = ([(0, 1), (0, 4294967295), (0, 4294967295), (0, 4294967295)], []) := by
  unfold PySi32.bound
  repeat first | rw [if_pos (by decide)] | rw [if_neg (by decide)]
theorem bound_2 : PySi32.bound 2 = ([(0, 4294967295), (0, 4294967295), (0, 4294967295), (0, 4294967295), (0, 4294967295), (0, 4294967295)], []) := by
  unfold PySi32.bound
  repeat first | rw [if_pos (by decide)] | rw [if_neg (by decide)]
theorem bound_3 : PySi32.bound 3 = ([], [(0, 4294967295, 0, 160)]) := by
  unfold PySi32.bound
  repeat first | rw [if_pos (by decide)] | rw [if_neg (by decide)]
theorem bound_4 : PySi32.bound 4 = ([(0, 1)], [(0, 4294967295, 0, 2)]) := by
  unfold PySi32.bound
  repeat first | rw [if_pos (by decide)] | rw [if_neg (by decide)]
theorem bound_5 : PySi32.bound 5 = ([(0, 1)], [(0, 4294967295, 0, 600)]) := by
  unfold PySi32.bound
  repeat first | rw [if_pos (by decide)] | rw [if_neg (by decide)]
theorem bound_6 : PySi32.bound 6 = ([(0, 4294967295)], []) := by
  unfold PySi32.bound
  repeat first | rw [if_pos (by decide)] | rw [if_neg (by decide)]
theorem bound_7 : PySi32.bound 7 = ([(0, 4294967295), (0, 4294967295)], []) := by
  unfold PySi32.bound
  repeat first | rw [if_pos (by decide)] | rw [if_neg (by decide)]
theorem bound_8 : PySi32.bound 8 = ([(0, 1), (0, 1), (0, 1), (-2147483648, 2147483647)], []) := by
  unfold PySi32.bound
  repeat first | rw [if_pos (by decide)] | rw [if_neg (by decide)]
theorem bound_9 : PySi32.bound 9 = ([], [(0, 255, 0, 300), (0, 255, 0, 300)]) := by
  unfold PySi32.bound
  repeat first | rw [if_pos (by decide)] | rw [if_neg (by decide)]
theorem bound_10 : PySi32.bound 10 = ([], []) := by
  unfold PySi32.bound
  repeat first | rw [if_pos (by decide)] | rw [if_neg (by decide)]
theorem bound_11 : PySi32.bound 11 = ([(0, 4294967295)], []) := by
  unfold PySi32.bound
  repeat first | rw [if_pos (by decide)] | rw [if_neg (by decide)]
theorem bound_12 : PySi32.bound 12 = ([(0, 4294967295), (0, 4294967295)], []) := by
  unfold PySi32.bound
  repeat first | rw [if_pos (by decide)] | rw [if_neg (by decide)]
theorem bound_13 : PySi32.bound 13 = ([(0, 4294967295)], []) := by
  unfold PySi32.bound
  repeat first | rw [if_pos (by decide)] | rw [if_neg (by decide)]
theorem is_of0 {a : List Int} {xs : List (List Int)} (hs : PySi32.shape 0 = some (a.length, xs.length)) (b1 : PyInside.each (PySi32.bound 0).1 a = true) (b2 : PyInside.lists (PySi32.bound 0).2 xs = true) (ha : asked1 (PySi32.whole ((0 :: a) :: xs)) = true) : ∃ q, Is ((0 :: a) :: xs) q ∧ dec ((0 :: a) :: xs) = some q := by
  have e := Option.some.inj (show some (0, 0) = some (a.length, xs.length) from hs)
  obtain rfl := len0 (Prod.mk.inj e).1.symm
  obtain rfl := List.length_eq_zero_iff.mp (Prod.mk.inj e).2.symm
  exact ⟨_, .begins, rfl⟩
theorem is_of10 {a : List Int} {xs : List (List Int)} (hs : PySi32.shape 10 = some (a.length, xs.length)) (b1 : PyInside.each (PySi32.bound 10).1 a = true) (b2 : PyInside.lists (PySi32.bound 10).2 xs = true) (ha : asked1 (PySi32.whole ((10 :: a) :: xs)) = true) : ∃ q, Is ((10 :: a) :: xs) q ∧ dec ((10 :: a) :: xs) = some q := by
  have e := Option.some.inj (show some (0, 0) = some (a.length, xs.length) from hs)
  obtain rfl := len0 (Prod.mk.inj e).1.symm
  obtain rfl := List.length_eq_zero_iff.mp (Prod.mk.inj e).2.symm
  exact ⟨_, .pages, rfl⟩
theorem c1 (w a b n : Int) : callOf [1, w, a, b, n] = if (natural w 1 && (natural a 32 && (natural b 32 && natural n 32))) = true then some (.size (w == 0) a.toNat b.toNat n.toNat) else none := rfl
theorem is_of1 {a : List Int} {xs : List (List Int)} (hs : PySi32.shape 1 = some (a.length, xs.length)) (b1 : PyInside.each (PySi32.bound 1).1 a = true) (b2 : PyInside.lists (PySi32.bound 1).2 xs = true) (ha : asked1 (PySi32.whole ((1 :: a) :: xs)) = true) : ∃ q, Is ((1 :: a) :: xs) q ∧ dec ((1 :: a) :: xs) = some q := by
  have e := Option.some.inj (show some (4, 0) = some (a.length, xs.length) from hs)
  obtain ⟨x0, x1, x2, x3, rfl⟩ := len4 (Prod.mk.inj e).1.symm
  obtain rfl := List.length_eq_zero_iff.mp (Prod.mk.inj e).2.symm
  rw [bound_1] at b1 b2
  simp only [each_cons, Bool.and_eq_true] at b1
  obtain ⟨q0, q1, q2, q3, _⟩ := b1
  obtain ⟨x0, rfl, h0⟩ := within_nat q0
  obtain ⟨x1, rfl, h1⟩ := within_nat q1
  obtain ⟨x2, rfl, h2⟩ := within_nat q2
  obtain ⟨x3, rfl, h3⟩ := within_nat q3
  refine ⟨_, .size x0 x1 x2 x3 (by omega) (by omega) (by omega) (by omega), ?_⟩
  rw [whole_of (show PySi32.whole [[1, (x0 : Int), x1, x2, x3]] = [[1, (x0 : Int), x1, x2, x3]] from rfl), c1, if_pos (by simp only [Bool.and_eq_true]; exact ⟨natural_of (by omega), natural_of (by omega), natural_of (by omega), natural_of (by omega)⟩), eq0]
  simp only [Int.toNat_natCast]
theorem c2 (w h l r t b : Int) : callOf [2, w, h, l, r, t, b] = if ([w, h, l, r, t, b].all fun (z : Int) => natural z 32) = true then some (.paper ⟨w.toNat, h.toNat, l.toNat, r.toNat, t.toNat, b.toNat⟩) else none := rfl
theorem is_of2 {a : List Int} {xs : List (List Int)} (hs : PySi32.shape 2 = some (a.length, xs.length)) (b1 : PyInside.each (PySi32.bound 2).1 a = true) (b2 : PyInside.lists (PySi32.bound 2).2 xs = true) (ha : asked1 (PySi32.whole ((2 :: a) :: xs)) = true) : ∃ q, Is ((2 :: a) :: xs) q ∧ dec ((2 :: a) :: xs) = some q := by
  have e := Option.some.inj (show some (6, 0) = some (a.length, xs.length) from hs)
  obtain ⟨x0, x1, x2, x3, x4, x5, rfl⟩ := len6 (Prod.mk.inj e).1.symm
  obtain rfl := List.length_eq_zero_iff.mp (Prod.mk.inj e).2.symm
  rw [bound_2] at b1 b2
  simp only [each_cons, Bool.and_eq_true] at b1
  obtain ⟨q0, q1, q2, q3, q4, q5, _⟩ := b1
  obtain ⟨x0, rfl, h0⟩ := within_nat q0
  obtain ⟨x1, rfl, h1⟩ := within_nat q1
  obtain ⟨x2, rfl, h2⟩ := within_nat q2
  obtain ⟨x3, rfl, h3⟩ := within_nat q3
  obtain ⟨x4, rfl, h4⟩ := within_nat q4
  obtain ⟨x5, rfl, h5⟩ := within_nat q5
  refine ⟨_, .paper x0 x1 x2 x3 x4 x5 (by omega) (by omega) (by omega) (by omega) (by omega) (by omega), ?_⟩
  rw [whole_of (show PySi32.whole [[2, (x0 : Int), x1, x2, x3, x4, x5]] = [[2, (x0 : Int), x1, x2, x3, x4, x5]] from rfl), c2, if_pos (by
    simp only [List.all_cons, List.all_nil, Bool.and_eq_true]
    exact ⟨natural_of (by omega), natural_of (by omega), natural_of (by omega), natural_of (by omega), natural_of (by omega), natural_of (by omega), trivial⟩)]
  simp only [Int.toNat_natCast]
theorem c3 (n : Int) (l : List Int) : callOf (3 :: n :: l) = if (l.all fun (z : Int) => natural z 32) = true ∧ (l.length : Int) = 4 * n then some (.areas (areasOf l)) else none := rfl
theorem asked_of {c : List (List Int)} {l : List Int} (e : PySi32.whole c = [l]) (h : asked1 (PySi32.whole c) = true) : (match callOf l with
    | some (.areas l) => !(l.all Si32.goodArea) || decide (places l ≤ 1500)
    | some _ => true
    | none => false) = true := by
  rw [e] at h
  have z : (decide True && (match callOf l with
    | some (.areas l) => !(l.all Si32.goodArea) || decide (places l ≤ 1500)
    | some _ => true
    | none => false)) = true := h
  exact (Bool.and_eq_true_iff.mp z).2
theorem is_of3 {a : List Int} {xs : List (List Int)} (hs : PySi32.shape 3 = some (a.length, xs.length)) (b1 : PyInside.each (PySi32.bound 3).1 a = true) (b2 : PyInside.lists (PySi32.bound 3).2 xs = true) (ha : asked1 (PySi32.whole ((3 :: a) :: xs)) = true) : ∃ q, Is ((3 :: a) :: xs) q ∧ dec ((3 :: a) :: xs) = some q := by
  have e := Option.some.inj (show some (0, 1) = some (a.length, xs.length) from hs)
  obtain rfl := len0 (Prod.mk.inj e).1.symm
  obtain ⟨r, rfl⟩ := len1 (Prod.mk.inj e).2.symm
  rw [bound_3] at b1 b2
  simp only [lists_cons, Bool.and_eq_true, decide_eq_true_eq] at b2
  obtain ⟨⟨⟨_, hm⟩, hr⟩, _⟩ := b2
  obtain ⟨l, rfl, hl⟩ := all_nats hr
  rw [List.length_map] at hm
  have e1 : PySi32.whole [[3], l.map fun (n : Nat) => (n : Int)] = [3 :: (((l.map fun (n : Nat) => (n : Int)).length : Int) / 4) :: l.map fun (n : Nat) => (n : Int)] := by
    show [[3] ++ [_] ++ _] = _
    simp
  have ha' := asked_of e1 ha
  by_cases h4 : l.length % 4 = 0
  · have hd2 : callOf (3 :: (((l.map fun (n : Nat) => (n : Int)).length : Int) / 4) :: l.map fun (n : Nat) => (n : Int)) = some (.areas (areasOf (l.map fun (n : Nat) => (n : Int)))) := by
      rw [c3, if_pos ⟨all_natural fun x hx => by have := hl x hx; omega, by rw [List.length_map]; omega⟩]
    rw [hd2] at ha'
    refine ⟨_, .areas l (fun x hx => by have := hl x hx; omega) h4 hm fun g => ?_, (whole_of e1).trans hd2⟩
    have z : (!((areasOf (l.map fun (n : Nat) => (n : Int))).all Si32.goodArea) || decide (places (areasOf (l.map fun (n : Nat) => (n : Int))) ≤ 1500)) = true := ha'
    rw [g] at z
    simpa using z
  · rw [c3, if_neg (fun z => h4 (by have := z.2; rw [List.length_map] at this; omega))] at ha'
    cases ha'
theorem c4 (w : Int) : callOf [4, w, 0] = if natural w 1 = true then some (.titles (w == 0) none) else none := rfl
theorem c4' (w x : Int) : callOf [4, w, 0, x] = none := rfl
theorem c4'' (w a b : Int) : callOf [4, w, 1, a, b] = if (natural w 1 && (natural a 32 && natural b 32)) = true then some (.titles (w == 0) (some (a.toNat, b.toNat))) else none := rfl
theorem w4 (w : Int) (r : List Int) {k : Int} (h : (r.length : Int) / 2 = k) : PySi32.whole [[4, w], r] = [4 :: w :: k :: r] := by
  show [[4] ++ [w] ++ [(r.length : Int) / 2] ++ r] = _
  rw [h]; simp
theorem is_of4 {a : List Int} {xs : List (List Int)} (hs : PySi32.shape 4 = some (a.length, xs.length)) (b1 : PyInside.each (PySi32.bound 4).1 a = true) (b2 : PyInside.lists (PySi32.bound 4).2 xs = true) (ha : asked1 (PySi32.whole ((4 :: a) :: xs)) = true) : ∃ q, Is ((4 :: a) :: xs) q ∧ dec ((4 :: a) :: xs) = some q := by
  have e := Option.some.inj (show some (1, 1) = some (a.length, xs.length) from hs)
  obtain ⟨x0, rfl⟩ := len1 (Prod.mk.inj e).1.symm
  obtain ⟨r, rfl⟩ := len1 (Prod.mk.inj e).2.symm
  rw [bound_4] at b1 b2
  simp only [each_cons, Bool.and_eq_true] at b1
  obtain ⟨q0, _⟩ := b1
  obtain ⟨x0, rfl, h0⟩ := within_nat q0
  simp only [lists_cons, Bool.and_eq_true, decide_eq_true_eq] at b2
  obtain ⟨⟨⟨_, hm⟩, hr⟩, _⟩ := b2
  obtain ⟨l, rfl, hl⟩ := all_nats hr
  rw [List.length_map] at hm
  match l, hm, hl, ha with
  | [], _, _, _ =>
    refine ⟨_, .untitled x0 (by omega), ?_⟩
    rw [List.map_nil, whole_of (w4 (x0 : Int) [] (k := 0) (by decide)), c4, if_pos (natural_of (by omega)), eq0]
  | [x], _, _, ha =>
    have ha' := asked_of (w4 (x0 : Int) [(x : Int)] (k := 0) (show ((1 : Nat) : Int) / 2 = 0 by decide)) ha
    rw [c4'] at ha'
    cases ha'
  | [x, y], _, hl, _ =>
    have hx := hl x (List.Mem.head _)
    have hy := hl y (List.Mem.tail _ (List.Mem.head _))
    refine ⟨_, .titles x0 x y (by omega) (by omega) (by omega), ?_⟩
    rw [List.map_cons, List.map_cons, List.map_nil, whole_of (w4 (x0 : Int) [(x : Int), (y : Int)] (k := 1) (show ((2 : Nat) : Int) / 2 = 1 by decide)), c4'', if_pos (by simp only [Bool.and_eq_true]; exact ⟨natural_of (by omega), natural_of (by omega), natural_of (by omega)⟩), eq0]
    simp only [Int.toNat_natCast]
theorem c5 (w n : Int) (l : List Int) : callOf (5 :: w :: n :: l) = if (natural w 1 && l.all fun (z : Int) => natural z 32) = true ∧ (l.length : Int) = n then some (.breaks (w == 0) (nats l)) else none := rfl
theorem is_of5 {a : List Int} {xs : List (List Int)} (hs : PySi32.shape 5 = some (a.length, xs.length)) (b1 : PyInside.each (PySi32.bound 5).1 a = true) (b2 : PyInside.lists (PySi32.bound 5).2 xs = true) (ha : asked1 (PySi32.whole ((5 :: a) :: xs)) = true) : ∃ q, Is ((5 :: a) :: xs) q ∧ dec ((5 :: a) :: xs) = some q := by
  have e := Option.some.inj (show some (1, 1) = some (a.length, xs.length) from hs)
  obtain ⟨x0, rfl⟩ := len1 (Prod.mk.inj e).1.symm
  obtain ⟨r, rfl⟩ := len1 (Prod.mk.inj e).2.symm
  rw [bound_5] at b1 b2
  simp only [each_cons, Bool.and_eq_true] at b1
  obtain ⟨q0, _⟩ := b1
  obtain ⟨x0, rfl, h0⟩ := within_nat q0
  simp only [lists_cons, Bool.and_eq_true, decide_eq_true_eq] at b2
  obtain ⟨⟨⟨_, hm⟩, hr⟩, _⟩ := b2
  obtain ⟨l, rfl, hl⟩ := all_nats hr
  rw [List.length_map] at hm
  refine ⟨_, .breaks x0 l (by omega) (fun x hx => by have := hl x hx; omega) hm, ?_⟩
  have e1 : PySi32.whole [[5, (x0 : Int)], l.map fun (n : Nat) => (n : Int)] = [5 :: (x0 : Int) :: ((l.map fun (n : Nat) => (n : Int)).length : Int) :: l.map fun (n : Nat) => (n : Int)] := by
    show [[5] ++ [_] ++ [_] ++ _] = _
    simp
  rw [whole_of e1, c5, if_pos ⟨by simp only [Bool.and_eq_true]; exact ⟨natural_of (by omega), all_natural fun x hx => by have := hl x hx; omega⟩, rfl⟩, eq0, nats_map]
theorem c6 (p : Int) : callOf [6, p] = if natural p 32 = true then some (.scale (.told p.toNat)) else none := rfl
theorem is_of6 {a : List Int} {xs : List (List Int)} (hs : PySi32.shape 6 = some (a.length, xs.length)) (b1 : PyInside.each (PySi32.bound 6).1 a = true) (b2 : PyInside.lists (PySi32.bound 6).2 xs = true) (ha : asked1 (PySi32.whole ((6 :: a) :: xs)) = true) : ∃ q, Is ((6 :: a) :: xs) q ∧ dec ((6 :: a) :: xs) = some q := by
  have e := Option.some.inj (show some (1, 0) = some (a.length, xs.length) from hs)
  obtain ⟨x0, rfl⟩ := len1 (Prod.mk.inj e).1.symm
  obtain rfl := List.length_eq_zero_iff.mp (Prod.mk.inj e).2.symm
  rw [bound_6] at b1 b2
  simp only [each_cons, Bool.and_eq_true] at b1
  obtain ⟨q0, _⟩ := b1
  obtain ⟨x0, rfl, h0⟩ := within_nat q0
  refine ⟨_, .scale x0 (by omega), ?_⟩
  rw [whole_of (show PySi32.whole [[6, (x0 : Int)]] = [[6, (x0 : Int)]] from rfl), c6, if_pos (natural_of (by omega))]
  simp only [Int.toNat_natCast]
theorem c7 (w h : Int) : callOf [7, w, h] = if (natural w 32 && natural h 32) = true then some (.scale (.fit w.toNat h.toNat)) else none := rfl
theorem is_of7 {a : List Int} {xs : List (List Int)} (hs : PySi32.shape 7 = some (a.length, xs.length)) (b1 : PyInside.each (PySi32.bound 7).1 a = true) (b2 : PyInside.lists (PySi32.bound 7).2 xs = true) (ha : asked1 (PySi32.whole ((7 :: a) :: xs)) = true) : ∃ q, Is ((7 :: a) :: xs) q ∧ dec ((7 :: a) :: xs) = some q := by
  have e := Option.some.inj (show some (2, 0) = some (a.length, xs.length) from hs)
  obtain ⟨x0, x1, rfl⟩ := len2 (Prod.mk.inj e).1.symm
  obtain rfl := List.length_eq_zero_iff.mp (Prod.mk.inj e).2.symm
  rw [bound_7] at b1 b2
  simp only [each_cons, Bool.and_eq_true] at b1
  obtain ⟨q0, q1, _⟩ := b1
  obtain ⟨x0, rfl, h0⟩ := within_nat q0
  obtain ⟨x1, rfl, h1⟩ := within_nat q1
  refine ⟨_, .fit x0 x1 (by omega) (by omega), ?_⟩
  rw [whole_of (show PySi32.whole [[7, (x0 : Int), x1]] = [[7, (x0 : Int), x1]] from rfl), c7, if_pos (by simp only [Bool.and_eq_true]; exact ⟨natural_of (by omega), natural_of (by omega)⟩)]
  simp only [Int.toNat_natCast]
theorem c8 (o a d f : Int) : callOf [8, o, a, d, f] = if (natural o 1 && (natural a 1 && (natural d 1 && (decide (-2147483648 ≤ f) && decide (f ≤ 2147483647))))) = true then some (.how (o == 1) (a == 1) (d == 1) f) else none := rfl
theorem is_of8 {a : List Int} {xs : List (List Int)} (hs : PySi32.shape 8 = some (a.length, xs.length)) (b1 : PyInside.each (PySi32.bound 8).1 a = true) (b2 : PyInside.lists (PySi32.bound 8).2 xs = true) (ha : asked1 (PySi32.whole ((8 :: a) :: xs)) = true) : ∃ q, Is ((8 :: a) :: xs) q ∧ dec ((8 :: a) :: xs) = some q := by
  have e := Option.some.inj (show some (4, 0) = some (a.length, xs.length) from hs)
  obtain ⟨x0, x1, x2, x3, rfl⟩ := len4 (Prod.mk.inj e).1.symm
  obtain rfl := List.length_eq_zero_iff.mp (Prod.mk.inj e).2.symm
  rw [bound_8] at b1 b2
  simp only [each_cons, Bool.and_eq_true] at b1
  obtain ⟨q0, q1, q2, q3, _⟩ := b1
  obtain ⟨x0, rfl, h0⟩ := within_nat q0
  obtain ⟨x1, rfl, h1⟩ := within_nat q1
  obtain ⟨x2, rfl, h2⟩ := within_nat q2
  simp only [PyInside.within, Bool.and_eq_true, decide_eq_true_eq] at q3
  refine ⟨_, .how x0 x1 x2 x3 (by omega) (by omega) (by omega) q3.1 q3.2, ?_⟩
  rw [whole_of (show PySi32.whole [[8, (x0 : Int), x1, x2, x3]] = [[8, (x0 : Int), x1, x2, x3]] from rfl), c8, if_pos (by simp only [Bool.and_eq_true, decide_eq_true_eq]; exact ⟨natural_of (by omega), natural_of (by omega), natural_of (by omega), q3.1, q3.2⟩), eq1, eq1, eq1]
theorem c9 (n : Int) (l : List Int) : callOf (9 :: n :: l) = (match l.drop n.toNat with
    | m :: f => if (natural n 32 && (decide (((l.take n.toNat).length : Int) = n) && ((l.take n.toNat).all (fun (z : Int) => natural z 8) && (f.all fun (z : Int) => natural z 8)))) = true ∧ (f.length : Int) = m then some (.heads (nats (l.take n.toNat)) (nats f)) else none
    | [] => none) := rfl
theorem c9' (h f : List Nat) (hh : ∀ x ∈ h, x ≤ 255) (hf : ∀ x ∈ f, x ≤ 255) (mh : h.length ≤ 300) : callOf (9 :: ((h.map fun (n : Nat) => (n : Int)).length : Int) :: ((h.map fun (n : Nat) => (n : Int)) ++ (((f.map fun (n : Nat) => (n : Int)).length : Int) :: f.map fun (n : Nat) => (n : Int)))) = some (.heads h f) := by
  have a1 : (h.map fun (n : Nat) => (n : Int)).all (fun (z : Int) => natural z 8) = true := all_natural fun x hx => by have := hh x hx; omega
  have a2 : (f.map fun (n : Nat) => (n : Int)).all (fun (z : Int) => natural z 8) = true := all_natural fun x hx => by have := hf x hx; omega
  have hlen : (h.map fun (n : Nat) => (n : Int)).length < 2 ^ 32 := by rw [List.length_map]; omega
  have n1 := nats_map h
  have n2 := nats_map f
  generalize (h.map fun (n : Nat) => (n : Int)) = x at *
  generalize (f.map fun (n : Nat) => (n : Int)) = y at *
  have et : (x ++ ((y.length : Int) :: y)).take (x.length : Int).toNat = x := by
    rw [Int.toNat_natCast]; exact PyFlat.take_len _ _
  have ed : (x ++ ((y.length : Int) :: y)).drop (x.length : Int).toNat = (y.length : Int) :: y := by
    rw [Int.toNat_natCast]; exact PyFlat.drop_len _ _
  rw [c9, ed, et]
  dsimp only
  rw [if_pos ⟨by simp only [Bool.and_eq_true, decide_eq_true_eq]; exact ⟨natural_of hlen, trivial, a1, a2⟩, rfl⟩, n1, n2]
theorem is_of9 {a : List Int} {xs : List (List Int)} (hs : PySi32.shape 9 = some (a.length, xs.length)) (b1 : PyInside.each (PySi32.bound 9).1 a = true) (b2 : PyInside.lists (PySi32.bound 9).2 xs = true) (ha : asked1 (PySi32.whole ((9 :: a) :: xs)) = true) : ∃ q, Is ((9 :: a) :: xs) q ∧ dec ((9 :: a) :: xs) = some q := by
  have e := Option.some.inj (show some (0, 2) = some (a.length, xs.length) from hs)
  obtain rfl := len0 (Prod.mk.inj e).1.symm
  obtain ⟨r, u, rfl⟩ := len2 (Prod.mk.inj e).2.symm
  rw [bound_9] at b1 b2
  simp only [lists_cons, Bool.and_eq_true, decide_eq_true_eq] at b2
  obtain ⟨⟨⟨_, hm⟩, hr⟩, ⟨⟨_, hm2⟩, hr2⟩, _⟩ := b2
  obtain ⟨l, rfl, hl⟩ := all_nats hr
  obtain ⟨l2, rfl, hl2⟩ := all_nats hr2
  rw [List.length_map] at hm hm2
  refine ⟨_, .heads l l2 (fun x hx => by have := hl x hx; omega) (fun x hx => by have := hl2 x hx; omega) hm hm2, ?_⟩
  have e1 : PySi32.whole [[9], l.map fun (n : Nat) => (n : Int), l2.map fun (n : Nat) => (n : Int)] = [9 :: ((l.map fun (n : Nat) => (n : Int)).length : Int) :: ((l.map fun (n : Nat) => (n : Int)) ++ (((l2.map fun (n : Nat) => (n : Int)).length : Int) :: l2.map fun (n : Nat) => (n : Int)))] := by
    show [[9] ++ [_] ++ _ ++ [_] ++ _] = _
    simp
  rw [whole_of e1]
  exact c9' l l2 (fun x hx => by have := hl x hx; omega) (fun x hx => by have := hl2 x hx; omega) hm
theorem c11 (n : Int) : callOf [11, n] = if natural n 32 = true then some (.page n.toNat) else none := rfl
theorem is_of11 {a : List Int} {xs : List (List Int)} (hs : PySi32.shape 11 = some (a.length, xs.length)) (b1 : PyInside.each (PySi32.bound 11).1 a = true) (b2 : PyInside.lists (PySi32.bound 11).2 xs = true) (ha : asked1 (PySi32.whole ((11 :: a) :: xs)) = true) : ∃ q, Is ((11 :: a) :: xs) q ∧ dec ((11 :: a) :: xs) = some q := by
  have e := Option.some.inj (show some (1, 0) = some (a.length, xs.length) from hs)
  obtain ⟨x0, rfl⟩ := len1 (Prod.mk.inj e).1.symm
  obtain rfl := List.length_eq_zero_iff.mp (Prod.mk.inj e).2.symm
  rw [bound_11] at b1 b2
  simp only [each_cons, Bool.and_eq_true] at b1
  obtain ⟨q0, _⟩ := b1
  obtain ⟨x0, rfl, h0⟩ := within_nat q0
  refine ⟨_, .page x0 (by omega), ?_⟩
  rw [whole_of (show PySi32.whole [[11, (x0 : Int)]] = [[11, (x0 : Int)]] from rfl), c11, if_pos (natural_of (by omega))]
  simp only [Int.toNat_natCast]
theorem c12 (r c : Int) : callOf [12, r, c] = if (natural r 32 && natural c 32) = true then some (.where_ r.toNat c.toNat) else none := rfl
theorem is_of12 {a : List Int} {xs : List (List Int)} (hs : PySi32.shape 12 = some (a.length, xs.length)) (b1 : PyInside.each (PySi32.bound 12).1 a = true) (b2 : PyInside.lists (PySi32.bound 12).2 xs = true) (ha : asked1 (PySi32.whole ((12 :: a) :: xs)) = true) : ∃ q, Is ((12 :: a) :: xs) q ∧ dec ((12 :: a) :: xs) = some q := by
  have e := Option.some.inj (show some (2, 0) = some (a.length, xs.length) from hs)
  obtain ⟨x0, x1, rfl⟩ := len2 (Prod.mk.inj e).1.symm
  obtain rfl := List.length_eq_zero_iff.mp (Prod.mk.inj e).2.symm
  rw [bound_12] at b1 b2
  simp only [each_cons, Bool.and_eq_true] at b1
  obtain ⟨q0, q1, _⟩ := b1
  obtain ⟨x0, rfl, h0⟩ := within_nat q0
  obtain ⟨x1, rfl, h1⟩ := within_nat q1
  refine ⟨_, .where_ x0 x1 (by omega) (by omega), ?_⟩
  rw [whole_of (show PySi32.whole [[12, (x0 : Int), x1]] = [[12, (x0 : Int), x1]] from rfl), c12, if_pos (by simp only [Bool.and_eq_true]; exact ⟨natural_of (by omega), natural_of (by omega)⟩)]
  simp only [Int.toNat_natCast]
theorem c13 (n : Int) : callOf [13, n] = if natural n 32 = true then some (.texts n.toNat) else none := rfl
theorem is_of13 {a : List Int} {xs : List (List Int)} (hs : PySi32.shape 13 = some (a.length, xs.length)) (b1 : PyInside.each (PySi32.bound 13).1 a = true) (b2 : PyInside.lists (PySi32.bound 13).2 xs = true) (ha : asked1 (PySi32.whole ((13 :: a) :: xs)) = true) : ∃ q, Is ((13 :: a) :: xs) q ∧ dec ((13 :: a) :: xs) = some q := by
  have e := Option.some.inj (show some (1, 0) = some (a.length, xs.length) from hs)
  obtain ⟨x0, rfl⟩ := len1 (Prod.mk.inj e).1.symm
  obtain rfl := List.length_eq_zero_iff.mp (Prod.mk.inj e).2.symm
  rw [bound_13] at b1 b2
  simp only [each_cons, Bool.and_eq_true] at b1
  obtain ⟨q0, _⟩ := b1
  obtain ⟨x0, rfl, h0⟩ := within_nat q0
  refine ⟨_, .texts x0 (by omega), ?_⟩
  rw [whole_of (show PySi32.whole [[13, (x0 : Int)]] = [[13, (x0 : Int)]] from rfl), c13, if_pos (natural_of (by omega))]
  simp only [Int.toNat_natCast]
theorem is_of {c : List (List Int)} (ok : PyFlat.okCall PySi32.shape c) (hb : PyInside.call PySi32.bound c = true) (ha : asked1 (PySi32.whole c) = true) : ∃ q, Is c q ∧ dec c = some q := by
  obtain ⟨p, a, xs, rfl, hs⟩ := ok
  obtain ⟨p0, p1⟩ := shape_range hs
  have hb' : (PyInside.each (PySi32.bound p).1 a && PyInside.lists (PySi32.bound p).2 xs) = true := hb
  rw [Bool.and_eq_true] at hb'
  obtain ⟨b1, b2⟩ := hb'
  have hp : p = 0 ∨ p = 1 ∨ p = 2 ∨ p = 3 ∨ p = 4 ∨ p = 5 ∨ p = 6 ∨ p = 7 ∨ p = 8 ∨ p = 9 ∨ p = 10 ∨ p = 11 ∨ p = 12 ∨ p = 13 := by omega
  rcases hp with rfl | rfl | rfl | rfl | rfl | rfl | rfl | rfl | rfl | rfl | rfl | rfl | rfl | rfl
  · exact is_of0 hs b1 b2 ha
  · exact is_of1 hs b1 b2 ha
  · exact is_of2 hs b1 b2 ha
  · exact is_of3 hs b1 b2 ha
  · exact is_of4 hs b1 b2 ha
  · exact is_of5 hs b1 b2 ha
  · exact is_of6 hs b1 b2 ha
  · exact is_of7 hs b1 b2 ha
  · exact is_of8 hs b1 b2 ha
  · exact is_of9 hs b1 b2 ha
  · exact is_of10 hs b1 b2 ha
  · exact is_of11 hs b1 b2 ha
  · exact is_of12 hs b1 b2 ha
  · exact is_of13 hs b1 b2 ha
end Sh

namespace Sh
open Si32Neutral
/-! ### a line of calls, as the document's machine is asked -/
structure Line (l : List Int) (raw : List (List (List Int))) : Prop where
  flat : l = PyFlat.put raw
  some_ : raw ≠ []
  few : raw.length ≤ 200
  each : ∀ c ∈ raw, PyFlat.okCall PySi32.shape c ∧ ∃ q, Is c q ∧ dec c = some q
  short : Si32Neutral.short start 999999 (raw.map PySi32.whole) = true
  due : PySi32.answers l = PyFlat.told (PyFlat.played Si32Neutral.step start (raw.map PySi32.whole))
theorem line_of {l : List Int} (h : PySi32.answers_asked l = true) : ∃ raw, Line l raw := by
  unfold PySi32.answers_asked at h
  cases e : PyFlat.calls PySi32.shape l.length l with
  | none => rw [e] at h; cases h
  | some raw =>
    rw [e] at h
    have h' : (!raw.isEmpty && PyFlat.atMost 200 raw && PyInside.calls PySi32.bound raw && Si32Neutral.asked (raw.map PySi32.whole) && PyFlat.short 10000000 (PySi32.answers l)) = true := h
    simp only [Bool.and_eq_true] at h'
    obtain ⟨⟨⟨⟨h1, h2⟩, h3⟩, h4⟩, h5⟩ := h'
    obtain ⟨e1, e2⟩ := PyFlat.put_calls _ _ _ e
    unfold Si32Neutral.asked at h4
    simp only [Bool.and_eq_true] at h4
    obtain ⟨g1, g2, g3, g4, g5⟩ := h4
    refine ⟨raw, e1, ?_, ?_, fun c hc => ⟨e2 c hc, ?_⟩, g5, ?_⟩
    · intro z; subst z; simp at h1
    · exact of_decide_eq_true h2
    · refine is_of (e2 c hc) (List.all_eq_true.mp h3 c hc) ?_
      exact List.all_eq_true.mp g1 _ (List.mem_map.mpr ⟨c, hc, rfl⟩)
    · have : PySi32.calls l = some (raw.map PySi32.whole) := by
        unfold PySi32.calls; rw [e]
      unfold PySi32.answers
      rw [this]
/-- one call of the machine -/
theorem step_dec {c : List (List Int)} {q : Si32.Call} (h : dec c = some q) (s : Si32.St) : Si32Neutral.step s (PySi32.whole c) = ((Si32.step s q).1, (Si32.step s q).2.v :: (Si32.step s q).2.l) := by
  unfold dec at h
  unfold Si32Neutral.step
  rw [h]
/-- the states of the line, the answers so far -/
def stateAt (raw : List (List (List Int))) (s : Si32.St) : Si32.St := raw.foldl (fun s c => (Si32Neutral.step s (PySi32.whole c)).1) s
theorem played_app : ∀ (a b : List (List (List Int))) (s : Si32.St), PyFlat.played Si32Neutral.step s ((a ++ b).map PySi32.whole) = PyFlat.played Si32Neutral.step s (a.map PySi32.whole) ++ PyFlat.played Si32Neutral.step (stateAt a s) (b.map PySi32.whole)
  | [], _, _ => rfl
  | c :: r, b, s => by
    show (Si32Neutral.step s (PySi32.whole c)).2 :: PyFlat.played _ _ ((r ++ b).map PySi32.whole) = _
    rw [played_app r b]
    rfl
theorem told_app (a b : List (List Int)) : PyFlat.told (a ++ b) = PyFlat.told a ++ PyFlat.told b := by
  unfold PyFlat.told; rw [List.flatMap_append]
/-- what the answers have in numbers, bounded by the line's shortness -/
theorem short_len : ∀ (raw : List (List (List Int))) (s : Si32.St) (n : Nat), Si32Neutral.short s n (raw.map PySi32.whole) = true → (PyFlat.told (PyFlat.played Si32Neutral.step s (raw.map PySi32.whole))).length ≤ n + raw.length
  | [], _, _, _ => Nat.zero_le _
  | c :: r, s, n, h => by
    have h' : (decide ((Si32Neutral.step s (PySi32.whole c)).2.length ≤ n) && Si32Neutral.short (Si32Neutral.step s (PySi32.whole c)).1 (n - (Si32Neutral.step s (PySi32.whole c)).2.length) (r.map PySi32.whole)) = true := h
    simp only [Bool.and_eq_true, decide_eq_true_eq] at h'
    have ih := short_len r _ _ h'.2
    show (PyFlat.told ([(Si32Neutral.step s (PySi32.whole c)).2] ++ PyFlat.played _ _ _)).length ≤ _
    rw [told_app, List.length_append]
    have e : (PyFlat.told [(Si32Neutral.step s (PySi32.whole c)).2]).length = (Si32Neutral.step s (PySi32.whole c)).2.length + 1 := by
      show (_ :: (_ ++ ([] : List Int))).length = _
      simp
    rw [e, List.length_cons]
    omega
/-! ### what holds of every state that is reached -/
structure GoodW (w : Si32.Way) (n u : Nat) : Prop where
  most : w.most = n
  usual : w.usual = u
  told : ∀ x ∈ w.told, x.1 ≤ x.2.1 ∧ x.2.1 < n ∧ x.2.2 ≤ 10000
  titles : ∀ t, w.titles = some t → t.1 ≤ t.2 ∧ t.2 < n
  breaks : ∀ b ∈ w.breaks, b < n
  breaksN : w.breaks.length ≤ 500
structure Good (s : Si32.St) : Prop where
  rows : GoodW s.rows 4096 20
  cols : GoodW s.cols 256 64
  paper : Si32.goodPaper s.paper = true
  areas : s.areas.all Si32.goodArea = true
  areasN : s.areas.length ≤ 32
  places : Si32Neutral.places s.areas ≤ 1500
  scale : Si32.goodScale s.scale = true
  first : -1000000 ≤ s.first ∧ s.first ≤ 1000000
  head : Si32.goodText s.head = true ∧ ∀ x ∈ s.head, x ≤ 255
  foot : Si32.goodText s.foot = true ∧ ∀ x ∈ s.foot, x ≤ 255
theorem good_init : Good Si32.init where
  rows := ⟨rfl, rfl, fun x hx => (by cases hx), fun t ht => (by cases ht), fun b hb => (by cases hb), by decide⟩
  cols := ⟨rfl, rfl, fun x hx => (by cases hx), fun t ht => (by cases ht), fun b hb => (by cases hb), by decide⟩
  paper := by decide
  areas := by decide
  areasN := by decide
  places := by decide
  scale := by decide
  first := by decide
  head := ⟨by decide, fun x hx => (by cases hx)⟩
  foot := ⟨by decide, fun x hx => (by cases hx)⟩
theorem size_le {w : Si32.Way} {n u : Nat} (h : GoodW w n u) (hu : u ≤ 10000) (i : Nat) : w.size i ≤ 10000 := by
  unfold Si32.Way.size
  split
  · rename_i x hx
    exact (h.told x (List.mem_of_find?_eq_some hx)).2.2
  · rw [h.usual]; exact hu
/-- a way's part is changed -/
theorem good_with {s : Si32.St} (g : Good s) (r : Bool) (w' : Si32.Way) (h : ∀ n u, GoodW (s.way r) n u → GoodW w' n u) : Good (s.with r w') := by
  cases r with
  | true => exact ⟨h _ _ g.rows, g.cols, g.paper, g.areas, g.areasN, g.places, g.scale, g.first, g.head, g.foot⟩
  | false => exact ⟨g.rows, h _ _ g.cols, g.paper, g.areas, g.areasN, g.places, g.scale, g.first, g.head, g.foot⟩
theorem way_most {s : Si32.St} (g : Good s) (r : Bool) {n u : Nat} (h : GoodW (s.way r) n u) : (s.way r).most = n := h.most
theorem good_step {s : Si32.St} {c : List (List Int)} {q : Si32.Call} (g : Good s) (h : Is c q) : Good (Si32.step s q).1 := by
  cases h with
  | begins => exact good_init
  | size w a b n hw ha hb hn =>
    show Good (if b < a ∨ (s.way (w == 0)).most ≤ b ∨ 10000 < n then (s, Si32.ok (-1)) else if Si32.TOLD ≤ (s.way (w == 0)).told.length then (s, Si32.ok (-5)) else (s.with (w == 0) { s.way (w == 0) with told := (a, b, n) :: (s.way (w == 0)).told }, Si32.ok (((s.way (w == 0)).told.length : Int) + 1))).1
    split
    · exact g
    · split
      · exact g
      · rename_i h1 h2
        refine good_with g _ _ fun m u k => ⟨k.most, k.usual, fun x hx => ?_, k.titles, k.breaks, k.breaksN⟩
        cases hx with
        | head => rw [k.most] at h1; exact ⟨show a ≤ b by omega, show b < m by omega, show n ≤ 10000 by omega⟩
        | tail _ hx => exact k.told x hx
  | paper x0 x1 x2 x3 x4 x5 =>
    show Good (if Si32.goodPaper ⟨x0, x1, x2, x3, x4, x5⟩ = false then (s, Si32.ok (-1)) else ({ s with paper := ⟨x0, x1, x2, x3, x4, x5⟩ }, Si32.ok 0)).1
    split
    · exact g
    · rename_i h1
      exact ⟨g.rows, g.cols, by simpa using h1, g.areas, g.areasN, g.places, g.scale, g.first, g.head, g.foot⟩
  | areas l hl h4 hm ha =>
    generalize areasOf (l.map fun (n : Nat) => (n : Int)) = as at *
    show Good (if as.all Si32.goodArea = false then (s, Si32.ok (-1)) else if Si32.AREAS < as.length then (s, Si32.ok (-5)) else ({ s with areas := as }, Si32.ok (as.length : Int))).1
    split
    · exact g
    · split
      · exact g
      · rename_i h1 h2
        have h3 : as.all Si32.goodArea = true := by simpa using h1
        have h5 : as.length ≤ 32 := by unfold Si32.AREAS at h2; omega
        exact ⟨g.rows, g.cols, g.paper, h3, h5, ha h3, g.scale, g.first, g.head, g.foot⟩
  | untitled w hw =>
    show Good (if ((none : Option (Nat × Nat)).all fun x => decide (x.1 ≤ x.2) && decide (x.2 < (s.way (w == 0)).most)) = false then (s, Si32.ok (-1)) else (s.with (w == 0) { s.way (w == 0) with titles := none }, Si32.ok 0)).1
    split
    · exact g
    · exact good_with g _ _ fun m u k => ⟨k.most, k.usual, k.told, fun t ht => (by cases ht), k.breaks, k.breaksN⟩
  | titles w a b hw ha hb =>
    show Good (if ((some (a, b)).all fun x => decide (x.1 ≤ x.2) && decide (x.2 < (s.way (w == 0)).most)) = false then (s, Si32.ok (-1)) else (s.with (w == 0) { s.way (w == 0) with titles := some (a, b) }, Si32.ok 0)).1
    split
    · exact g
    · rename_i h1
      refine good_with g _ _ fun m u k => ⟨k.most, k.usual, k.told, fun t ht => ?_, k.breaks, k.breaksN⟩
      cases ht
      simp only [Option.all_some, Bool.and_eq_false_iff, decide_eq_false_iff_not, k.most] at h1
      exact ⟨by omega, by omega⟩
  | breaks w l hw hl hm =>
    show Good (if (l.all fun i => decide (i < (s.way (w == 0)).most)) = false then (s, Si32.ok (-1)) else if Si32.BREAKS < l.length then (s, Si32.ok (-5)) else (s.with (w == 0) { s.way (w == 0) with breaks := l }, Si32.ok 0)).1
    split
    · exact g
    · split
      · exact g
      · rename_i h1 h2
        refine good_with g _ _ fun m u k => ⟨k.most, k.usual, k.told, k.titles, fun b hb => ?_, by unfold Si32.BREAKS at h2; show l.length ≤ 500; omega⟩
        have h3 : (l.all fun i => decide (i < (s.way (w == 0)).most)) = true := by simpa using h1
        have := List.all_eq_true.mp h3 b hb
        rw [k.most] at this
        simpa using this
  | scale p =>
    show Good (if Si32.goodScale (.told p) = false then (s, Si32.ok (-1)) else ({ s with scale := .told p }, Si32.ok 0)).1
    split
    · exact g
    · rename_i h1
      exact ⟨g.rows, g.cols, g.paper, g.areas, g.areasN, g.places, by simpa using h1, g.first, g.head, g.foot⟩
  | fit w h =>
    show Good (if Si32.goodScale (.fit w h) = false then (s, Si32.ok (-1)) else ({ s with scale := .fit w h }, Si32.ok 0)).1
    split
    · exact g
    · rename_i h1
      exact ⟨g.rows, g.cols, g.paper, g.areas, g.areasN, g.places, by simpa using h1, g.first, g.head, g.foot⟩
  | how o a d f =>
    show Good (if f < -Si32.FIRST ∨ Si32.FIRST < f then (s, Si32.ok (-1)) else ({ s with over := o == 1, across := a == 1, down := d == 1, first := f }, Si32.ok 0)).1
    split
    · exact g
    · rename_i h1
      unfold Si32.FIRST at h1
      exact ⟨g.rows, g.cols, g.paper, g.areas, g.areasN, g.places, g.scale, ⟨by show -1000000 ≤ f; omega, by show f ≤ 1000000; omega⟩, g.head, g.foot⟩
  | heads h f hh hf mh mf =>
    show Good (if (Si32.goodText h && Si32.goodText f) = false then (s, Si32.ok (-3)) else ({ s with head := h, foot := f }, Si32.ok 0)).1
    split
    · exact g
    · rename_i h1
      have h2 : (Si32.goodText h && Si32.goodText f) = true := by simpa using h1
      rw [Bool.and_eq_true] at h2
      exact ⟨g.rows, g.cols, g.paper, g.areas, g.areasN, g.places, g.scale, g.first, ⟨h2.1, hh⟩, ⟨h2.2, hf⟩⟩
  | pages => exact g
  | page n => exact g
  | where_ r c => exact g
  | texts n => exact g
end Sh

namespace Sh
open Si32 (Way Band)
/-! ### places from one to another -/
theorem range_cons {a b : Nat} (h : a ≤ b) : Si32.range a b = a :: Si32.range (a + 1) b := by
  unfold Si32.range
  rw [show b + 1 - a = (b + 1 - (a + 1)) + 1 by omega, List.range_succ_eq_map, List.map_cons, List.map_map]
  have e : (List.range (b + 1 - (a + 1))).map ((fun i => a + i) ∘ Nat.succ) = (List.range (b + 1 - (a + 1))).map (fun i => a + 1 + i) := List.map_congr_left fun i _ => by
    show a + (i + 1) = a + 1 + i
    omega
  rw [e, Nat.add_zero]
theorem range_nil {a b : Nat} (h : b < a) : Si32.range a b = [] := by
  unfold Si32.range
  rw [show b + 1 - a = 0 by omega]; rfl
theorem range_len (a b : Nat) : (Si32.range a b).length = b + 1 - a := by
  unfold Si32.range; rw [List.length_map, List.length_range]
theorem range_snoc {a b : Nat} (h : a ≤ b + 1) : Si32.range a (b + 1) = Si32.range a b ++ [b + 1] := by
  unfold Si32.range
  rw [show b + 1 + 1 - a = (b + 1 - a) + 1 by omega, List.range_succ, List.map_append]
  show _ ++ [a + (b + 1 - a)] = _
  rw [show a + (b + 1 - a) = b + 1 by omega]
theorem range_split {a m b : Nat} (h1 : a ≤ m + 1) (h2 : m ≤ b) : Si32.range a b = Si32.range a m ++ Si32.range (m + 1) b := by
  obtain ⟨k, rfl⟩ := Nat.exists_eq_add_of_le h2
  clear h2
  induction k with
  | zero => rw [Nat.add_zero, range_nil (a := m + 1) (b := m) (by omega), List.append_nil]
  | succ k ih => rw [← Nat.add_assoc, range_snoc (a := a) (b := m + k) (by omega), ih, range_snoc (a := m + 1) (b := m + k) (by omega), List.append_assoc]
theorem mem_range {a b i : Nat} : i ∈ Si32.range a b ↔ a ≤ i ∧ i ≤ b := by
  unfold Si32.range
  rw [List.mem_map]
  constructor
  · rintro ⟨j, hj, rfl⟩
    rw [List.mem_range] at hj
    omega
  · rintro ⟨h1, h2⟩
    exact ⟨i - a, by rw [List.mem_range]; omega, by omega⟩
theorem total_app (a b : List Nat) : Si32.total (a ++ b) = Si32.total a + Si32.total b := by
  unfold Si32.total
  induction a with
  | nil => simp
  | cons x r ih => simp only [List.cons_append, List.foldr_cons, ih]; omega
theorem sizes_app (w : Way) (a b : List Nat) : w.sizes (a ++ b) = w.sizes a + w.sizes b := by
  unfold Si32.Way.sizes; rw [List.map_append, total_app]
theorem sizes_cons (w : Way) (i : Nat) (b : List Nat) : w.sizes (i :: b) = w.size i + w.sizes b := rfl
theorem sizes_nil (w : Way) : w.sizes [] = 0 := rfl
/-- what comes again on a page that begins with i, as a range -/
theorem again_eq (w : Way) (i : Nat) : w.again i = match w.titles with
    | some t => if i = 0 then [] else Si32.range t.1 (min t.2 (i - 1))
    | none => [] := by
  unfold Si32.Way.again
  cases w.titles with
  | none => rfl
  | some t =>
    show (Si32.range t.1 t.2).filter (fun j => decide (j < i)) = if i = 0 then [] else Si32.range t.1 (min t.2 (i - 1))
    by_cases hi : i = 0
    · rw [if_pos hi, hi]
      simp
    · rw [if_neg hi]
      by_cases h : t.2 ≤ i - 1
      · rw [Nat.min_eq_left h]
        refine List.filter_eq_self.mpr fun j hj => ?_
        have := (mem_range.mp hj).2
        simp; omega
      · rw [Nat.min_eq_right (by omega)]
        by_cases h1 : t.1 ≤ i
        · rw [range_split (a := t.1) (m := i - 1) (b := t.2) (by omega) (by omega), List.filter_append]
          have e1 : (Si32.range t.1 (i - 1)).filter (fun j => decide (j < i)) = Si32.range t.1 (i - 1) := List.filter_eq_self.mpr fun j hj => by
            have := (mem_range.mp hj).2
            simp; omega
          have e2 : (Si32.range (i - 1 + 1) t.2).filter (fun j => decide (j < i)) = [] := List.filter_eq_nil_iff.mpr fun j hj => by
            have := (mem_range.mp hj).1
            simp; omega
          rw [e1, e2, List.append_nil]
        · rw [range_nil (a := t.1) (b := i - 1) (by omega)]
          exact List.filter_eq_nil_iff.mpr fun j hj => by
            have := (mem_range.mp hj).1
            simp; omega
/-! ### bands stand one behind another -/
def chain : Nat → List Band → Nat → Prop
  | a, [], b => a = b + 1
  | a, x :: r, b => x.1 = a ∧ a ≤ x.2 ∧ x.2 ≤ b ∧ chain (x.2 + 1) r b
theorem bandsFrom_chain (w : Way) (space p : Nat) : ∀ (k i j n b : Nat), b + 1 - (j + 1) = k → i ≤ j → j ≤ b → chain i (w.bandsFrom space p i j n (Si32.range (j + 1) b)) b
  | 0, i, j, n, b, hk, h1, h2 => by
    rw [range_nil (by omega)]
    exact ⟨rfl, h1, h2, show j + 1 = b + 1 by omega⟩
  | k + 1, i, j, n, b, hk, h1, h2 => by
    rw [range_cons (by omega)]
    unfold Si32.Way.bandsFrom
    split
    · exact ⟨rfl, h1, h2, bandsFrom_chain w space p k (j + 1) (j + 1) _ b (by omega) (Nat.le_refl _) (by omega)⟩
    · exact bandsFrom_chain w space p k i (j + 1) _ b (by omega) (by omega) (by omega)
theorem bands_eq (w : Way) (space p : Nat) {a b : Nat} (h : a ≤ b) : w.bands space p a b = w.bandsFrom space p a a (w.size a) (Si32.range (a + 1) b) := by
  unfold Si32.Way.bands
  rw [range_cons h]
theorem bands_chain (w : Way) (space p : Nat) {a b : Nat} (h : a ≤ b) : chain a (w.bands space p a b) b := by
  rw [bands_eq w space p h]
  exact bandsFrom_chain w space p _ a a _ b rfl (Nat.le_refl _) h
theorem chain_len : ∀ {l : List Band} {a b : Nat}, chain a l b → a + l.length ≤ b + 1
  | [], a, b, h => by have : a = b + 1 := h; simp; omega
  | x :: r, a, b, ⟨h1, h2, h3, h4⟩ => by
    have := chain_len h4
    rw [List.length_cons]; omega
theorem bands_len (w : Way) (space p : Nat) {a b : Nat} (h : a ≤ b) : (w.bands space p a b).length ≤ b + 1 - a := by
  have := chain_len (bands_chain w space p h)
  omega
theorem bands_pos (w : Way) (space p : Nat) {a b : Nat} (h : a ≤ b) : 0 < (w.bands space p a b).length := by
  have c := bands_chain w space p h
  cases e : w.bands space p a b with
  | nil => rw [e] at c; have : a = b + 1 := c; omega
  | cons x r => simp
theorem chain_mem : ∀ {l : List Band} {a b : Nat} {x : Band}, chain a l b → x ∈ l → a ≤ x.1 ∧ x.1 ≤ x.2 ∧ x.2 ≤ b
  | y :: r, a, b, x, ⟨h1, h2, h3, h4⟩, hx => by
    cases hx with
    | head => omega
    | tail _ hx =>
      have := chain_mem h4 hx
      omega
end Sh

namespace Sh
open Si32 (Way Band)
/-! ### sums ahead of a place -/
def pre (w : Way) : Nat → Nat
  | 0 => 0
  | i + 1 => pre w i + w.size i
theorem pre_mono (w : Way) {a b : Nat} (h : a ≤ b) : pre w a ≤ pre w b := by
  induction h with
  | refl => exact Nat.le_refl _
  | step _ ih => exact Nat.le_trans ih (Nat.le_add_right _ _)
theorem pre_range (w : Way) {a : Nat} : ∀ {b : Nat}, a ≤ b → pre w a + w.sizes (Si32.range a b) = pre w (b + 1) := by
  intro b h
  induction b with
  | zero =>
    have : a = 0 := by omega
    subst this
    rw [range_cons (Nat.le_refl _), range_nil (by omega), sizes_cons, sizes_nil]
    rfl
  | succ b ih =>
    rcases Nat.lt_or_ge b a with h1 | h1
    · have : a = b + 1 := by omega
      subst this
      rw [range_cons (Nat.le_refl _), range_nil (by omega), sizes_cons, sizes_nil]
      rfl
    · rw [range_snoc (by omega), sizes_app, ← Nat.add_assoc, ih h1, sizes_cons, sizes_nil]
      rfl
theorem pre_range' (w : Way) {a b : Nat} (h : a ≤ b + 1) : pre w a + w.sizes (Si32.range a b) = pre w (b + 1) := by
  rcases Nat.lt_or_ge b a with h1 | h1
  · have : a = b + 1 := by omega
    subst this
    rw [range_nil (by omega), sizes_nil]; rfl
  · exact pre_range w h1
theorem pre_le {w : Way} {n u : Nat} (g : GoodW w n u) (hu : u ≤ 10000) (i : Nat) : pre w i ≤ 10000 * i := by
  induction i with
  | zero => exact Nat.le_refl _
  | succ i ih =>
    have := size_le g hu i
    show pre w i + w.size i ≤ _
    omega
/-! ### what comes again -/
def agFrom (w : Way) (i : Nat) : Nat := match w.titles with | none => i | some t => min t.1 i
def agEnd (w : Way) (i : Nat) : Nat := match w.titles with | none => i | some t => min (t.2 + 1) i
def ag (w : Way) (i : Nat) : Nat := w.sizes (w.again i)
theorem ag_le (w : Way) (i : Nat) (h : ∀ t, w.titles = some t → t.1 ≤ t.2) : agFrom w i ≤ agEnd w i ∧ agEnd w i ≤ i := by
  unfold agFrom agEnd
  cases e : w.titles with
  | none => exact ⟨Nat.le_refl _, Nat.le_refl _⟩
  | some t =>
    have := h t e
    show min t.1 i ≤ min (t.2 + 1) i ∧ min (t.2 + 1) i ≤ i
    omega
theorem ag_both (w : Way) (i : Nat) (h : ∀ t, w.titles = some t → t.1 ≤ t.2) : (w.again i).length = agEnd w i - agFrom w i ∧ pre w (agFrom w i) + ag w i = pre w (agEnd w i) := by
  unfold ag
  rw [again_eq]
  unfold agFrom agEnd
  cases e : w.titles with
  | none => exact ⟨by simp, by rw [sizes_nil]; rfl⟩
  | some t =>
    have ht := h t e
    show ((if i = 0 then [] else Si32.range t.1 (min t.2 (i - 1))) : List Nat).length = min (t.2 + 1) i - min t.1 i ∧ pre w (min t.1 i) + w.sizes (if i = 0 then [] else Si32.range t.1 (min t.2 (i - 1))) = pre w (min (t.2 + 1) i)
    by_cases hi : i = 0
    · rw [if_pos hi, hi]
      refine ⟨by simp, ?_⟩
      rw [sizes_nil, Nat.min_zero, Nat.min_zero]; rfl
    · rw [if_neg hi]
      by_cases h1 : t.1 ≤ i - 1
      · have e1 : min t.1 i = t.1 := by omega
        have e2 : min (t.2 + 1) i = min t.2 (i - 1) + 1 := by omega
        rw [e1, e2]
        refine ⟨range_len _ _, pre_range' w (by omega)⟩
      · have e1 : min t.1 i = i := by omega
        have e2 : min (t.2 + 1) i = i := by omega
        rw [e1, e2, range_nil (by omega), sizes_nil]
        exact ⟨by simp, rfl⟩
/-! ### bands -/
def stop (w : Way) (sp p i k : Nat) : Prop := w.breaks.contains k = true ∨ w.room sp p i (pre w (k + 1) - pre w i) = false
theorem room_iff (w : Way) (sp p i k : Nat) (hp : 0 < p) (hk : i ≤ k) : w.room sp p i (pre w (k + 1) - pre w i) = true ↔ (pre w (k + 1) : Int) ≤ (pre w i : Int) + ((100 * sp / p : Nat) : Int) - (ag w i : Int) := by
  unfold Si32.Way.room ag
  rw [decide_eq_true_eq, ← Nat.le_div_iff_mul_le hp]
  have := pre_mono w (show i ≤ k + 1 by omega)
  omega
theorem bands_nil (w : Way) (sp p : Nat) {a b : Nat} (h : b < a) : w.bands sp p a b = [] := by
  unfold Si32.Way.bands
  rw [range_nil h]
theorem from_step (w : Way) (sp p : Nat) {a e b : Nat} (h2 : e ≤ b + 1) (ns : ∀ k, a < k → k < e → ¬ stop w sp p a k) (hs : e ≤ b → stop w sp p a e) : ∀ (m j : Nat), e = j + 1 + m → a ≤ j →
    w.bandsFrom sp p a j (pre w (j + 1) - pre w a) (Si32.range (j + 1) b) = (a, e - 1) :: w.bands sp p e b
  | 0, j, hm, haj => by
    have e1 : e = j + 1 := by omega
    subst e1
    by_cases hb : j + 1 ≤ b
    · rw [range_cons hb]
      unfold Si32.Way.bandsFrom
      have hs' := hs hb
      unfold stop at hs'
      have en : pre w (j + 1) - pre w a + w.size (j + 1) = pre w (j + 1 + 1) - pre w a := by
        have := pre_mono w (show a ≤ j + 1 by omega)
        show _ = pre w (j + 1) + w.size (j + 1) - pre w a
        omega
      rw [en, if_pos hs', bands_eq w sp p hb]
      rfl
    · rw [range_nil (by omega), bands_nil w sp p (by omega)]
      rfl
  | m + 1, j, hm, haj => by
    have hb : j + 1 ≤ b := by omega
    rw [range_cons hb]
    unfold Si32.Way.bandsFrom
    have hn := ns (j + 1) (by omega) (by omega)
    unfold stop at hn
    have en : pre w (j + 1) - pre w a + w.size (j + 1) = pre w (j + 1 + 1) - pre w a := by
      have := pre_mono w (show a ≤ j + 1 by omega)
      show _ = pre w (j + 1) + w.size (j + 1) - pre w a
      omega
    rw [en, if_neg hn]
    exact from_step w sp p h2 ns hs m (j + 1) (by omega) (by omega)
/-- a band is taken off -/
theorem bands_step (w : Way) (sp p : Nat) {a e b : Nat} (h1 : a < e) (h2 : e ≤ b + 1) (ns : ∀ k, a < k → k < e → ¬ stop w sp p a k) (hs : e ≤ b → stop w sp p a e) : w.bands sp p a b = (a, e - 1) :: w.bands sp p e b := by
  rw [bands_eq w sp p (show a ≤ b by omega)]
  have e0 : w.size a = pre w (a + 1) - pre w a := by
    show _ = pre w a + w.size a - pre w a
    omega
  rw [e0]
  exact from_step w sp p h2 ns hs (e - (a + 1)) a (by omega) (Nat.le_refl _)
/-! ### where in the bands a place stands -/
def bIx : List Band → Nat → Nat
  | [], _ => 0
  | x :: r, i => if x.2 < i then bIx r i + 1 else 0
theorem find_zip (l : List Band) (i : Nat) : ∀ (k a b : Nat), chain a l b → a ≤ i → i ≤ b → ∃ x, l[bIx l i]? = some x ∧ x.1 ≤ i ∧ i ≤ x.2 ∧ (l.zipIdx k).find? (fun (x : Band × Nat) => Si32.inside x.1 i) = some (x, k + bIx l i) := by
  induction l with
  | nil =>
    intro k a b h h1 h2
    have : a = b + 1 := h
    omega
  | cons y r ih =>
    intro k a b h h1 h2
    obtain ⟨c1, c2, c3, c4⟩ := h
    rw [List.zipIdx_cons, List.find?_cons]
    unfold bIx
    by_cases hy : y.2 < i
    · rw [if_pos hy]
      have e : Si32.inside (y, k).1 i = false := by
        show Si32.inside y i = false
        unfold Si32.inside
        simp; omega
      rw [e]
      obtain ⟨x, q1, q2, q3, q4⟩ := ih (k + 1) (y.2 + 1) b c4 (by omega) h2
      refine ⟨x, q1, q2, q3, ?_⟩
      show List.find? _ (r.zipIdx (k + 1)) = _
      rw [q4, show k + 1 + bIx r i = k + (bIx r i + 1) by omega]
    · rw [if_neg hy]
      have e : Si32.inside (y, k).1 i = true := by
        show Si32.inside y i = true
        unfold Si32.inside
        simp; omega
      rw [e]
      exact ⟨y, rfl, by omega, by omega, rfl⟩
theorem bandAt_in {l : List Band} {a b i : Nat} (h : chain a l b) (h1 : a ≤ i) (h2 : i ≤ b) : ∃ x, l[bIx l i]? = some x ∧ x.1 ≤ i ∧ i ≤ x.2 ∧ Si32.bandAt l i = some (bIx l i, x) := by
  obtain ⟨x, q1, q2, q3, q4⟩ := find_zip l i 0 a b h h1 h2
  refine ⟨x, q1, q2, q3, ?_⟩
  unfold Si32.bandAt
  rw [q4, Nat.zero_add]
  rfl
theorem bandAt_out {l : List Band} {a b i : Nat} (h : chain a l b) (h1 : ¬ (a ≤ i ∧ i ≤ b)) : Si32.bandAt l i = none := by
  unfold Si32.bandAt
  have : (l.zipIdx.find? fun (x : Band × Nat) => Si32.inside x.1 i) = none := by
    rw [List.find?_eq_none]
    rintro ⟨x, k⟩ hx
    have hm : x ∈ l := List.fst_mem_of_mem_zipIdx hx
    have := chain_mem h hm
    unfold Si32.inside
    simp only [Bool.and_eq_true, decide_eq_true_eq]
    omega
  rw [this]
  rfl
theorem chain_first {l : List Band} {a b : Nat} (h : chain a l b) (hl : a ≤ b) : ∃ x r, l = x :: r ∧ x.1 = a := by
  cases l with
  | nil => have : a = b + 1 := h; omega
  | cons x r => exact ⟨x, r, rfl, h.1⟩
theorem chain_last : ∀ {l : List Band} {a b : Nat}, chain a l b → a ≤ b → ∃ x, l[l.length - 1]? = some x ∧ x.2 = b
  | [], a, b, h, hl => by have : a = b + 1 := h; omega
  | [x], a, b, ⟨h1, h2, h3, h4⟩, hl => by
    have : x.2 + 1 = b + 1 := h4
    exact ⟨x, rfl, by omega⟩
  | x :: y :: r, a, b, ⟨h1, h2, h3, h4⟩, hl => by
    obtain ⟨z, q1, q2⟩ := chain_last h4 (by have := h4.2.1; have := h4.2.2.1; omega)
    exact ⟨z, by simpa using q1, q2⟩
theorem bIx_lt : ∀ {l : List Band} {i j : Nat} {x : Band}, j < bIx l i → l[j]? = some x → x.2 < i
  | [], i, j, x, h, hx => by simp at hx
  | y :: r, i, j, x, h, hx => by
    unfold bIx at h
    by_cases hy : y.2 < i
    · rw [if_pos hy] at h
      cases j with
      | zero => cases hx; exact hy
      | succ j =>
        have hx' : r[j]? = some x := hx
        exact bIx_lt (show j < bIx r i by omega) hx'
    · rw [if_neg hy] at h; omega
/-! ### where a place stands -/
theorem extent_eq (w : Way) (b : Band) (h : b.1 ≤ b.2) : w.extent b = ag w b.1 + (pre w (b.2 + 1) - pre w b.1) := by
  unfold Si32.Way.extent Si32.Way.shown ag
  rw [sizes_app]
  have := pre_range w h
  omega
theorem ahead_eq (w : Way) (b : Band) (i : Nat) (h1 : b.1 ≤ i) (h2 : i ≤ b.2) : w.sizes ((Si32.range b.1 b.2).filter fun j => decide (j < i)) = pre w i - pre w b.1 := by
  by_cases h : b.1 = i
  · have : (Si32.range b.1 b.2).filter (fun j => decide (j < i)) = [] := List.filter_eq_nil_iff.mpr fun j hj => by
      have := (mem_range.mp hj).1
      simp; omega
    rw [this, sizes_nil, h]; omega
  · rw [range_split (a := b.1) (m := i - 1) (b := b.2) (by omega) (by omega), List.filter_append]
    have e1 : (Si32.range b.1 (i - 1)).filter (fun j => decide (j < i)) = Si32.range b.1 (i - 1) := List.filter_eq_self.mpr fun j hj => by
      have := (mem_range.mp hj).2
      simp; omega
    have e2 : (Si32.range (i - 1 + 1) b.2).filter (fun j => decide (j < i)) = [] := List.filter_eq_nil_iff.mpr fun j hj => by
      have := (mem_range.mp hj).1
      simp; omega
    rw [e1, e2, List.append_nil]
    have := pre_range w (show b.1 ≤ i - 1 by omega)
    rw [show i - 1 + 1 = i by omega] at this
    omega
/-! ### the scale -/
theorem find_scale (f : Nat → Bool) (k : Nat) (hk : k ≤ 90) (h : ∀ j, j < k → f (100 - j) = false) (hs : f (100 - k) = true ∨ k = 90) : (((List.range 91).map fun i => 100 - i).find? f).getD 10 = 100 - k := by
  rw [List.find?_map]
  by_cases hf : f (100 - k) = true
  · have : List.find? (f ∘ fun i => 100 - i) (List.range 91) = some k := by
      rw [List.find?_range_eq_some]
      refine ⟨hf, ?_, fun j hj => ?_⟩
      · rw [List.mem_range]; omega
      · show (!f (100 - j)) = true
        rw [h j hj]; rfl
    rw [this]; rfl
  · have hk9 : k = 90 := by
      rcases hs with h | h
      · exact absurd h hf
      · exact h
    have : List.find? (f ∘ fun i => 100 - i) (List.range 91) = none := by
      rw [List.find?_eq_none]
      intro j hj
      rw [List.mem_range] at hj
      show ¬ f (100 - j) = true
      by_cases hjk : j < k
      · rw [h j hjk]; simp
      · have : j = k := by omega
        rw [this]; exact hf
    rw [this, hk9]; rfl
end Sh

namespace Sh
open Si32 (Way Band St Area)
/-! ### pages, area by area -/
def cntA (s : St) (p : Nat) (a : Area) : Nat := (s.rowBands p a).length * (s.colBands p a).length
def firstP (s : St) (p : Nat) (l : List Area) (i : Nat) : Nat := Si32.total ((l.take i).map (cntA s p))
theorem total_nil : Si32.total [] = 0 := rfl
theorem total_cons (x : Nat) (r : List Nat) : Si32.total (x :: r) = x + Si32.total r := rfl
theorem firstP_zero (s : St) (p : Nat) (l : List Area) : firstP s p l 0 = 0 := rfl
theorem firstP_succ (s : St) (p : Nat) (l : List Area) {i : Nat} {a : Area} (h : l[i]? = some a) : firstP s p l (i + 1) = firstP s p l i + cntA s p a := by
  unfold firstP
  rw [List.take_add_one, h]
  show Si32.total ((l.take i ++ [a]).map _) = _
  rw [List.map_append, total_app]
  show _ + Si32.total [cntA s p a] = _
  rw [total_cons, total_nil, Nat.add_zero]
theorem firstP_all (s : St) (p : Nat) (l : List Area) : firstP s p l l.length = Si32.total (l.map (cntA s p)) := by
  unfold firstP; rw [List.take_length]
theorem count_eq (s : St) : s.count = firstP s s.percent s.areas s.areas.length := (firstP_all _ _ _).symm
theorem firstP_cons (s : St) (p : Nat) (a : Area) (l : List Area) (i : Nat) : firstP s p (a :: l) (i + 1) = cntA s p a + firstP s p l i := rfl
/-- the page of an area, by its place among the area's pages -/
def pageOf (s : St) (p k : Nat) (a : Area) (n : Nat) : Option Si32.Page :=
  match (s.rowBands p a)[if s.over = true then n / (s.colBands p a).length else n % (s.rowBands p a).length]?, (s.colBands p a)[if s.over = true then n % (s.colBands p a).length else n / (s.rowBands p a).length]? with
  | some x, some y => some ⟨k, x, y⟩
  | _, _ => none
theorem pageFrom_cons (s : St) (p k : Nat) (a : Area) (l : List Area) (n : Nat) : s.pageFrom p k (a :: l) n = if n < cntA s p a then pageOf s p k a n else s.pageFrom p (k + 1) l (n - cntA s p a) := rfl
theorem pageFrom_at (s : St) (p : Nat) : ∀ (l : List Area) (k j n : Nat) (a : Area), l[j]? = some a → firstP s p l j ≤ n → n < firstP s p l j + cntA s p a → s.pageFrom p k l n = pageOf s p (k + j) a (n - firstP s p l j)
  | [], _, _, _, _, h, _, _ => by simp at h
  | b :: l, k, 0, n, a, h, h1, h2 => by
    cases h
    rw [pageFrom_cons, if_pos (by rw [firstP_zero] at h2; omega), firstP_zero]; rfl
  | b :: l, k, j + 1, n, a, h, h1, h2 => by
    rw [firstP_cons] at h1 h2 ⊢
    have h' : l[j]? = some a := h
    rw [pageFrom_cons, if_neg (by omega), pageFrom_at s p l (k + 1) j (n - cntA s p b) a h' (by omega) (by omega), show k + 1 + j = k + (j + 1) by omega, show n - cntA s p b - firstP s p l j = n - (cntA s p b + firstP s p l j) by omega]
theorem pageFrom_none (s : St) (p : Nat) : ∀ (l : List Area) (k n : Nat), firstP s p l l.length ≤ n → s.pageFrom p k l n = none
  | [], _, _, _ => rfl
  | b :: l, k, n, h => by
    rw [List.length_cons, firstP_cons] at h
    rw [pageFrom_cons, if_neg (by omega)]
    exact pageFrom_none s p l (k + 1) _ (by omega)
/-- where in an area's rows and columns the page is -/
theorem page_ix {r c n : Nat} (h : n < r * c) : 0 < r ∧ 0 < c ∧ n / c < r ∧ n % c < c ∧ n % r < r ∧ n / r < c := by
  have hr : 0 < r := Nat.pos_of_ne_zero fun z => by rw [z, Nat.zero_mul] at h; omega
  have hc : 0 < c := Nat.pos_of_ne_zero fun z => by rw [z, Nat.mul_zero] at h; omega
  refine ⟨hr, hc, Nat.div_lt_of_lt_mul (by rw [Nat.mul_comm]; exact h), Nat.mod_lt _ hc, Nat.mod_lt _ hr, Nat.div_lt_of_lt_mul h⟩
/-! ### where a cell stands, area by area -/
def inArea (a : Area) (row col : Nat) : Prop := (a.row0 ≤ row ∧ row ≤ a.row1) ∧ (a.col0 ≤ col ∧ col ≤ a.col1)
theorem where_cons (s : St) (p row col n : Nat) (a : Area) (l : List Area) : s.whereFrom p row col n (a :: l) =
    match Si32.bandAt (s.rowBands p a) row, Si32.bandAt (s.colBands p a) col with
    | some r, some c => (n + (if s.over = true then r.1 * (s.colBands p a).length + c.1 else c.1 * (s.rowBands p a).length + r.1), s.cols.spot s.paper.left s.wide p s.across c.2 col, s.rows.spot s.paper.top s.tall p s.down r.2 row) :: s.whereFrom p row col (n + cntA s p a) l
    | _, _ => s.whereFrom p row col (n + cntA s p a) l := rfl
/-! ### texts -/
theorem parts_nil (pg : Int) (ps ar at_ : Nat) (x : Si32.Parts) : Si32.partsFrom pg ps ar at_ x [] = some x := by
  unfold Si32.partsFrom; rfl
theorem parts_amp (pg : Int) (ps ar at_ : Nat) (x : Si32.Parts) : Si32.partsFrom pg ps ar at_ x [38] = none := by
  unfold Si32.partsFrom; rfl
theorem parts_plain (pg : Int) (ps ar at_ c : Nat) (x : Si32.Parts) (r : List Nat) (h : c ≠ 38) : Si32.partsFrom pg ps ar at_ x (c :: r) = Si32.partsFrom pg ps ar at_ (x.add at_ [c]) r := by
  conv => lhs; unfold Si32.partsFrom
  rw [if_neg h]
theorem parts_L (pg : Int) (ps ar at_ : Nat) (x : Si32.Parts) (r : List Nat) : Si32.partsFrom pg ps ar at_ x (38 :: 76 :: r) = Si32.partsFrom pg ps ar 0 x r := by
  rw [Si32.partsFrom]; rfl
theorem parts_C (pg : Int) (ps ar at_ : Nat) (x : Si32.Parts) (r : List Nat) : Si32.partsFrom pg ps ar at_ x (38 :: 67 :: r) = Si32.partsFrom pg ps ar 1 x r := by
  rw [Si32.partsFrom]; rfl
theorem parts_R (pg : Int) (ps ar at_ : Nat) (x : Si32.Parts) (r : List Nat) : Si32.partsFrom pg ps ar at_ x (38 :: 82 :: r) = Si32.partsFrom pg ps ar 2 x r := by
  rw [Si32.partsFrom]; rfl
theorem parts_P (pg : Int) (ps ar at_ : Nat) (x : Si32.Parts) (r : List Nat) : Si32.partsFrom pg ps ar at_ x (38 :: 80 :: r) = Si32.partsFrom pg ps ar at_ (x.add at_ (Si32.int pg)) r := by
  rw [Si32.partsFrom]; rfl
theorem parts_N (pg : Int) (ps ar at_ : Nat) (x : Si32.Parts) (r : List Nat) : Si32.partsFrom pg ps ar at_ x (38 :: 78 :: r) = Si32.partsFrom pg ps ar at_ (x.add at_ (Si32.dec ps)) r := by
  rw [Si32.partsFrom]; rfl
theorem parts_A (pg : Int) (ps ar at_ : Nat) (x : Si32.Parts) (r : List Nat) : Si32.partsFrom pg ps ar at_ x (38 :: 65 :: r) = Si32.partsFrom pg ps ar at_ (x.add at_ (Si32.dec ar)) r := by
  rw [Si32.partsFrom]; rfl
theorem parts_and (pg : Int) (ps ar at_ : Nat) (x : Si32.Parts) (r : List Nat) : Si32.partsFrom pg ps ar at_ x (38 :: 38 :: r) = Si32.partsFrom pg ps ar at_ (x.add at_ [38]) r := by
  rw [Si32.partsFrom]; rfl
theorem parts_bad (pg : Int) (ps ar at_ c : Nat) (x : Si32.Parts) (r : List Nat) (h1 : c ≠ 76) (h2 : c ≠ 67) (h3 : c ≠ 82) (h4 : c ≠ 80) (h5 : c ≠ 78) (h6 : c ≠ 65) (h7 : c ≠ 38) : Si32.partsFrom pg ps ar at_ x (38 :: c :: r) = none := by
  rw [Si32.partsFrom, if_pos rfl] <;> (intro q e; injection e with e1 e2; omega)
/-- what may be told of a text does not hang on the numbers -/
theorem parts_some (b : List Nat) : ∀ (n : Nat), b.length ≤ n → ∀ (pg pg' : Int) (ps ps' ar ar' at_ : Nat) (x x' : Si32.Parts), (Si32.partsFrom pg ps ar at_ x b).isSome = (Si32.partsFrom pg' ps' ar' at_ x' b).isSome := by
  intro n
  induction n generalizing b with
  | zero =>
    intro hb pg pg' ps ps' ar ar' at_ x x'
    cases b with
    | nil => rw [parts_nil, parts_nil]; rfl
    | cons c r => simp at hb
  | succ n ih =>
    intro hb pg pg' ps ps' ar ar' at_ x x'
    cases b with
    | nil => rw [parts_nil, parts_nil]; rfl
    | cons c r =>
      have hr : r.length ≤ n := by rw [List.length_cons] at hb; omega
      by_cases hc : c = 38
      · subst hc
        cases r with
        | nil => rw [parts_amp, parts_amp]
        | cons d q =>
          have hq : q.length ≤ n := by rw [List.length_cons] at hr; omega
          by_cases e1 : d = 76
          · subst e1; rw [parts_L, parts_L]; exact ih q hq ..
          by_cases e2 : d = 67
          · subst e2; rw [parts_C, parts_C]; exact ih q hq ..
          by_cases e3 : d = 82
          · subst e3; rw [parts_R, parts_R]; exact ih q hq ..
          by_cases e4 : d = 80
          · subst e4; rw [parts_P, parts_P]; exact ih q hq ..
          by_cases e5 : d = 78
          · subst e5; rw [parts_N, parts_N]; exact ih q hq ..
          by_cases e6 : d = 65
          · subst e6; rw [parts_A, parts_A]; exact ih q hq ..
          by_cases e7 : d = 38
          · subst e7; rw [parts_and, parts_and]; exact ih q hq ..
          rw [parts_bad _ _ _ _ _ _ _ e1 e2 e3 e4 e5 e6 e7, parts_bad _ _ _ _ _ _ _ e1 e2 e3 e4 e5 e6 e7]
      · rw [parts_plain _ _ _ _ _ _ _ hc, parts_plain _ _ _ _ _ _ _ hc]
        exact ih r hr ..
theorem goodText_eq (b : List Nat) (pg : Int) (ps ar : Nat) : Si32.goodText b = (decide (b.length ≤ 255) && (Si32.parts pg ps ar b).isSome) := by
  unfold Si32.goodText Si32.parts Si32.TEXT
  rw [parts_some b b.length (Nat.le_refl _) 1 pg 1 ps 1 ar 1 _ ⟨[], [], []⟩]
end Sh

namespace Sh
open PySem PySem.Spec PyProof.Rows L2
open PySem.W (Codec)
/-! ### places, scopes (printed by gen.py) -/
def topS (i : Nat) : Stmt := PySem.Challenge.pw_sheetpages_s01_answers.main.body.getD i (.Pass ⟨0, 0, 0, 0⟩)
abbrev s_read_calls : Stmt := topS 2
abbrev s_AreaPages__init_ : Stmt := inClass (topS 9) 0
abbrev s_AreaPages_count_pages : Stmt := inClass (topS 9) 1
abbrev s_AreaPages_row_band_of : Stmt := inClass (topS 9) 2
abbrev s_AreaPages_column_band_of : Stmt := inClass (topS 9) 3
abbrev s_AreaPages_has_cell : Stmt := inClass (topS 9) 4
abbrev s_AreaPages_page_of : Stmt := inClass (topS 9) 5
abbrev s_is_within : Stmt := topS 10
abbrev s_band_place : Stmt := topS 11
abbrev s_WayBands__init_ : Stmt := inClass (topS 13) 0
abbrev s_WayBands_again_from : Stmt := inClass (topS 13) 1
abbrev s_WayBands_again_end : Stmt := inClass (topS 13) 2
abbrev s_WayBands_count_again : Stmt := inClass (topS 13) 3
abbrev s_WayBands_again_size : Stmt := inClass (topS 13) 4
abbrev s_WayBands_band_end : Stmt := inClass (topS 13) 5
abbrev s_WayBands_find_bands : Stmt := inClass (topS 13) 6
abbrev s_WayBands_has_more_bands : Stmt := inClass (topS 13) 7
abbrev s_WayBands_page_size : Stmt := inClass (topS 13) 8
abbrev s_WayBands_distance : Stmt := inClass (topS 13) 9
abbrev s_check_text : Stmt := topS 16
abbrev s_write_text : Stmt := topS 17
abbrev s_digits_of : Stmt := topS 18
abbrev s_SheetPages__init_ : Stmt := inClass (topS 22) 0
abbrev s_SheetPages_find_fitting_scale : Stmt := inClass (topS 22) 1
abbrev s_SheetPages_fits : Stmt := inClass (topS 22) 2
abbrev s_SheetPages_tell_pages : Stmt := inClass (topS 22) 3
abbrev s_SheetPages_area_pages_with : Stmt := inClass (topS 22) 4
abbrev s_SheetPages_tell_page : Stmt := inClass (topS 22) 5
abbrev s_SheetPages_tell_where : Stmt := inClass (topS 22) 6
abbrev s_SheetPages_tell_texts : Stmt := inClass (topS 22) 7
abbrev s_WaySettings__init_ : Stmt := inClass (topS 27) 0
abbrev s_WaySettings_check_span : Stmt := inClass (topS 27) 1
abbrev s_WaySettings_set_size : Stmt := inClass (topS 27) 2
abbrev s_WaySettings_set_titles : Stmt := inClass (topS 27) 3
abbrev s_WaySettings_set_breaks : Stmt := inClass (topS 27) 4
abbrev s_SheetSettings__init_ : Stmt := inClass (topS 35) 0
abbrev s_SheetSettings_begin : Stmt := inClass (topS 35) 1
abbrev s_SheetSettings_set_paper : Stmt := inClass (topS 35) 2
abbrev s_SheetSettings_set_areas : Stmt := inClass (topS 35) 3
abbrev s_SheetSettings_set_scale : Stmt := inClass (topS 35) 4
abbrev s_SheetSettings_set_fit : Stmt := inClass (topS 35) 5
abbrev s_SheetSettings_set_how : Stmt := inClass (topS 35) 6
abbrev s_SheetSettings_set_heads : Stmt := inClass (topS 35) 7
abbrev s_check_side : Stmt := topS 36
abbrev s_Sheet__init_ : Stmt := inClass (topS 39) 0
abbrev s_Sheet_change : Stmt := inClass (topS 39) 1
abbrev s_Sheet_ask : Stmt := inClass (topS 39) 2
abbrev s_answers : Stmt := topS 40
abbrev s_answer_call : Stmt := topS 41
abbrev s_make_change : Stmt := topS 42
abbrev s_answer_question : Stmt := topS 43
abbrev n_read_calls : List Str := ["calls", "read", "place", "form", "first", "numbers", "lists", "turn"]
abbrev p_read_calls : List Str := ["calls"]
theorem sc_read_calls : FnScope n_read_calls p_read_calls (defScope s_read_calls) := ⟨rfl, rfl, rfl, by decide +kernel, rfl, by decide +kernel, by decide +kernel⟩
abbrev n_AreaPages__init_ : List Str := ["self", "area_place", "first_page", "row_bands", "column_bands", "beside_first"]
abbrev p_AreaPages__init_ : List Str := ["self", "area_place", "first_page", "row_bands", "column_bands", "beside_first"]
theorem sc_AreaPages__init_ : FnScope n_AreaPages__init_ p_AreaPages__init_ (defScope s_AreaPages__init_) := ⟨rfl, rfl, rfl, by decide +kernel, rfl, by decide +kernel, by decide +kernel⟩
abbrev n_AreaPages_count_pages : List Str := ["self"]
abbrev p_AreaPages_count_pages : List Str := ["self"]
theorem sc_AreaPages_count_pages : FnScope n_AreaPages_count_pages p_AreaPages_count_pages (defScope s_AreaPages_count_pages) := ⟨rfl, rfl, rfl, by decide +kernel, rfl, by decide +kernel, by decide +kernel⟩
abbrev n_AreaPages_row_band_of : List Str := ["self", "number", "place"]
abbrev p_AreaPages_row_band_of : List Str := ["self", "number"]
theorem sc_AreaPages_row_band_of : FnScope n_AreaPages_row_band_of p_AreaPages_row_band_of (defScope s_AreaPages_row_band_of) := ⟨rfl, rfl, rfl, by decide +kernel, rfl, by decide +kernel, by decide +kernel⟩
abbrev n_AreaPages_column_band_of : List Str := ["self", "number", "place"]
abbrev p_AreaPages_column_band_of : List Str := ["self", "number"]
theorem sc_AreaPages_column_band_of : FnScope n_AreaPages_column_band_of p_AreaPages_column_band_of (defScope s_AreaPages_column_band_of) := ⟨rfl, rfl, rfl, by decide +kernel, rfl, by decide +kernel, by decide +kernel⟩
abbrev n_AreaPages_has_cell : List Str := ["self", "row", "column"]
abbrev p_AreaPages_has_cell : List Str := ["self", "row", "column"]
theorem sc_AreaPages_has_cell : FnScope n_AreaPages_has_cell p_AreaPages_has_cell (defScope s_AreaPages_has_cell) := ⟨rfl, rfl, rfl, by decide +kernel, rfl, by decide +kernel, by decide +kernel⟩
abbrev n_AreaPages_page_of : List Str := ["self", "row", "column", "down", "across"]
abbrev p_AreaPages_page_of : List Str := ["self", "row", "column"]
theorem sc_AreaPages_page_of : FnScope n_AreaPages_page_of p_AreaPages_page_of (defScope s_AreaPages_page_of) := ⟨rfl, rfl, rfl, by decide +kernel, rfl, by decide +kernel, by decide +kernel⟩
abbrev n_is_within : List Str := ["place", "bands"]
abbrev p_is_within : List Str := ["place", "bands"]
theorem sc_is_within : FnScope n_is_within p_is_within (defScope s_is_within) := ⟨rfl, rfl, rfl, by decide +kernel, rfl, by decide +kernel, by decide +kernel⟩
abbrev n_band_place : List Str := ["place", "bands", "found"]
abbrev p_band_place : List Str := ["place", "bands"]
theorem sc_band_place : FnScope n_band_place p_band_place (defScope s_band_place) := ⟨rfl, rfl, rfl, by decide +kernel, rfl, by decide +kernel, by decide +kernel⟩
abbrev n_WayBands__init_ : List Str := ["self", "way", "size"]
abbrev p_WayBands__init_ : List Str := ["self", "way"]
theorem sc_WayBands__init_ : FnScope n_WayBands__init_ p_WayBands__init_ (defScope s_WayBands__init_) := ⟨rfl, rfl, rfl, by decide +kernel, rfl, by decide +kernel, by decide +kernel⟩
abbrev n_WayBands_again_from : List Str := ["self", "first", "titles"]
abbrev p_WayBands_again_from : List Str := ["self", "first"]
theorem sc_WayBands_again_from : FnScope n_WayBands_again_from p_WayBands_again_from (defScope s_WayBands_again_from) := ⟨rfl, rfl, rfl, by decide +kernel, rfl, by decide +kernel, by decide +kernel⟩
abbrev n_WayBands_again_end : List Str := ["self", "first", "titles"]
abbrev p_WayBands_again_end : List Str := ["self", "first"]
theorem sc_WayBands_again_end : FnScope n_WayBands_again_end p_WayBands_again_end (defScope s_WayBands_again_end) := ⟨rfl, rfl, rfl, by decide +kernel, rfl, by decide +kernel, by decide +kernel⟩
abbrev n_WayBands_count_again : List Str := ["self", "first"]
abbrev p_WayBands_count_again : List Str := ["self", "first"]
theorem sc_WayBands_count_again : FnScope n_WayBands_count_again p_WayBands_count_again (defScope s_WayBands_count_again) := ⟨rfl, rfl, rfl, by decide +kernel, rfl, by decide +kernel, by decide +kernel⟩
abbrev n_WayBands_again_size : List Str := ["self", "first"]
abbrev p_WayBands_again_size : List Str := ["self", "first"]
theorem sc_WayBands_again_size : FnScope n_WayBands_again_size p_WayBands_again_size (defScope s_WayBands_again_size) := ⟨rfl, rfl, rfl, by decide +kernel, rfl, by decide +kernel, by decide +kernel⟩
abbrev n_WayBands_band_end : List Str := ["self", "first", "last", "scale", "room", "farthest", "breaks", "end"]
abbrev p_WayBands_band_end : List Str := ["self", "first", "last", "scale"]
theorem sc_WayBands_band_end : FnScope n_WayBands_band_end p_WayBands_band_end (defScope s_WayBands_band_end) := ⟨rfl, rfl, rfl, by decide +kernel, rfl, by decide +kernel, by decide +kernel⟩
abbrev n_WayBands_find_bands : List Str := ["self", "first", "last", "scale", "bands", "end"]
abbrev p_WayBands_find_bands : List Str := ["self", "first", "last", "scale"]
theorem sc_WayBands_find_bands : FnScope n_WayBands_find_bands p_WayBands_find_bands (defScope s_WayBands_find_bands) := ⟨rfl, rfl, rfl, by decide +kernel, rfl, by decide +kernel, by decide +kernel⟩
abbrev n_WayBands_has_more_bands : List Str := ["self", "first", "last", "scale", "most", "count"]
abbrev p_WayBands_has_more_bands : List Str := ["self", "first", "last", "scale", "most"]
theorem sc_WayBands_has_more_bands : FnScope n_WayBands_has_more_bands p_WayBands_has_more_bands (defScope s_WayBands_has_more_bands) := ⟨rfl, rfl, rfl, by decide +kernel, rfl, by decide +kernel, by decide +kernel⟩
abbrev n_WayBands_page_size : List Str := ["self", "band", "scale", "length"]
abbrev p_WayBands_page_size : List Str := ["self", "band", "scale"]
theorem sc_WayBands_page_size : FnScope n_WayBands_page_size p_WayBands_page_size (defScope s_WayBands_page_size) := ⟨rfl, rfl, rfl, by decide +kernel, rfl, by decide +kernel, by decide +kernel⟩
abbrev n_WayBands_distance : List Str := ["self", "place", "band", "scale", "ahead", "left_over", "shift"]
abbrev p_WayBands_distance : List Str := ["self", "place", "band", "scale"]
theorem sc_WayBands_distance : FnScope n_WayBands_distance p_WayBands_distance (defScope s_WayBands_distance) := ⟨rfl, rfl, rfl, by decide +kernel, rfl, by decide +kernel, by decide +kernel⟩
abbrev n_check_text : List Str := ["text"]
abbrev p_check_text : List Str := ["text"]
theorem sc_check_text : FnScope n_check_text p_check_text (defScope s_check_text) := ⟨rfl, rfl, rfl, by decide +kernel, rfl, by decide +kernel, by decide +kernel⟩
abbrev n_write_text : List Str := ["text", "page_number", "page_count", "area_number", "ampersand", "sides", "numbers", "parts", "part", "behind", "byte"]
abbrev p_write_text : List Str := ["text", "page_number", "page_count", "area_number"]
theorem sc_write_text : FnScope n_write_text p_write_text (defScope s_write_text) := ⟨rfl, rfl, rfl, by decide +kernel, rfl, by decide +kernel, by decide +kernel⟩
abbrev n_digits_of : List Str := ["number", "digit"]
abbrev p_digits_of : List Str := ["number"]
theorem sc_digits_of : FnScope n_digits_of p_digits_of (defScope s_digits_of) := ⟨rfl, rfl, rfl, by decide +kernel, rfl, by decide +kernel, by decide +kernel⟩
abbrev n_SheetPages__init_ : List Str := ["self", "settings", "area", "row_bands", "column_bands", "place", "pages"]
abbrev p_SheetPages__init_ : List Str := ["self", "settings"]
theorem sc_SheetPages__init_ : FnScope n_SheetPages__init_ p_SheetPages__init_ (defScope s_SheetPages__init_) := ⟨rfl, rfl, rfl, by decide +kernel, rfl, by decide +kernel, by decide +kernel⟩
abbrev n_SheetPages_find_fitting_scale : List Str := ["self", "scale"]
abbrev p_SheetPages_find_fitting_scale : List Str := ["self"]
theorem sc_SheetPages_find_fitting_scale : FnScope n_SheetPages_find_fitting_scale p_SheetPages_find_fitting_scale (defScope s_SheetPages_find_fitting_scale) := ⟨rfl, rfl, rfl, by decide +kernel, rfl, by decide +kernel, by decide +kernel⟩
abbrev n_SheetPages_fits : List Str := ["self", "scale", "wide", "tall", "area"]
abbrev p_SheetPages_fits : List Str := ["self", "scale"]
theorem sc_SheetPages_fits : FnScope n_SheetPages_fits p_SheetPages_fits (defScope s_SheetPages_fits) := ⟨rfl, rfl, rfl, by decide +kernel, rfl, by decide +kernel, by decide +kernel⟩
abbrev n_SheetPages_tell_pages : List Str := ["self", "told", "pages"]
abbrev p_SheetPages_tell_pages : List Str := ["self"]
theorem sc_SheetPages_tell_pages : FnScope n_SheetPages_tell_pages p_SheetPages_tell_pages (defScope s_SheetPages_tell_pages) := ⟨rfl, rfl, rfl, by decide +kernel, rfl, by decide +kernel, by decide +kernel⟩
abbrev n_SheetPages_area_pages_with : List Str := ["self", "number", "place"]
abbrev p_SheetPages_area_pages_with : List Str := ["self", "number"]
theorem sc_SheetPages_area_pages_with : FnScope n_SheetPages_area_pages_with p_SheetPages_area_pages_with (defScope s_SheetPages_area_pages_with) := ⟨rfl, rfl, rfl, by decide +kernel, rfl, by decide +kernel, by decide +kernel⟩
abbrev n_SheetPages_tell_page : List Str := ["self", "number", "pages", "row_band", "column_band", "told"]
abbrev p_SheetPages_tell_page : List Str := ["self", "number"]
theorem sc_SheetPages_tell_page : FnScope n_SheetPages_tell_page p_SheetPages_tell_page (defScope s_SheetPages_tell_page) := ⟨rfl, rfl, rfl, by decide +kernel, rfl, by decide +kernel, by decide +kernel⟩
abbrev n_SheetPages_tell_where : List Str := ["self", "row", "column", "count", "told", "pages", "number"]
abbrev p_SheetPages_tell_where : List Str := ["self", "row", "column"]
theorem sc_SheetPages_tell_where : FnScope n_SheetPages_tell_where p_SheetPages_tell_where (defScope s_SheetPages_tell_where) := ⟨rfl, rfl, rfl, by decide +kernel, rfl, by decide +kernel, by decide +kernel⟩
abbrev n_SheetPages_tell_texts : List Str := ["self", "number", "area_number", "page_number", "told", "text", "part"]
abbrev p_SheetPages_tell_texts : List Str := ["self", "number"]
theorem sc_SheetPages_tell_texts : FnScope n_SheetPages_tell_texts p_SheetPages_tell_texts (defScope s_SheetPages_tell_texts) := ⟨rfl, rfl, rfl, by decide +kernel, rfl, by decide +kernel, by decide +kernel⟩
abbrev n_WaySettings__init_ : List Str := ["self", "place_count", "size"]
abbrev p_WaySettings__init_ : List Str := ["self", "place_count", "size"]
theorem sc_WaySettings__init_ : FnScope n_WaySettings__init_ p_WaySettings__init_ (defScope s_WaySettings__init_) := ⟨rfl, rfl, rfl, by decide +kernel, rfl, by decide +kernel, by decide +kernel⟩
abbrev n_WaySettings_check_span : List Str := ["self", "first", "last"]
abbrev p_WaySettings_check_span : List Str := ["self", "first", "last"]
theorem sc_WaySettings_check_span : FnScope n_WaySettings_check_span p_WaySettings_check_span (defScope s_WaySettings_check_span) := ⟨rfl, rfl, rfl, by decide +kernel, rfl, by decide +kernel, by decide +kernel⟩
abbrev n_WaySettings_set_size : List Str := ["self", "first", "last", "size", "place"]
abbrev p_WaySettings_set_size : List Str := ["self", "first", "last", "size"]
theorem sc_WaySettings_set_size : FnScope n_WaySettings_set_size p_WaySettings_set_size (defScope s_WaySettings_set_size) := ⟨rfl, rfl, rfl, by decide +kernel, rfl, by decide +kernel, by decide +kernel⟩
abbrev n_WaySettings_set_titles : List Str := ["self", "span"]
abbrev p_WaySettings_set_titles : List Str := ["self", "span"]
theorem sc_WaySettings_set_titles : FnScope n_WaySettings_set_titles p_WaySettings_set_titles (defScope s_WaySettings_set_titles) := ⟨rfl, rfl, rfl, by decide +kernel, rfl, by decide +kernel, by decide +kernel⟩
abbrev n_WaySettings_set_breaks : List Str := ["self", "places", "place", "breaks"]
abbrev p_WaySettings_set_breaks : List Str := ["self", "places"]
theorem sc_WaySettings_set_breaks : FnScope n_WaySettings_set_breaks p_WaySettings_set_breaks (defScope s_WaySettings_set_breaks) := ⟨rfl, rfl, rfl, by decide +kernel, rfl, by decide +kernel, by decide +kernel⟩
abbrev n_SheetSettings__init_ : List Str := ["self"]
abbrev p_SheetSettings__init_ : List Str := ["self"]
theorem sc_SheetSettings__init_ : FnScope n_SheetSettings__init_ p_SheetSettings__init_ (defScope s_SheetSettings__init_) := ⟨rfl, rfl, rfl, by decide +kernel, rfl, by decide +kernel, by decide +kernel⟩
abbrev n_SheetSettings_begin : List Str := ["self"]
abbrev p_SheetSettings_begin : List Str := ["self"]
theorem sc_SheetSettings_begin : FnScope n_SheetSettings_begin p_SheetSettings_begin (defScope s_SheetSettings_begin) := ⟨rfl, rfl, rfl, by decide +kernel, rfl, by decide +kernel, by decide +kernel⟩
abbrev n_SheetSettings_set_paper : List Str := ["self", "width", "height", "left", "right", "top", "bottom", "rows", "columns"]
abbrev p_SheetSettings_set_paper : List Str := ["self", "width", "height", "left", "right", "top", "bottom"]
theorem sc_SheetSettings_set_paper : FnScope n_SheetSettings_set_paper p_SheetSettings_set_paper (defScope s_SheetSettings_set_paper) := ⟨rfl, rfl, rfl, by decide +kernel, rfl, by decide +kernel, by decide +kernel⟩
abbrev n_SheetSettings_set_areas : List Str := ["self", "corners", "areas", "start", "area"]
abbrev p_SheetSettings_set_areas : List Str := ["self", "corners"]
theorem sc_SheetSettings_set_areas : FnScope n_SheetSettings_set_areas p_SheetSettings_set_areas (defScope s_SheetSettings_set_areas) := ⟨rfl, rfl, rfl, by decide +kernel, rfl, by decide +kernel, by decide +kernel⟩
abbrev n_SheetSettings_set_scale : List Str := ["self", "scale"]
abbrev p_SheetSettings_set_scale : List Str := ["self", "scale"]
theorem sc_SheetSettings_set_scale : FnScope n_SheetSettings_set_scale p_SheetSettings_set_scale (defScope s_SheetSettings_set_scale) := ⟨rfl, rfl, rfl, by decide +kernel, rfl, by decide +kernel, by decide +kernel⟩
abbrev n_SheetSettings_set_fit : List Str := ["self", "wide", "tall"]
abbrev p_SheetSettings_set_fit : List Str := ["self", "wide", "tall"]
theorem sc_SheetSettings_set_fit : FnScope n_SheetSettings_set_fit p_SheetSettings_set_fit (defScope s_SheetSettings_set_fit) := ⟨rfl, rfl, rfl, by decide +kernel, rfl, by decide +kernel, by decide +kernel⟩
abbrev n_SheetSettings_set_how : List Str := ["self", "over", "across", "down", "first_number", "rows", "columns"]
abbrev p_SheetSettings_set_how : List Str := ["self", "over", "across", "down", "first_number"]
theorem sc_SheetSettings_set_how : FnScope n_SheetSettings_set_how p_SheetSettings_set_how (defScope s_SheetSettings_set_how) := ⟨rfl, rfl, rfl, by decide +kernel, rfl, by decide +kernel, by decide +kernel⟩
abbrev n_SheetSettings_set_heads : List Str := ["self", "head", "foot"]
abbrev p_SheetSettings_set_heads : List Str := ["self", "head", "foot"]
theorem sc_SheetSettings_set_heads : FnScope n_SheetSettings_set_heads p_SheetSettings_set_heads (defScope s_SheetSettings_set_heads) := ⟨rfl, rfl, rfl, by decide +kernel, rfl, by decide +kernel, by decide +kernel⟩
abbrev n_check_side : List Str := ["length", "near", "far"]
abbrev p_check_side : List Str := ["length", "near", "far"]
theorem sc_check_side : FnScope n_check_side p_check_side (defScope s_check_side) := ⟨rfl, rfl, rfl, by decide +kernel, rfl, by decide +kernel, by decide +kernel⟩
abbrev n_Sheet__init_ : List Str := ["self"]
abbrev p_Sheet__init_ : List Str := ["self"]
theorem sc_Sheet__init_ : FnScope n_Sheet__init_ p_Sheet__init_ (defScope s_Sheet__init_) := ⟨rfl, rfl, rfl, by decide +kernel, rfl, by decide +kernel, by decide +kernel⟩
abbrev n_Sheet_change : List Str := ["self"]
abbrev p_Sheet_change : List Str := ["self"]
theorem sc_Sheet_change : FnScope n_Sheet_change p_Sheet_change (defScope s_Sheet_change) := ⟨rfl, rfl, rfl, by decide +kernel, rfl, by decide +kernel, by decide +kernel⟩
abbrev n_Sheet_ask : List Str := ["self"]
abbrev p_Sheet_ask : List Str := ["self"]
theorem sc_Sheet_ask : FnScope n_Sheet_ask p_Sheet_ask (defScope s_Sheet_ask) := ⟨rfl, rfl, rfl, by decide +kernel, rfl, by decide +kernel, by decide +kernel⟩
abbrev n_answers : List Str := ["calls", "sheet", "given", "name", "numbers", "lists", "told"]
abbrev p_answers : List Str := ["calls"]
theorem sc_answers : FnScope n_answers p_answers (defScope s_answers) := ⟨rfl, rfl, rfl, by decide +kernel, rfl, by decide +kernel, by decide +kernel⟩
abbrev n_answer_call : List Str := ["sheet", "name", "numbers", "lists"]
abbrev p_answer_call : List Str := ["sheet", "name", "numbers", "lists"]
theorem sc_answer_call : FnScope n_answer_call p_answer_call (defScope s_answer_call) := ⟨rfl, rfl, rfl, by decide +kernel, rfl, by decide +kernel, by decide +kernel⟩
abbrev n_make_change : List Str := ["settings", "name", "numbers", "lists", "way"]
abbrev p_make_change : List Str := ["settings", "name", "numbers", "lists"]
theorem sc_make_change : FnScope n_make_change p_make_change (defScope s_make_change) := ⟨rfl, rfl, rfl, by decide +kernel, rfl, by decide +kernel, by decide +kernel⟩
abbrev n_answer_question : List Str := ["pages", "name", "numbers"]
abbrev p_answer_question : List Str := ["pages", "name", "numbers"]
theorem sc_answer_question : FnScope n_answer_question p_answer_question (defScope s_answer_question) := ⟨rfl, rfl, rfl, by decide +kernel, rfl, by decide +kernel, by decide +kernel⟩
/-- a def of the text, and how its arguments bind -/
structure FunB (K : PySem.W.Frag) (x qual : Str) (st : Stmt) (f : Addr) (ps : List Str) : Prop where
  ex : ∃ fd, Fun K x qual st f fd ∧ Binds K fd ps []
/-- the addresses of what the top has written -/
structure Ad where
  C_AreaPages : Addr
  C_WayBands : Addr
  C_SheetPages : Addr
  C_WaySettings : Addr
  C_SheetSettings : Addr
  C_Sheet : Addr
  X_OutOfRange : Addr
  X_CannotBeTold : Addr
  X_TooMany : Addr
  X_NoSuchPage : Addr
  f_read_calls : Addr
  f_AreaPages__init_ : Addr
  f_AreaPages_count_pages : Addr
  f_AreaPages_row_band_of : Addr
  f_AreaPages_column_band_of : Addr
  f_AreaPages_has_cell : Addr
  f_AreaPages_page_of : Addr
  f_is_within : Addr
  f_band_place : Addr
  f_WayBands__init_ : Addr
  f_WayBands_again_from : Addr
  f_WayBands_again_end : Addr
  f_WayBands_count_again : Addr
  f_WayBands_again_size : Addr
  f_WayBands_band_end : Addr
  f_WayBands_find_bands : Addr
  f_WayBands_has_more_bands : Addr
  f_WayBands_page_size : Addr
  f_WayBands_distance : Addr
  f_check_text : Addr
  f_write_text : Addr
  f_digits_of : Addr
  f_SheetPages__init_ : Addr
  f_SheetPages_find_fitting_scale : Addr
  f_SheetPages_fits : Addr
  f_SheetPages_tell_pages : Addr
  f_SheetPages_area_pages_with : Addr
  f_SheetPages_tell_page : Addr
  f_SheetPages_tell_where : Addr
  f_SheetPages_tell_texts : Addr
  f_WaySettings__init_ : Addr
  f_WaySettings_check_span : Addr
  f_WaySettings_set_size : Addr
  f_WaySettings_set_titles : Addr
  f_WaySettings_set_breaks : Addr
  f_SheetSettings__init_ : Addr
  f_SheetSettings_begin : Addr
  f_SheetSettings_set_paper : Addr
  f_SheetSettings_set_areas : Addr
  f_SheetSettings_set_scale : Addr
  f_SheetSettings_set_fit : Addr
  f_SheetSettings_set_how : Addr
  f_SheetSettings_set_heads : Addr
  f_check_side : Addr
  f_Sheet__init_ : Addr
  f_Sheet_change : Addr
  f_Sheet_ask : Addr
  f_answers : Addr
  f_answer_call : Addr
  f_make_change : Addr
  f_answer_question : Addr
  t_FORMS : Addr
  t_QUESTIONS : Addr
def rows_FORMS : List (List V) := [[V.str "begins", V.int 0, V.int 0], [V.str "size", V.int 4, V.int 0], [V.str "paper", V.int 6, V.int 0], [V.str "areas", V.int 0, V.int 1], [V.str "titles", V.int 1, V.int 1], [V.str "breaks", V.int 1, V.int 1], [V.str "scale", V.int 1, V.int 0], [V.str "fit", V.int 2, V.int 0], [V.str "how", V.int 4, V.int 0], [V.str "heads", V.int 0, V.int 2], [V.str "pages", V.int 0, V.int 0], [V.str "page", V.int 1, V.int 0], [V.str "where", V.int 2, V.int 0], [V.str "texts", V.int 1, V.int 0]]
def row_QUESTIONS : List V := [V.str "pages", V.str "page", V.str "where", V.str "texts"]
theorem tupK {K : PySem.W.Frag} {H : Hp} {a : Addr} {od : Option Addr} {its : Array Value} {n : Nat} {sl : Array (Option Value)} {xs : List V} (l : K.lookup a = some ⟨.type "tuple", od, .seq its n, sl⟩) (hs : its.size ≤ sizeLine) (hv : Vals xs its.toList) : SqT K H a xs := .inr ⟨_, its, n, l, rfl, rfl, hs, hv⟩
structure Txt (K : PySem.W.Frag) (mg : Str → Option Value) (A : Ad) : Prop where
  c_AreaPages : Cls K A.C_AreaPages
  g_AreaPages : mg "AreaPages" = some (.ref A.C_AreaPages)
  mk_AreaPages : Mk K A.C_AreaPages A.f_AreaPages__init_
  na_AreaPages_area_place : NoAttr K A.C_AreaPages "area_place"
  na_AreaPages_first_page : NoAttr K A.C_AreaPages "first_page"
  na_AreaPages_row_bands : NoAttr K A.C_AreaPages "row_bands"
  na_AreaPages_column_bands : NoAttr K A.C_AreaPages "column_bands"
  na_AreaPages_beside_first : NoAttr K A.C_AreaPages "beside_first"
  m_AreaPages_count_pages : Meth K A.C_AreaPages "count_pages" A.f_AreaPages_count_pages
  m_AreaPages_row_band_of : Meth K A.C_AreaPages "row_band_of" A.f_AreaPages_row_band_of
  m_AreaPages_column_band_of : Meth K A.C_AreaPages "column_band_of" A.f_AreaPages_column_band_of
  m_AreaPages_has_cell : Meth K A.C_AreaPages "has_cell" A.f_AreaPages_has_cell
  m_AreaPages_page_of : Meth K A.C_AreaPages "page_of" A.f_AreaPages_page_of
  c_WayBands : Cls K A.C_WayBands
  g_WayBands : mg "WayBands" = some (.ref A.C_WayBands)
  mk_WayBands : Mk K A.C_WayBands A.f_WayBands__init_
  na_WayBands_way : NoAttr K A.C_WayBands "way"
  na_WayBands_starts : NoAttr K A.C_WayBands "starts"
  m_WayBands_again_from : Meth K A.C_WayBands "again_from" A.f_WayBands_again_from
  m_WayBands_again_end : Meth K A.C_WayBands "again_end" A.f_WayBands_again_end
  m_WayBands_count_again : Meth K A.C_WayBands "count_again" A.f_WayBands_count_again
  m_WayBands_again_size : Meth K A.C_WayBands "again_size" A.f_WayBands_again_size
  m_WayBands_band_end : Meth K A.C_WayBands "band_end" A.f_WayBands_band_end
  m_WayBands_find_bands : Meth K A.C_WayBands "find_bands" A.f_WayBands_find_bands
  m_WayBands_has_more_bands : Meth K A.C_WayBands "has_more_bands" A.f_WayBands_has_more_bands
  m_WayBands_page_size : Meth K A.C_WayBands "page_size" A.f_WayBands_page_size
  m_WayBands_distance : Meth K A.C_WayBands "distance" A.f_WayBands_distance
  c_SheetPages : Cls K A.C_SheetPages
  g_SheetPages : mg "SheetPages" = some (.ref A.C_SheetPages)
  mk_SheetPages : Mk K A.C_SheetPages A.f_SheetPages__init_
  na_SheetPages_settings : NoAttr K A.C_SheetPages "settings"
  na_SheetPages_rows : NoAttr K A.C_SheetPages "rows"
  na_SheetPages_columns : NoAttr K A.C_SheetPages "columns"
  na_SheetPages_used_scale : NoAttr K A.C_SheetPages "used_scale"
  na_SheetPages_page_count : NoAttr K A.C_SheetPages "page_count"
  na_SheetPages_area_pages : NoAttr K A.C_SheetPages "area_pages"
  m_SheetPages_find_fitting_scale : Meth K A.C_SheetPages "find_fitting_scale" A.f_SheetPages_find_fitting_scale
  m_SheetPages_fits : Meth K A.C_SheetPages "fits" A.f_SheetPages_fits
  m_SheetPages_tell_pages : Meth K A.C_SheetPages "tell_pages" A.f_SheetPages_tell_pages
  m_SheetPages_area_pages_with : Meth K A.C_SheetPages "area_pages_with" A.f_SheetPages_area_pages_with
  m_SheetPages_tell_page : Meth K A.C_SheetPages "tell_page" A.f_SheetPages_tell_page
  m_SheetPages_tell_where : Meth K A.C_SheetPages "tell_where" A.f_SheetPages_tell_where
  m_SheetPages_tell_texts : Meth K A.C_SheetPages "tell_texts" A.f_SheetPages_tell_texts
  c_WaySettings : Cls K A.C_WaySettings
  g_WaySettings : mg "WaySettings" = some (.ref A.C_WaySettings)
  mk_WaySettings : Mk K A.C_WaySettings A.f_WaySettings__init_
  na_WaySettings_place_count : NoAttr K A.C_WaySettings "place_count"
  na_WaySettings_sizes : NoAttr K A.C_WaySettings "sizes"
  na_WaySettings_sizes_told : NoAttr K A.C_WaySettings "sizes_told"
  na_WaySettings_edge : NoAttr K A.C_WaySettings "edge"
  na_WaySettings_space : NoAttr K A.C_WaySettings "space"
  na_WaySettings_in_middle : NoAttr K A.C_WaySettings "in_middle"
  na_WaySettings_titles : NoAttr K A.C_WaySettings "titles"
  na_WaySettings_breaks : NoAttr K A.C_WaySettings "breaks"
  m_WaySettings_check_span : Meth K A.C_WaySettings "check_span" A.f_WaySettings_check_span
  m_WaySettings_set_size : Meth K A.C_WaySettings "set_size" A.f_WaySettings_set_size
  m_WaySettings_set_titles : Meth K A.C_WaySettings "set_titles" A.f_WaySettings_set_titles
  m_WaySettings_set_breaks : Meth K A.C_WaySettings "set_breaks" A.f_WaySettings_set_breaks
  c_SheetSettings : Cls K A.C_SheetSettings
  g_SheetSettings : mg "SheetSettings" = some (.ref A.C_SheetSettings)
  mk_SheetSettings : Mk K A.C_SheetSettings A.f_SheetSettings__init_
  na_SheetSettings_ways : NoAttr K A.C_SheetSettings "ways"
  na_SheetSettings_areas : NoAttr K A.C_SheetSettings "areas"
  na_SheetSettings_scale : NoAttr K A.C_SheetSettings "scale"
  na_SheetSettings_fit : NoAttr K A.C_SheetSettings "fit"
  na_SheetSettings_beside_first : NoAttr K A.C_SheetSettings "beside_first"
  na_SheetSettings_first_number : NoAttr K A.C_SheetSettings "first_number"
  na_SheetSettings_head : NoAttr K A.C_SheetSettings "head"
  na_SheetSettings_foot : NoAttr K A.C_SheetSettings "foot"
  m_SheetSettings_begin : Meth K A.C_SheetSettings "begin" A.f_SheetSettings_begin
  m_SheetSettings_set_paper : Meth K A.C_SheetSettings "set_paper" A.f_SheetSettings_set_paper
  m_SheetSettings_set_areas : Meth K A.C_SheetSettings "set_areas" A.f_SheetSettings_set_areas
  m_SheetSettings_set_scale : Meth K A.C_SheetSettings "set_scale" A.f_SheetSettings_set_scale
  m_SheetSettings_set_fit : Meth K A.C_SheetSettings "set_fit" A.f_SheetSettings_set_fit
  m_SheetSettings_set_how : Meth K A.C_SheetSettings "set_how" A.f_SheetSettings_set_how
  m_SheetSettings_set_heads : Meth K A.C_SheetSettings "set_heads" A.f_SheetSettings_set_heads
  c_Sheet : Cls K A.C_Sheet
  g_Sheet : mg "Sheet" = some (.ref A.C_Sheet)
  mk_Sheet : Mk K A.C_Sheet A.f_Sheet__init_
  na_Sheet_settings : NoAttr K A.C_Sheet "settings"
  na_Sheet_kept_pages : NoAttr K A.C_Sheet "kept_pages"
  m_Sheet_change : Meth K A.C_Sheet "change" A.f_Sheet_change
  m_Sheet_ask : Meth K A.C_Sheet "ask" A.f_Sheet_ask
  g_OutOfRange : mg "OutOfRange" = some (.ref A.X_OutOfRange)
  x_OutOfRange : PySem.W.excIn K A.X_OutOfRange [.type "Exception", .type "BaseException", .type "object"] "Exception.__new__" = true
  k_OutOfRange : PySem.W.keepIn K (.ref A.X_OutOfRange) = true
  b_OutOfRange : PySem.W.subIn K (.ref A.X_OutOfRange) (.type "BaseException") = some true
  t_OutOfRange : PySem.W.typeIn K (.ref A.X_OutOfRange) = some (.type "type")
  g_CannotBeTold : mg "CannotBeTold" = some (.ref A.X_CannotBeTold)
  x_CannotBeTold : PySem.W.excIn K A.X_CannotBeTold [.type "Exception", .type "BaseException", .type "object"] "Exception.__new__" = true
  k_CannotBeTold : PySem.W.keepIn K (.ref A.X_CannotBeTold) = true
  b_CannotBeTold : PySem.W.subIn K (.ref A.X_CannotBeTold) (.type "BaseException") = some true
  t_CannotBeTold : PySem.W.typeIn K (.ref A.X_CannotBeTold) = some (.type "type")
  g_TooMany : mg "TooMany" = some (.ref A.X_TooMany)
  x_TooMany : PySem.W.excIn K A.X_TooMany [.type "Exception", .type "BaseException", .type "object"] "Exception.__new__" = true
  k_TooMany : PySem.W.keepIn K (.ref A.X_TooMany) = true
  b_TooMany : PySem.W.subIn K (.ref A.X_TooMany) (.type "BaseException") = some true
  t_TooMany : PySem.W.typeIn K (.ref A.X_TooMany) = some (.type "type")
  g_NoSuchPage : mg "NoSuchPage" = some (.ref A.X_NoSuchPage)
  x_NoSuchPage : PySem.W.excIn K A.X_NoSuchPage [.type "Exception", .type "BaseException", .type "object"] "Exception.__new__" = true
  k_NoSuchPage : PySem.W.keepIn K (.ref A.X_NoSuchPage) = true
  b_NoSuchPage : PySem.W.subIn K (.ref A.X_NoSuchPage) (.type "BaseException") = some true
  t_NoSuchPage : PySem.W.typeIn K (.ref A.X_NoSuchPage) = some (.type "type")
  e_OutOfRange_OutOfRange : PySem.W.exmOne K (.ref A.X_OutOfRange) (.ref A.X_OutOfRange) = some true
  e_OutOfRange_CannotBeTold : PySem.W.exmOne K (.ref A.X_OutOfRange) (.ref A.X_CannotBeTold) = some false
  e_OutOfRange_TooMany : PySem.W.exmOne K (.ref A.X_OutOfRange) (.ref A.X_TooMany) = some false
  e_OutOfRange_NoSuchPage : PySem.W.exmOne K (.ref A.X_OutOfRange) (.ref A.X_NoSuchPage) = some false
  e_CannotBeTold_OutOfRange : PySem.W.exmOne K (.ref A.X_CannotBeTold) (.ref A.X_OutOfRange) = some false
  e_CannotBeTold_CannotBeTold : PySem.W.exmOne K (.ref A.X_CannotBeTold) (.ref A.X_CannotBeTold) = some true
  e_CannotBeTold_TooMany : PySem.W.exmOne K (.ref A.X_CannotBeTold) (.ref A.X_TooMany) = some false
  e_CannotBeTold_NoSuchPage : PySem.W.exmOne K (.ref A.X_CannotBeTold) (.ref A.X_NoSuchPage) = some false
  e_TooMany_OutOfRange : PySem.W.exmOne K (.ref A.X_TooMany) (.ref A.X_OutOfRange) = some false
  e_TooMany_CannotBeTold : PySem.W.exmOne K (.ref A.X_TooMany) (.ref A.X_CannotBeTold) = some false
  e_TooMany_TooMany : PySem.W.exmOne K (.ref A.X_TooMany) (.ref A.X_TooMany) = some true
  e_TooMany_NoSuchPage : PySem.W.exmOne K (.ref A.X_TooMany) (.ref A.X_NoSuchPage) = some false
  e_NoSuchPage_OutOfRange : PySem.W.exmOne K (.ref A.X_NoSuchPage) (.ref A.X_OutOfRange) = some false
  e_NoSuchPage_CannotBeTold : PySem.W.exmOne K (.ref A.X_NoSuchPage) (.ref A.X_CannotBeTold) = some false
  e_NoSuchPage_TooMany : PySem.W.exmOne K (.ref A.X_NoSuchPage) (.ref A.X_TooMany) = some false
  e_NoSuchPage_NoSuchPage : PySem.W.exmOne K (.ref A.X_NoSuchPage) (.ref A.X_NoSuchPage) = some true
  g_read_calls : mg "read_calls" = some (.ref A.f_read_calls)
  k_read_calls : PySem.W.keepIn K (.ref A.f_read_calls) = true
  g_is_within : mg "is_within" = some (.ref A.f_is_within)
  k_is_within : PySem.W.keepIn K (.ref A.f_is_within) = true
  g_band_place : mg "band_place" = some (.ref A.f_band_place)
  k_band_place : PySem.W.keepIn K (.ref A.f_band_place) = true
  g_check_text : mg "check_text" = some (.ref A.f_check_text)
  k_check_text : PySem.W.keepIn K (.ref A.f_check_text) = true
  g_write_text : mg "write_text" = some (.ref A.f_write_text)
  k_write_text : PySem.W.keepIn K (.ref A.f_write_text) = true
  g_digits_of : mg "digits_of" = some (.ref A.f_digits_of)
  k_digits_of : PySem.W.keepIn K (.ref A.f_digits_of) = true
  g_check_side : mg "check_side" = some (.ref A.f_check_side)
  k_check_side : PySem.W.keepIn K (.ref A.f_check_side) = true
  g_answers : mg "answers" = some (.ref A.f_answers)
  k_answers : PySem.W.keepIn K (.ref A.f_answers) = true
  g_answer_call : mg "answer_call" = some (.ref A.f_answer_call)
  k_answer_call : PySem.W.keepIn K (.ref A.f_answer_call) = true
  g_make_change : mg "make_change" = some (.ref A.f_make_change)
  k_make_change : PySem.W.keepIn K (.ref A.f_make_change) = true
  g_answer_question : mg "answer_question" = some (.ref A.f_answer_question)
  k_answer_question : PySem.W.keepIn K (.ref A.f_answer_question) = true
  fn_read_calls : FunB K "read_calls" "read_calls" s_read_calls A.f_read_calls p_read_calls
  fn_AreaPages__init_ : FunB K "__init__" "AreaPages.__init__" s_AreaPages__init_ A.f_AreaPages__init_ p_AreaPages__init_
  fn_AreaPages_count_pages : FunB K "count_pages" "AreaPages.count_pages" s_AreaPages_count_pages A.f_AreaPages_count_pages p_AreaPages_count_pages
  fn_AreaPages_row_band_of : FunB K "row_band_of" "AreaPages.row_band_of" s_AreaPages_row_band_of A.f_AreaPages_row_band_of p_AreaPages_row_band_of
  fn_AreaPages_column_band_of : FunB K "column_band_of" "AreaPages.column_band_of" s_AreaPages_column_band_of A.f_AreaPages_column_band_of p_AreaPages_column_band_of
  fn_AreaPages_has_cell : FunB K "has_cell" "AreaPages.has_cell" s_AreaPages_has_cell A.f_AreaPages_has_cell p_AreaPages_has_cell
  fn_AreaPages_page_of : FunB K "page_of" "AreaPages.page_of" s_AreaPages_page_of A.f_AreaPages_page_of p_AreaPages_page_of
  fn_is_within : FunB K "is_within" "is_within" s_is_within A.f_is_within p_is_within
  fn_band_place : FunB K "band_place" "band_place" s_band_place A.f_band_place p_band_place
  fn_WayBands__init_ : FunB K "__init__" "WayBands.__init__" s_WayBands__init_ A.f_WayBands__init_ p_WayBands__init_
  fn_WayBands_again_from : FunB K "again_from" "WayBands.again_from" s_WayBands_again_from A.f_WayBands_again_from p_WayBands_again_from
  fn_WayBands_again_end : FunB K "again_end" "WayBands.again_end" s_WayBands_again_end A.f_WayBands_again_end p_WayBands_again_end
  fn_WayBands_count_again : FunB K "count_again" "WayBands.count_again" s_WayBands_count_again A.f_WayBands_count_again p_WayBands_count_again
  fn_WayBands_again_size : FunB K "again_size" "WayBands.again_size" s_WayBands_again_size A.f_WayBands_again_size p_WayBands_again_size
  fn_WayBands_band_end : FunB K "band_end" "WayBands.band_end" s_WayBands_band_end A.f_WayBands_band_end p_WayBands_band_end
  fn_WayBands_find_bands : FunB K "find_bands" "WayBands.find_bands" s_WayBands_find_bands A.f_WayBands_find_bands p_WayBands_find_bands
  fn_WayBands_has_more_bands : FunB K "has_more_bands" "WayBands.has_more_bands" s_WayBands_has_more_bands A.f_WayBands_has_more_bands p_WayBands_has_more_bands
  fn_WayBands_page_size : FunB K "page_size" "WayBands.page_size" s_WayBands_page_size A.f_WayBands_page_size p_WayBands_page_size
  fn_WayBands_distance : FunB K "distance" "WayBands.distance" s_WayBands_distance A.f_WayBands_distance p_WayBands_distance
  fn_check_text : FunB K "check_text" "check_text" s_check_text A.f_check_text p_check_text
  fn_write_text : FunB K "write_text" "write_text" s_write_text A.f_write_text p_write_text
  fn_digits_of : FunB K "digits_of" "digits_of" s_digits_of A.f_digits_of p_digits_of
  fn_SheetPages__init_ : FunB K "__init__" "SheetPages.__init__" s_SheetPages__init_ A.f_SheetPages__init_ p_SheetPages__init_
  fn_SheetPages_find_fitting_scale : FunB K "find_fitting_scale" "SheetPages.find_fitting_scale" s_SheetPages_find_fitting_scale A.f_SheetPages_find_fitting_scale p_SheetPages_find_fitting_scale
  fn_SheetPages_fits : FunB K "fits" "SheetPages.fits" s_SheetPages_fits A.f_SheetPages_fits p_SheetPages_fits
  fn_SheetPages_tell_pages : FunB K "tell_pages" "SheetPages.tell_pages" s_SheetPages_tell_pages A.f_SheetPages_tell_pages p_SheetPages_tell_pages
  fn_SheetPages_area_pages_with : FunB K "area_pages_with" "SheetPages.area_pages_with" s_SheetPages_area_pages_with A.f_SheetPages_area_pages_with p_SheetPages_area_pages_with
  fn_SheetPages_tell_page : FunB K "tell_page" "SheetPages.tell_page" s_SheetPages_tell_page A.f_SheetPages_tell_page p_SheetPages_tell_page
  fn_SheetPages_tell_where : FunB K "tell_where" "SheetPages.tell_where" s_SheetPages_tell_where A.f_SheetPages_tell_where p_SheetPages_tell_where
  fn_SheetPages_tell_texts : FunB K "tell_texts" "SheetPages.tell_texts" s_SheetPages_tell_texts A.f_SheetPages_tell_texts p_SheetPages_tell_texts
  fn_WaySettings__init_ : FunB K "__init__" "WaySettings.__init__" s_WaySettings__init_ A.f_WaySettings__init_ p_WaySettings__init_
  fn_WaySettings_check_span : FunB K "check_span" "WaySettings.check_span" s_WaySettings_check_span A.f_WaySettings_check_span p_WaySettings_check_span
  fn_WaySettings_set_size : FunB K "set_size" "WaySettings.set_size" s_WaySettings_set_size A.f_WaySettings_set_size p_WaySettings_set_size
  fn_WaySettings_set_titles : FunB K "set_titles" "WaySettings.set_titles" s_WaySettings_set_titles A.f_WaySettings_set_titles p_WaySettings_set_titles
  fn_WaySettings_set_breaks : FunB K "set_breaks" "WaySettings.set_breaks" s_WaySettings_set_breaks A.f_WaySettings_set_breaks p_WaySettings_set_breaks
  fn_SheetSettings__init_ : FunB K "__init__" "SheetSettings.__init__" s_SheetSettings__init_ A.f_SheetSettings__init_ p_SheetSettings__init_
  fn_SheetSettings_begin : FunB K "begin" "SheetSettings.begin" s_SheetSettings_begin A.f_SheetSettings_begin p_SheetSettings_begin
  fn_SheetSettings_set_paper : FunB K "set_paper" "SheetSettings.set_paper" s_SheetSettings_set_paper A.f_SheetSettings_set_paper p_SheetSettings_set_paper
  fn_SheetSettings_set_areas : FunB K "set_areas" "SheetSettings.set_areas" s_SheetSettings_set_areas A.f_SheetSettings_set_areas p_SheetSettings_set_areas
  fn_SheetSettings_set_scale : FunB K "set_scale" "SheetSettings.set_scale" s_SheetSettings_set_scale A.f_SheetSettings_set_scale p_SheetSettings_set_scale
  fn_SheetSettings_set_fit : FunB K "set_fit" "SheetSettings.set_fit" s_SheetSettings_set_fit A.f_SheetSettings_set_fit p_SheetSettings_set_fit
  fn_SheetSettings_set_how : FunB K "set_how" "SheetSettings.set_how" s_SheetSettings_set_how A.f_SheetSettings_set_how p_SheetSettings_set_how
  fn_SheetSettings_set_heads : FunB K "set_heads" "SheetSettings.set_heads" s_SheetSettings_set_heads A.f_SheetSettings_set_heads p_SheetSettings_set_heads
  fn_check_side : FunB K "check_side" "check_side" s_check_side A.f_check_side p_check_side
  fn_Sheet__init_ : FunB K "__init__" "Sheet.__init__" s_Sheet__init_ A.f_Sheet__init_ p_Sheet__init_
  fn_Sheet_change : FunB K "change" "Sheet.change" s_Sheet_change A.f_Sheet_change p_Sheet_change
  fn_Sheet_ask : FunB K "ask" "Sheet.ask" s_Sheet_ask A.f_Sheet_ask p_Sheet_ask
  fn_answers : FunB K "answers" "answers" s_answers A.f_answers p_answers
  fn_answer_call : FunB K "answer_call" "answer_call" s_answer_call A.f_answer_call p_answer_call
  fn_make_change : FunB K "make_change" "make_change" s_make_change A.f_make_change p_make_change
  fn_answer_question : FunB K "answer_question" "answer_question" s_answer_question A.f_answer_question p_answer_question
  g_FORMS : mg "FORMS" = some (.ref A.t_FORMS)
  s_FORMS : ∃ us : List Addr, us.length = 14 ∧ (∀ H, SqT K H A.t_FORMS (us.map V.ref)) ∧ ∀ (j : Nat) u row, us[j]? = some u → rows_FORMS[j]? = some row → ∀ H, SqT K H u row
  i_LONGEST_TEXT : ∃ t, mg "LONGEST_TEXT" = some (.int 255 t)
  i_LARGEST_FITTING : ∃ t, mg "LARGEST_FITTING" = some (.int 100 t)
  i_SMALLEST_FITTING : ∃ t, mg "SMALLEST_FITTING" = some (.int 10 t)
  i_MOST_SIZES : ∃ t, mg "MOST_SIZES" = some (.int 200 t)
  i_LARGEST_SIZE : ∃ t, mg "LARGEST_SIZE" = some (.int 10000 t)
  i_MOST_BREAKS : ∃ t, mg "MOST_BREAKS" = some (.int 500 t)
  i_LONGEST_SIDE : ∃ t, mg "LONGEST_SIDE" = some (.int 100000 t)
  i_MOST_AREAS : ∃ t, mg "MOST_AREAS" = some (.int 32 t)
  i_SMALLEST_SCALE : ∃ t, mg "SMALLEST_SCALE" = some (.int 10 t)
  i_LARGEST_SCALE : ∃ t, mg "LARGEST_SCALE" = some (.int 400 t)
  i_MOST_BANDS : ∃ t, mg "MOST_BANDS" = some (.int 1000 t)
  i_FARTHEST_FIRST_NUMBER : ∃ t, mg "FARTHEST_FIRST_NUMBER" = some (.int 1000000 t)
  g_QUESTIONS : mg "QUESTIONS" = some (.ref A.t_QUESTIONS)
  s_QUESTIONS : ∀ H, SqT K H A.t_QUESTIONS row_QUESTIONS
  bl_abs : mg "abs" = none
  bl_len : mg "len" = none
  bl_min : mg "min" = none
  bl_ord : mg "ord" = none
  bl_range : mg "range" = none
  bl_str : mg "str" = none
  bl_tuple : mg "tuple" = none
theorem lk_here {k : Str} {v : V} {r : List (Str × V)} : List.lookup k ((k, v) :: r) = some v := by
  have e : (k == k) = true := beq_self_eq_true k
  simp only [List.lookup, e]
theorem lk_past {k g : Str} {v : V} {r : List (Str × V)} (h : (k == g) = false) : List.lookup k ((g, v) :: r) = List.lookup k r := by
  simp only [List.lookup, h]
theorem put_here {f : Str} {v x : V} {r : List (Str × V)} : putF f v ((f, x) :: r) = (f, v) :: r := if_pos rfl
theorem put_past {f g : Str} {v x : V} {r r' : List (Str × V)} (h : ¬ g = f) (e : putF f v r = r') : putF f v ((g, x) :: r) = (g, x) :: r' := (if_neg h).trans (congrArg _ e)
/-- the attributes of a AreaPages, in the order in which they are set -/
def F_AreaPages (v0 v1 v2 v3 v4 : V) : List (Str × V) := [("area_place", v0), ("first_page", v1), ("row_bands", v2), ("column_bands", v3), ("beside_first", v4)]
theorem lk_AreaPages_area_place {v0 v1 v2 v3 v4 : V} : (F_AreaPages v0 v1 v2 v3 v4).lookup ("area_place" : Str) = some v0 := lk_here
theorem put_AreaPages_area_place {v0 v1 v2 v3 v4 y : V} : putF "area_place" y (F_AreaPages v0 v1 v2 v3 v4) = F_AreaPages y v1 v2 v3 v4 := put_here
theorem lk_AreaPages_first_page {v0 v1 v2 v3 v4 : V} : (F_AreaPages v0 v1 v2 v3 v4).lookup ("first_page" : Str) = some v1 := (lk_past (by decide +kernel)).trans (lk_here)
theorem put_AreaPages_first_page {v0 v1 v2 v3 v4 y : V} : putF "first_page" y (F_AreaPages v0 v1 v2 v3 v4) = F_AreaPages v0 y v2 v3 v4 := put_past (by decide +kernel) (put_here)
theorem lk_AreaPages_row_bands {v0 v1 v2 v3 v4 : V} : (F_AreaPages v0 v1 v2 v3 v4).lookup ("row_bands" : Str) = some v2 := (lk_past (by decide +kernel)).trans ((lk_past (by decide +kernel)).trans (lk_here))
theorem put_AreaPages_row_bands {v0 v1 v2 v3 v4 y : V} : putF "row_bands" y (F_AreaPages v0 v1 v2 v3 v4) = F_AreaPages v0 v1 y v3 v4 := put_past (by decide +kernel) (put_past (by decide +kernel) (put_here))
theorem lk_AreaPages_column_bands {v0 v1 v2 v3 v4 : V} : (F_AreaPages v0 v1 v2 v3 v4).lookup ("column_bands" : Str) = some v3 := (lk_past (by decide +kernel)).trans ((lk_past (by decide +kernel)).trans ((lk_past (by decide +kernel)).trans (lk_here)))
theorem put_AreaPages_column_bands {v0 v1 v2 v3 v4 y : V} : putF "column_bands" y (F_AreaPages v0 v1 v2 v3 v4) = F_AreaPages v0 v1 v2 y v4 := put_past (by decide +kernel) (put_past (by decide +kernel) (put_past (by decide +kernel) (put_here)))
theorem lk_AreaPages_beside_first {v0 v1 v2 v3 v4 : V} : (F_AreaPages v0 v1 v2 v3 v4).lookup ("beside_first" : Str) = some v4 := (lk_past (by decide +kernel)).trans ((lk_past (by decide +kernel)).trans ((lk_past (by decide +kernel)).trans ((lk_past (by decide +kernel)).trans (lk_here))))
theorem put_AreaPages_beside_first {v0 v1 v2 v3 v4 y : V} : putF "beside_first" y (F_AreaPages v0 v1 v2 v3 v4) = F_AreaPages v0 v1 v2 v3 y := put_past (by decide +kernel) (put_past (by decide +kernel) (put_past (by decide +kernel) (put_past (by decide +kernel) (put_here))))
theorem nw_AreaPages_0 {v0 : V} : putF "area_place" v0 ([] : List (Str × V)) = ([("area_place", v0)] : List (Str × V)) := rfl
theorem nw_AreaPages_1 {v0 v1 : V} : putF "first_page" v1 ([("area_place", v0)] : List (Str × V)) = ([("area_place", v0), ("first_page", v1)] : List (Str × V)) := put_past (by decide +kernel) (rfl)
theorem nw_AreaPages_2 {v0 v1 v2 : V} : putF "row_bands" v2 ([("area_place", v0), ("first_page", v1)] : List (Str × V)) = ([("area_place", v0), ("first_page", v1), ("row_bands", v2)] : List (Str × V)) := put_past (by decide +kernel) (put_past (by decide +kernel) (rfl))
theorem nw_AreaPages_3 {v0 v1 v2 v3 : V} : putF "column_bands" v3 ([("area_place", v0), ("first_page", v1), ("row_bands", v2)] : List (Str × V)) = ([("area_place", v0), ("first_page", v1), ("row_bands", v2), ("column_bands", v3)] : List (Str × V)) := put_past (by decide +kernel) (put_past (by decide +kernel) (put_past (by decide +kernel) (rfl)))
theorem nw_AreaPages_4 {v0 v1 v2 v3 v4 : V} : putF "beside_first" v4 ([("area_place", v0), ("first_page", v1), ("row_bands", v2), ("column_bands", v3)] : List (Str × V)) = ([("area_place", v0), ("first_page", v1), ("row_bands", v2), ("column_bands", v3), ("beside_first", v4)] : List (Str × V)) := put_past (by decide +kernel) (put_past (by decide +kernel) (put_past (by decide +kernel) (put_past (by decide +kernel) (rfl))))
theorem nm_AreaPages__init_ {v0 v1 v2 v3 v4 : V} : (F_AreaPages v0 v1 v2 v3 v4).lookup ("__init__" : Str) = none := (lk_past (by decide +kernel)).trans ((lk_past (by decide +kernel)).trans ((lk_past (by decide +kernel)).trans ((lk_past (by decide +kernel)).trans ((lk_past (by decide +kernel)).trans (rfl)))))
theorem nm_AreaPages_count_pages {v0 v1 v2 v3 v4 : V} : (F_AreaPages v0 v1 v2 v3 v4).lookup ("count_pages" : Str) = none := (lk_past (by decide +kernel)).trans ((lk_past (by decide +kernel)).trans ((lk_past (by decide +kernel)).trans ((lk_past (by decide +kernel)).trans ((lk_past (by decide +kernel)).trans (rfl)))))
theorem nm_AreaPages_row_band_of {v0 v1 v2 v3 v4 : V} : (F_AreaPages v0 v1 v2 v3 v4).lookup ("row_band_of" : Str) = none := (lk_past (by decide +kernel)).trans ((lk_past (by decide +kernel)).trans ((lk_past (by decide +kernel)).trans ((lk_past (by decide +kernel)).trans ((lk_past (by decide +kernel)).trans (rfl)))))
theorem nm_AreaPages_column_band_of {v0 v1 v2 v3 v4 : V} : (F_AreaPages v0 v1 v2 v3 v4).lookup ("column_band_of" : Str) = none := (lk_past (by decide +kernel)).trans ((lk_past (by decide +kernel)).trans ((lk_past (by decide +kernel)).trans ((lk_past (by decide +kernel)).trans ((lk_past (by decide +kernel)).trans (rfl)))))
theorem nm_AreaPages_has_cell {v0 v1 v2 v3 v4 : V} : (F_AreaPages v0 v1 v2 v3 v4).lookup ("has_cell" : Str) = none := (lk_past (by decide +kernel)).trans ((lk_past (by decide +kernel)).trans ((lk_past (by decide +kernel)).trans ((lk_past (by decide +kernel)).trans ((lk_past (by decide +kernel)).trans (rfl)))))
theorem nm_AreaPages_page_of {v0 v1 v2 v3 v4 : V} : (F_AreaPages v0 v1 v2 v3 v4).lookup ("page_of" : Str) = none := (lk_past (by decide +kernel)).trans ((lk_past (by decide +kernel)).trans ((lk_past (by decide +kernel)).trans ((lk_past (by decide +kernel)).trans ((lk_past (by decide +kernel)).trans (rfl)))))
/-- the attributes of a WayBands, in the order in which they are set -/
def F_WayBands (v0 v1 : V) : List (Str × V) := [("way", v0), ("starts", v1)]
theorem lk_WayBands_way {v0 v1 : V} : (F_WayBands v0 v1).lookup ("way" : Str) = some v0 := lk_here
theorem put_WayBands_way {v0 v1 y : V} : putF "way" y (F_WayBands v0 v1) = F_WayBands y v1 := put_here
theorem lk_WayBands_starts {v0 v1 : V} : (F_WayBands v0 v1).lookup ("starts" : Str) = some v1 := (lk_past (by decide +kernel)).trans (lk_here)
theorem put_WayBands_starts {v0 v1 y : V} : putF "starts" y (F_WayBands v0 v1) = F_WayBands v0 y := put_past (by decide +kernel) (put_here)
theorem nw_WayBands_0 {v0 : V} : putF "way" v0 ([] : List (Str × V)) = ([("way", v0)] : List (Str × V)) := rfl
theorem nw_WayBands_1 {v0 v1 : V} : putF "starts" v1 ([("way", v0)] : List (Str × V)) = ([("way", v0), ("starts", v1)] : List (Str × V)) := put_past (by decide +kernel) (rfl)
theorem nm_WayBands__init_ {v0 v1 : V} : (F_WayBands v0 v1).lookup ("__init__" : Str) = none := (lk_past (by decide +kernel)).trans ((lk_past (by decide +kernel)).trans (rfl))
theorem nm_WayBands_again_from {v0 v1 : V} : (F_WayBands v0 v1).lookup ("again_from" : Str) = none := (lk_past (by decide +kernel)).trans ((lk_past (by decide +kernel)).trans (rfl))
theorem nm_WayBands_again_end {v0 v1 : V} : (F_WayBands v0 v1).lookup ("again_end" : Str) = none := (lk_past (by decide +kernel)).trans ((lk_past (by decide +kernel)).trans (rfl))
theorem nm_WayBands_count_again {v0 v1 : V} : (F_WayBands v0 v1).lookup ("count_again" : Str) = none := (lk_past (by decide +kernel)).trans ((lk_past (by decide +kernel)).trans (rfl))
theorem nm_WayBands_again_size {v0 v1 : V} : (F_WayBands v0 v1).lookup ("again_size" : Str) = none := (lk_past (by decide +kernel)).trans ((lk_past (by decide +kernel)).trans (rfl))
theorem nm_WayBands_band_end {v0 v1 : V} : (F_WayBands v0 v1).lookup ("band_end" : Str) = none := (lk_past (by decide +kernel)).trans ((lk_past (by decide +kernel)).trans (rfl))
theorem nm_WayBands_find_bands {v0 v1 : V} : (F_WayBands v0 v1).lookup ("find_bands" : Str) = none := (lk_past (by decide +kernel)).trans ((lk_past (by decide +kernel)).trans (rfl))
theorem nm_WayBands_has_more_bands {v0 v1 : V} : (F_WayBands v0 v1).lookup ("has_more_bands" : Str) = none := (lk_past (by decide +kernel)).trans ((lk_past (by decide +kernel)).trans (rfl))
theorem nm_WayBands_page_size {v0 v1 : V} : (F_WayBands v0 v1).lookup ("page_size" : Str) = none := (lk_past (by decide +kernel)).trans ((lk_past (by decide +kernel)).trans (rfl))
theorem nm_WayBands_distance {v0 v1 : V} : (F_WayBands v0 v1).lookup ("distance" : Str) = none := (lk_past (by decide +kernel)).trans ((lk_past (by decide +kernel)).trans (rfl))
/-- the attributes of a SheetPages, in the order in which they are set -/
def F_SheetPages (v0 v1 v2 v3 v4 v5 : V) : List (Str × V) := [("settings", v0), ("rows", v1), ("columns", v2), ("used_scale", v3), ("page_count", v4), ("area_pages", v5)]
theorem lk_SheetPages_settings {v0 v1 v2 v3 v4 v5 : V} : (F_SheetPages v0 v1 v2 v3 v4 v5).lookup ("settings" : Str) = some v0 := lk_here
theorem put_SheetPages_settings {v0 v1 v2 v3 v4 v5 y : V} : putF "settings" y (F_SheetPages v0 v1 v2 v3 v4 v5) = F_SheetPages y v1 v2 v3 v4 v5 := put_here
theorem lk_SheetPages_rows {v0 v1 v2 v3 v4 v5 : V} : (F_SheetPages v0 v1 v2 v3 v4 v5).lookup ("rows" : Str) = some v1 := (lk_past (by decide +kernel)).trans (lk_here)
theorem put_SheetPages_rows {v0 v1 v2 v3 v4 v5 y : V} : putF "rows" y (F_SheetPages v0 v1 v2 v3 v4 v5) = F_SheetPages v0 y v2 v3 v4 v5 := put_past (by decide +kernel) (put_here)
theorem lk_SheetPages_columns {v0 v1 v2 v3 v4 v5 : V} : (F_SheetPages v0 v1 v2 v3 v4 v5).lookup ("columns" : Str) = some v2 := (lk_past (by decide +kernel)).trans ((lk_past (by decide +kernel)).trans (lk_here))
theorem put_SheetPages_columns {v0 v1 v2 v3 v4 v5 y : V} : putF "columns" y (F_SheetPages v0 v1 v2 v3 v4 v5) = F_SheetPages v0 v1 y v3 v4 v5 := put_past (by decide +kernel) (put_past (by decide +kernel) (put_here))
theorem lk_SheetPages_used_scale {v0 v1 v2 v3 v4 v5 : V} : (F_SheetPages v0 v1 v2 v3 v4 v5).lookup ("used_scale" : Str) = some v3 := (lk_past (by decide +kernel)).trans ((lk_past (by decide +kernel)).trans ((lk_past (by decide +kernel)).trans (lk_here)))
theorem put_SheetPages_used_scale {v0 v1 v2 v3 v4 v5 y : V} : putF "used_scale" y (F_SheetPages v0 v1 v2 v3 v4 v5) = F_SheetPages v0 v1 v2 y v4 v5 := put_past (by decide +kernel) (put_past (by decide +kernel) (put_past (by decide +kernel) (put_here)))
theorem lk_SheetPages_page_count {v0 v1 v2 v3 v4 v5 : V} : (F_SheetPages v0 v1 v2 v3 v4 v5).lookup ("page_count" : Str) = some v4 := (lk_past (by decide +kernel)).trans ((lk_past (by decide +kernel)).trans ((lk_past (by decide +kernel)).trans ((lk_past (by decide +kernel)).trans (lk_here))))
theorem put_SheetPages_page_count {v0 v1 v2 v3 v4 v5 y : V} : putF "page_count" y (F_SheetPages v0 v1 v2 v3 v4 v5) = F_SheetPages v0 v1 v2 v3 y v5 := put_past (by decide +kernel) (put_past (by decide +kernel) (put_past (by decide +kernel) (put_past (by decide +kernel) (put_here))))
theorem lk_SheetPages_area_pages {v0 v1 v2 v3 v4 v5 : V} : (F_SheetPages v0 v1 v2 v3 v4 v5).lookup ("area_pages" : Str) = some v5 := (lk_past (by decide +kernel)).trans ((lk_past (by decide +kernel)).trans ((lk_past (by decide +kernel)).trans ((lk_past (by decide +kernel)).trans ((lk_past (by decide +kernel)).trans (lk_here)))))
theorem put_SheetPages_area_pages {v0 v1 v2 v3 v4 v5 y : V} : putF "area_pages" y (F_SheetPages v0 v1 v2 v3 v4 v5) = F_SheetPages v0 v1 v2 v3 v4 y := put_past (by decide +kernel) (put_past (by decide +kernel) (put_past (by decide +kernel) (put_past (by decide +kernel) (put_past (by decide +kernel) (put_here)))))
theorem nw_SheetPages_0 {v0 : V} : putF "settings" v0 ([] : List (Str × V)) = ([("settings", v0)] : List (Str × V)) := rfl
theorem nw_SheetPages_1 {v0 v1 : V} : putF "rows" v1 ([("settings", v0)] : List (Str × V)) = ([("settings", v0), ("rows", v1)] : List (Str × V)) := put_past (by decide +kernel) (rfl)
theorem nw_SheetPages_2 {v0 v1 v2 : V} : putF "columns" v2 ([("settings", v0), ("rows", v1)] : List (Str × V)) = ([("settings", v0), ("rows", v1), ("columns", v2)] : List (Str × V)) := put_past (by decide +kernel) (put_past (by decide +kernel) (rfl))
theorem nw_SheetPages_3 {v0 v1 v2 v3 : V} : putF "used_scale" v3 ([("settings", v0), ("rows", v1), ("columns", v2)] : List (Str × V)) = ([("settings", v0), ("rows", v1), ("columns", v2), ("used_scale", v3)] : List (Str × V)) := put_past (by decide +kernel) (put_past (by decide +kernel) (put_past (by decide +kernel) (rfl)))
theorem nw_SheetPages_4 {v0 v1 v2 v3 v4 : V} : putF "page_count" v4 ([("settings", v0), ("rows", v1), ("columns", v2), ("used_scale", v3)] : List (Str × V)) = ([("settings", v0), ("rows", v1), ("columns", v2), ("used_scale", v3), ("page_count", v4)] : List (Str × V)) := put_past (by decide +kernel) (put_past (by decide +kernel) (put_past (by decide +kernel) (put_past (by decide +kernel) (rfl))))
theorem nw_SheetPages_5 {v0 v1 v2 v3 v4 v5 : V} : putF "area_pages" v5 ([("settings", v0), ("rows", v1), ("columns", v2), ("used_scale", v3), ("page_count", v4)] : List (Str × V)) = ([("settings", v0), ("rows", v1), ("columns", v2), ("used_scale", v3), ("page_count", v4), ("area_pages", v5)] : List (Str × V)) := put_past (by decide +kernel) (put_past (by decide +kernel) (put_past (by decide +kernel) (put_past (by decide +kernel) (put_past (by decide +kernel) (rfl)))))
theorem nm_SheetPages__init_ {v0 v1 v2 v3 v4 v5 : V} : (F_SheetPages v0 v1 v2 v3 v4 v5).lookup ("__init__" : Str) = none := (lk_past (by decide +kernel)).trans ((lk_past (by decide +kernel)).trans ((lk_past (by decide +kernel)).trans ((lk_past (by decide +kernel)).trans ((lk_past (by decide +kernel)).trans ((lk_past (by decide +kernel)).trans (rfl))))))
theorem nm_SheetPages_find_fitting_scale {v0 v1 v2 v3 v4 v5 : V} : (F_SheetPages v0 v1 v2 v3 v4 v5).lookup ("find_fitting_scale" : Str) = none := (lk_past (by decide +kernel)).trans ((lk_past (by decide +kernel)).trans ((lk_past (by decide +kernel)).trans ((lk_past (by decide +kernel)).trans ((lk_past (by decide +kernel)).trans ((lk_past (by decide +kernel)).trans (rfl))))))
theorem nm_SheetPages_fits {v0 v1 v2 v3 v4 v5 : V} : (F_SheetPages v0 v1 v2 v3 v4 v5).lookup ("fits" : Str) = none := (lk_past (by decide +kernel)).trans ((lk_past (by decide +kernel)).trans ((lk_past (by decide +kernel)).trans ((lk_past (by decide +kernel)).trans ((lk_past (by decide +kernel)).trans ((lk_past (by decide +kernel)).trans (rfl))))))
theorem nm_SheetPages_tell_pages {v0 v1 v2 v3 v4 v5 : V} : (F_SheetPages v0 v1 v2 v3 v4 v5).lookup ("tell_pages" : Str) = none := (lk_past (by decide +kernel)).trans ((lk_past (by decide +kernel)).trans ((lk_past (by decide +kernel)).trans ((lk_past (by decide +kernel)).trans ((lk_past (by decide +kernel)).trans ((lk_past (by decide +kernel)).trans (rfl))))))
theorem nm_SheetPages_area_pages_with {v0 v1 v2 v3 v4 v5 : V} : (F_SheetPages v0 v1 v2 v3 v4 v5).lookup ("area_pages_with" : Str) = none := (lk_past (by decide +kernel)).trans ((lk_past (by decide +kernel)).trans ((lk_past (by decide +kernel)).trans ((lk_past (by decide +kernel)).trans ((lk_past (by decide +kernel)).trans ((lk_past (by decide +kernel)).trans (rfl))))))
theorem nm_SheetPages_tell_page {v0 v1 v2 v3 v4 v5 : V} : (F_SheetPages v0 v1 v2 v3 v4 v5).lookup ("tell_page" : Str) = none := (lk_past (by decide +kernel)).trans ((lk_past (by decide +kernel)).trans ((lk_past (by decide +kernel)).trans ((lk_past (by decide +kernel)).trans ((lk_past (by decide +kernel)).trans ((lk_past (by decide +kernel)).trans (rfl))))))
theorem nm_SheetPages_tell_where {v0 v1 v2 v3 v4 v5 : V} : (F_SheetPages v0 v1 v2 v3 v4 v5).lookup ("tell_where" : Str) = none := (lk_past (by decide +kernel)).trans ((lk_past (by decide +kernel)).trans ((lk_past (by decide +kernel)).trans ((lk_past (by decide +kernel)).trans ((lk_past (by decide +kernel)).trans ((lk_past (by decide +kernel)).trans (rfl))))))
theorem nm_SheetPages_tell_texts {v0 v1 v2 v3 v4 v5 : V} : (F_SheetPages v0 v1 v2 v3 v4 v5).lookup ("tell_texts" : Str) = none := (lk_past (by decide +kernel)).trans ((lk_past (by decide +kernel)).trans ((lk_past (by decide +kernel)).trans ((lk_past (by decide +kernel)).trans ((lk_past (by decide +kernel)).trans ((lk_past (by decide +kernel)).trans (rfl))))))
/-- the attributes of a WaySettings, in the order in which they are set -/
def F_WaySettings (v0 v1 v2 v3 v4 v5 v6 v7 : V) : List (Str × V) := [("place_count", v0), ("sizes", v1), ("sizes_told", v2), ("edge", v3), ("space", v4), ("in_middle", v5), ("titles", v6), ("breaks", v7)]
theorem lk_WaySettings_place_count {v0 v1 v2 v3 v4 v5 v6 v7 : V} : (F_WaySettings v0 v1 v2 v3 v4 v5 v6 v7).lookup ("place_count" : Str) = some v0 := lk_here
theorem put_WaySettings_place_count {v0 v1 v2 v3 v4 v5 v6 v7 y : V} : putF "place_count" y (F_WaySettings v0 v1 v2 v3 v4 v5 v6 v7) = F_WaySettings y v1 v2 v3 v4 v5 v6 v7 := put_here
theorem lk_WaySettings_sizes {v0 v1 v2 v3 v4 v5 v6 v7 : V} : (F_WaySettings v0 v1 v2 v3 v4 v5 v6 v7).lookup ("sizes" : Str) = some v1 := (lk_past (by decide +kernel)).trans (lk_here)
theorem put_WaySettings_sizes {v0 v1 v2 v3 v4 v5 v6 v7 y : V} : putF "sizes" y (F_WaySettings v0 v1 v2 v3 v4 v5 v6 v7) = F_WaySettings v0 y v2 v3 v4 v5 v6 v7 := put_past (by decide +kernel) (put_here)
theorem lk_WaySettings_sizes_told {v0 v1 v2 v3 v4 v5 v6 v7 : V} : (F_WaySettings v0 v1 v2 v3 v4 v5 v6 v7).lookup ("sizes_told" : Str) = some v2 := (lk_past (by decide +kernel)).trans ((lk_past (by decide +kernel)).trans (lk_here))
theorem put_WaySettings_sizes_told {v0 v1 v2 v3 v4 v5 v6 v7 y : V} : putF "sizes_told" y (F_WaySettings v0 v1 v2 v3 v4 v5 v6 v7) = F_WaySettings v0 v1 y v3 v4 v5 v6 v7 := put_past (by decide +kernel) (put_past (by decide +kernel) (put_here))
theorem lk_WaySettings_edge {v0 v1 v2 v3 v4 v5 v6 v7 : V} : (F_WaySettings v0 v1 v2 v3 v4 v5 v6 v7).lookup ("edge" : Str) = some v3 := (lk_past (by decide +kernel)).trans ((lk_past (by decide +kernel)).trans ((lk_past (by decide +kernel)).trans (lk_here)))
theorem put_WaySettings_edge {v0 v1 v2 v3 v4 v5 v6 v7 y : V} : putF "edge" y (F_WaySettings v0 v1 v2 v3 v4 v5 v6 v7) = F_WaySettings v0 v1 v2 y v4 v5 v6 v7 := put_past (by decide +kernel) (put_past (by decide +kernel) (put_past (by decide +kernel) (put_here)))
theorem lk_WaySettings_space {v0 v1 v2 v3 v4 v5 v6 v7 : V} : (F_WaySettings v0 v1 v2 v3 v4 v5 v6 v7).lookup ("space" : Str) = some v4 := (lk_past (by decide +kernel)).trans ((lk_past (by decide +kernel)).trans ((lk_past (by decide +kernel)).trans ((lk_past (by decide +kernel)).trans (lk_here))))
theorem put_WaySettings_space {v0 v1 v2 v3 v4 v5 v6 v7 y : V} : putF "space" y (F_WaySettings v0 v1 v2 v3 v4 v5 v6 v7) = F_WaySettings v0 v1 v2 v3 y v5 v6 v7 := put_past (by decide +kernel) (put_past (by decide +kernel) (put_past (by decide +kernel) (put_past (by decide +kernel) (put_here))))
theorem lk_WaySettings_in_middle {v0 v1 v2 v3 v4 v5 v6 v7 : V} : (F_WaySettings v0 v1 v2 v3 v4 v5 v6 v7).lookup ("in_middle" : Str) = some v5 := (lk_past (by decide +kernel)).trans ((lk_past (by decide +kernel)).trans ((lk_past (by decide +kernel)).trans ((lk_past (by decide +kernel)).trans ((lk_past (by decide +kernel)).trans (lk_here)))))
theorem put_WaySettings_in_middle {v0 v1 v2 v3 v4 v5 v6 v7 y : V} : putF "in_middle" y (F_WaySettings v0 v1 v2 v3 v4 v5 v6 v7) = F_WaySettings v0 v1 v2 v3 v4 y v6 v7 := put_past (by decide +kernel) (put_past (by decide +kernel) (put_past (by decide +kernel) (put_past (by decide +kernel) (put_past (by decide +kernel) (put_here)))))
theorem lk_WaySettings_titles {v0 v1 v2 v3 v4 v5 v6 v7 : V} : (F_WaySettings v0 v1 v2 v3 v4 v5 v6 v7).lookup ("titles" : Str) = some v6 := (lk_past (by decide +kernel)).trans ((lk_past (by decide +kernel)).trans ((lk_past (by decide +kernel)).trans ((lk_past (by decide +kernel)).trans ((lk_past (by decide +kernel)).trans ((lk_past (by decide +kernel)).trans (lk_here))))))
theorem put_WaySettings_titles {v0 v1 v2 v3 v4 v5 v6 v7 y : V} : putF "titles" y (F_WaySettings v0 v1 v2 v3 v4 v5 v6 v7) = F_WaySettings v0 v1 v2 v3 v4 v5 y v7 := put_past (by decide +kernel) (put_past (by decide +kernel) (put_past (by decide +kernel) (put_past (by decide +kernel) (put_past (by decide +kernel) (put_past (by decide +kernel) (put_here))))))
theorem lk_WaySettings_breaks {v0 v1 v2 v3 v4 v5 v6 v7 : V} : (F_WaySettings v0 v1 v2 v3 v4 v5 v6 v7).lookup ("breaks" : Str) = some v7 := (lk_past (by decide +kernel)).trans ((lk_past (by decide +kernel)).trans ((lk_past (by decide +kernel)).trans ((lk_past (by decide +kernel)).trans ((lk_past (by decide +kernel)).trans ((lk_past (by decide +kernel)).trans ((lk_past (by decide +kernel)).trans (lk_here)))))))
theorem put_WaySettings_breaks {v0 v1 v2 v3 v4 v5 v6 v7 y : V} : putF "breaks" y (F_WaySettings v0 v1 v2 v3 v4 v5 v6 v7) = F_WaySettings v0 v1 v2 v3 v4 v5 v6 y := put_past (by decide +kernel) (put_past (by decide +kernel) (put_past (by decide +kernel) (put_past (by decide +kernel) (put_past (by decide +kernel) (put_past (by decide +kernel) (put_past (by decide +kernel) (put_here)))))))
theorem nw_WaySettings_0 {v0 : V} : putF "place_count" v0 ([] : List (Str × V)) = ([("place_count", v0)] : List (Str × V)) := rfl
theorem nw_WaySettings_1 {v0 v1 : V} : putF "sizes" v1 ([("place_count", v0)] : List (Str × V)) = ([("place_count", v0), ("sizes", v1)] : List (Str × V)) := put_past (by decide +kernel) (rfl)
theorem nw_WaySettings_2 {v0 v1 v2 : V} : putF "sizes_told" v2 ([("place_count", v0), ("sizes", v1)] : List (Str × V)) = ([("place_count", v0), ("sizes", v1), ("sizes_told", v2)] : List (Str × V)) := put_past (by decide +kernel) (put_past (by decide +kernel) (rfl))
theorem nw_WaySettings_3 {v0 v1 v2 v3 : V} : putF "edge" v3 ([("place_count", v0), ("sizes", v1), ("sizes_told", v2)] : List (Str × V)) = ([("place_count", v0), ("sizes", v1), ("sizes_told", v2), ("edge", v3)] : List (Str × V)) := put_past (by decide +kernel) (put_past (by decide +kernel) (put_past (by decide +kernel) (rfl)))
theorem nw_WaySettings_4 {v0 v1 v2 v3 v4 : V} : putF "space" v4 ([("place_count", v0), ("sizes", v1), ("sizes_told", v2), ("edge", v3)] : List (Str × V)) = ([("place_count", v0), ("sizes", v1), ("sizes_told", v2), ("edge", v3), ("space", v4)] : List (Str × V)) := put_past (by decide +kernel) (put_past (by decide +kernel) (put_past (by decide +kernel) (put_past (by decide +kernel) (rfl))))
theorem nw_WaySettings_5 {v0 v1 v2 v3 v4 v5 : V} : putF "in_middle" v5 ([("place_count", v0), ("sizes", v1), ("sizes_told", v2), ("edge", v3), ("space", v4)] : List (Str × V)) = ([("place_count", v0), ("sizes", v1), ("sizes_told", v2), ("edge", v3), ("space", v4), ("in_middle", v5)] : List (Str × V)) := put_past (by decide +kernel) (put_past (by decide +kernel) (put_past (by decide +kernel) (put_past (by decide +kernel) (put_past (by decide +kernel) (rfl)))))
theorem nw_WaySettings_6 {v0 v1 v2 v3 v4 v5 v6 : V} : putF "titles" v6 ([("place_count", v0), ("sizes", v1), ("sizes_told", v2), ("edge", v3), ("space", v4), ("in_middle", v5)] : List (Str × V)) = ([("place_count", v0), ("sizes", v1), ("sizes_told", v2), ("edge", v3), ("space", v4), ("in_middle", v5), ("titles", v6)] : List (Str × V)) := put_past (by decide +kernel) (put_past (by decide +kernel) (put_past (by decide +kernel) (put_past (by decide +kernel) (put_past (by decide +kernel) (put_past (by decide +kernel) (rfl))))))
theorem nw_WaySettings_7 {v0 v1 v2 v3 v4 v5 v6 v7 : V} : putF "breaks" v7 ([("place_count", v0), ("sizes", v1), ("sizes_told", v2), ("edge", v3), ("space", v4), ("in_middle", v5), ("titles", v6)] : List (Str × V)) = ([("place_count", v0), ("sizes", v1), ("sizes_told", v2), ("edge", v3), ("space", v4), ("in_middle", v5), ("titles", v6), ("breaks", v7)] : List (Str × V)) := put_past (by decide +kernel) (put_past (by decide +kernel) (put_past (by decide +kernel) (put_past (by decide +kernel) (put_past (by decide +kernel) (put_past (by decide +kernel) (put_past (by decide +kernel) (rfl)))))))
theorem nm_WaySettings__init_ {v0 v1 v2 v3 v4 v5 v6 v7 : V} : (F_WaySettings v0 v1 v2 v3 v4 v5 v6 v7).lookup ("__init__" : Str) = none := (lk_past (by decide +kernel)).trans ((lk_past (by decide +kernel)).trans ((lk_past (by decide +kernel)).trans ((lk_past (by decide +kernel)).trans ((lk_past (by decide +kernel)).trans ((lk_past (by decide +kernel)).trans ((lk_past (by decide +kernel)).trans ((lk_past (by decide +kernel)).trans (rfl))))))))
theorem nm_WaySettings_check_span {v0 v1 v2 v3 v4 v5 v6 v7 : V} : (F_WaySettings v0 v1 v2 v3 v4 v5 v6 v7).lookup ("check_span" : Str) = none := (lk_past (by decide +kernel)).trans ((lk_past (by decide +kernel)).trans ((lk_past (by decide +kernel)).trans ((lk_past (by decide +kernel)).trans ((lk_past (by decide +kernel)).trans ((lk_past (by decide +kernel)).trans ((lk_past (by decide +kernel)).trans ((lk_past (by decide +kernel)).trans (rfl))))))))
theorem nm_WaySettings_set_size {v0 v1 v2 v3 v4 v5 v6 v7 : V} : (F_WaySettings v0 v1 v2 v3 v4 v5 v6 v7).lookup ("set_size" : Str) = none := (lk_past (by decide +kernel)).trans ((lk_past (by decide +kernel)).trans ((lk_past (by decide +kernel)).trans ((lk_past (by decide +kernel)).trans ((lk_past (by decide +kernel)).trans ((lk_past (by decide +kernel)).trans ((lk_past (by decide +kernel)).trans ((lk_past (by decide +kernel)).trans (rfl))))))))
theorem nm_WaySettings_set_titles {v0 v1 v2 v3 v4 v5 v6 v7 : V} : (F_WaySettings v0 v1 v2 v3 v4 v5 v6 v7).lookup ("set_titles" : Str) = none := (lk_past (by decide +kernel)).trans ((lk_past (by decide +kernel)).trans ((lk_past (by decide +kernel)).trans ((lk_past (by decide +kernel)).trans ((lk_past (by decide +kernel)).trans ((lk_past (by decide +kernel)).trans ((lk_past (by decide +kernel)).trans ((lk_past (by decide +kernel)).trans (rfl))))))))
theorem nm_WaySettings_set_breaks {v0 v1 v2 v3 v4 v5 v6 v7 : V} : (F_WaySettings v0 v1 v2 v3 v4 v5 v6 v7).lookup ("set_breaks" : Str) = none := (lk_past (by decide +kernel)).trans ((lk_past (by decide +kernel)).trans ((lk_past (by decide +kernel)).trans ((lk_past (by decide +kernel)).trans ((lk_past (by decide +kernel)).trans ((lk_past (by decide +kernel)).trans ((lk_past (by decide +kernel)).trans ((lk_past (by decide +kernel)).trans (rfl))))))))
/-- the attributes of a SheetSettings, in the order in which they are set -/
def F_SheetSettings (v0 v1 v2 v3 v4 v5 v6 v7 : V) : List (Str × V) := [("ways", v0), ("areas", v1), ("scale", v2), ("fit", v3), ("beside_first", v4), ("first_number", v5), ("head", v6), ("foot", v7)]
theorem lk_SheetSettings_ways {v0 v1 v2 v3 v4 v5 v6 v7 : V} : (F_SheetSettings v0 v1 v2 v3 v4 v5 v6 v7).lookup ("ways" : Str) = some v0 := lk_here
theorem put_SheetSettings_ways {v0 v1 v2 v3 v4 v5 v6 v7 y : V} : putF "ways" y (F_SheetSettings v0 v1 v2 v3 v4 v5 v6 v7) = F_SheetSettings y v1 v2 v3 v4 v5 v6 v7 := put_here
theorem lk_SheetSettings_areas {v0 v1 v2 v3 v4 v5 v6 v7 : V} : (F_SheetSettings v0 v1 v2 v3 v4 v5 v6 v7).lookup ("areas" : Str) = some v1 := (lk_past (by decide +kernel)).trans (lk_here)
theorem put_SheetSettings_areas {v0 v1 v2 v3 v4 v5 v6 v7 y : V} : putF "areas" y (F_SheetSettings v0 v1 v2 v3 v4 v5 v6 v7) = F_SheetSettings v0 y v2 v3 v4 v5 v6 v7 := put_past (by decide +kernel) (put_here)
theorem lk_SheetSettings_scale {v0 v1 v2 v3 v4 v5 v6 v7 : V} : (F_SheetSettings v0 v1 v2 v3 v4 v5 v6 v7).lookup ("scale" : Str) = some v2 := (lk_past (by decide +kernel)).trans ((lk_past (by decide +kernel)).trans (lk_here))
theorem put_SheetSettings_scale {v0 v1 v2 v3 v4 v5 v6 v7 y : V} : putF "scale" y (F_SheetSettings v0 v1 v2 v3 v4 v5 v6 v7) = F_SheetSettings v0 v1 y v3 v4 v5 v6 v7 := put_past (by decide +kernel) (put_past (by decide +kernel) (put_here))
theorem lk_SheetSettings_fit {v0 v1 v2 v3 v4 v5 v6 v7 : V} : (F_SheetSettings v0 v1 v2 v3 v4 v5 v6 v7).lookup ("fit" : Str) = some v3 := (lk_past (by decide +kernel)).trans ((lk_past (by decide +kernel)).trans ((lk_past (by decide +kernel)).trans (lk_here)))
theorem put_SheetSettings_fit {v0 v1 v2 v3 v4 v5 v6 v7 y : V} : putF "fit" y (F_SheetSettings v0 v1 v2 v3 v4 v5 v6 v7) = F_SheetSettings v0 v1 v2 y v4 v5 v6 v7 := put_past (by decide +kernel) (put_past (by decide +kernel) (put_past (by decide +kernel) (put_here)))
theorem lk_SheetSettings_beside_first {v0 v1 v2 v3 v4 v5 v6 v7 : V} : (F_SheetSettings v0 v1 v2 v3 v4 v5 v6 v7).lookup ("beside_first" : Str) = some v4 := (lk_past (by decide +kernel)).trans ((lk_past (by decide +kernel)).trans ((lk_past (by decide +kernel)).trans ((lk_past (by decide +kernel)).trans (lk_here))))
theorem put_SheetSettings_beside_first {v0 v1 v2 v3 v4 v5 v6 v7 y : V} : putF "beside_first" y (F_SheetSettings v0 v1 v2 v3 v4 v5 v6 v7) = F_SheetSettings v0 v1 v2 v3 y v5 v6 v7 := put_past (by decide +kernel) (put_past (by decide +kernel) (put_past (by decide +kernel) (put_past (by decide +kernel) (put_here))))
theorem lk_SheetSettings_first_number {v0 v1 v2 v3 v4 v5 v6 v7 : V} : (F_SheetSettings v0 v1 v2 v3 v4 v5 v6 v7).lookup ("first_number" : Str) = some v5 := (lk_past (by decide +kernel)).trans ((lk_past (by decide +kernel)).trans ((lk_past (by decide +kernel)).trans ((lk_past (by decide +kernel)).trans ((lk_past (by decide +kernel)).trans (lk_here)))))
theorem put_SheetSettings_first_number {v0 v1 v2 v3 v4 v5 v6 v7 y : V} : putF "first_number" y (F_SheetSettings v0 v1 v2 v3 v4 v5 v6 v7) = F_SheetSettings v0 v1 v2 v3 v4 y v6 v7 := put_past (by decide +kernel) (put_past (by decide +kernel) (put_past (by decide +kernel) (put_past (by decide +kernel) (put_past (by decide +kernel) (put_here)))))
theorem lk_SheetSettings_head {v0 v1 v2 v3 v4 v5 v6 v7 : V} : (F_SheetSettings v0 v1 v2 v3 v4 v5 v6 v7).lookup ("head" : Str) = some v6 := (lk_past (by decide +kernel)).trans ((lk_past (by decide +kernel)).trans ((lk_past (by decide +kernel)).trans ((lk_past (by decide +kernel)).trans ((lk_past (by decide +kernel)).trans ((lk_past (by decide +kernel)).trans (lk_here))))))
theorem put_SheetSettings_head {v0 v1 v2 v3 v4 v5 v6 v7 y : V} : putF "head" y (F_SheetSettings v0 v1 v2 v3 v4 v5 v6 v7) = F_SheetSettings v0 v1 v2 v3 v4 v5 y v7 := put_past (by decide +kernel) (put_past (by decide +kernel) (put_past (by decide +kernel) (put_past (by decide +kernel) (put_past (by decide +kernel) (put_past (by decide +kernel) (put_here))))))
theorem lk_SheetSettings_foot {v0 v1 v2 v3 v4 v5 v6 v7 : V} : (F_SheetSettings v0 v1 v2 v3 v4 v5 v6 v7).lookup ("foot" : Str) = some v7 := (lk_past (by decide +kernel)).trans ((lk_past (by decide +kernel)).trans ((lk_past (by decide +kernel)).trans ((lk_past (by decide +kernel)).trans ((lk_past (by decide +kernel)).trans ((lk_past (by decide +kernel)).trans ((lk_past (by decide +kernel)).trans (lk_here)))))))
theorem put_SheetSettings_foot {v0 v1 v2 v3 v4 v5 v6 v7 y : V} : putF "foot" y (F_SheetSettings v0 v1 v2 v3 v4 v5 v6 v7) = F_SheetSettings v0 v1 v2 v3 v4 v5 v6 y := put_past (by decide +kernel) (put_past (by decide +kernel) (put_past (by decide +kernel) (put_past (by decide +kernel) (put_past (by decide +kernel) (put_past (by decide +kernel) (put_past (by decide +kernel) (put_here)))))))
theorem nw_SheetSettings_0 {v0 : V} : putF "ways" v0 ([] : List (Str × V)) = ([("ways", v0)] : List (Str × V)) := rfl
theorem nw_SheetSettings_1 {v0 v1 : V} : putF "areas" v1 ([("ways", v0)] : List (Str × V)) = ([("ways", v0), ("areas", v1)] : List (Str × V)) := put_past (by decide +kernel) (rfl)
theorem nw_SheetSettings_2 {v0 v1 v2 : V} : putF "scale" v2 ([("ways", v0), ("areas", v1)] : List (Str × V)) = ([("ways", v0), ("areas", v1), ("scale", v2)] : List (Str × V)) := put_past (by decide +kernel) (put_past (by decide +kernel) (rfl))
theorem nw_SheetSettings_3 {v0 v1 v2 v3 : V} : putF "fit" v3 ([("ways", v0), ("areas", v1), ("scale", v2)] : List (Str × V)) = ([("ways", v0), ("areas", v1), ("scale", v2), ("fit", v3)] : List (Str × V)) := put_past (by decide +kernel) (put_past (by decide +kernel) (put_past (by decide +kernel) (rfl)))
theorem nw_SheetSettings_4 {v0 v1 v2 v3 v4 : V} : putF "beside_first" v4 ([("ways", v0), ("areas", v1), ("scale", v2), ("fit", v3)] : List (Str × V)) = ([("ways", v0), ("areas", v1), ("scale", v2), ("fit", v3), ("beside_first", v4)] : List (Str × V)) := put_past (by decide +kernel) (put_past (by decide +kernel) (put_past (by decide +kernel) (put_past (by decide +kernel) (rfl))))
theorem nw_SheetSettings_5 {v0 v1 v2 v3 v4 v5 : V} : putF "first_number" v5 ([("ways", v0), ("areas", v1), ("scale", v2), ("fit", v3), ("beside_first", v4)] : List (Str × V)) = ([("ways", v0), ("areas", v1), ("scale", v2), ("fit", v3), ("beside_first", v4), ("first_number", v5)] : List (Str × V)) := put_past (by decide +kernel) (put_past (by decide +kernel) (put_past (by decide +kernel) (put_past (by decide +kernel) (put_past (by decide +kernel) (rfl)))))
theorem nw_SheetSettings_6 {v0 v1 v2 v3 v4 v5 v6 : V} : putF "head" v6 ([("ways", v0), ("areas", v1), ("scale", v2), ("fit", v3), ("beside_first", v4), ("first_number", v5)] : List (Str × V)) = ([("ways", v0), ("areas", v1), ("scale", v2), ("fit", v3), ("beside_first", v4), ("first_number", v5), ("head", v6)] : List (Str × V)) := put_past (by decide +kernel) (put_past (by decide +kernel) (put_past (by decide +kernel) (put_past (by decide +kernel) (put_past (by decide +kernel) (put_past (by decide +kernel) (rfl))))))
theorem nw_SheetSettings_7 {v0 v1 v2 v3 v4 v5 v6 v7 : V} : putF "foot" v7 ([("ways", v0), ("areas", v1), ("scale", v2), ("fit", v3), ("beside_first", v4), ("first_number", v5), ("head", v6)] : List (Str × V)) = ([("ways", v0), ("areas", v1), ("scale", v2), ("fit", v3), ("beside_first", v4), ("first_number", v5), ("head", v6), ("foot", v7)] : List (Str × V)) := put_past (by decide +kernel) (put_past (by decide +kernel) (put_past (by decide +kernel) (put_past (by decide +kernel) (put_past (by decide +kernel) (put_past (by decide +kernel) (put_past (by decide +kernel) (rfl)))))))
theorem nm_SheetSettings__init_ {v0 v1 v2 v3 v4 v5 v6 v7 : V} : (F_SheetSettings v0 v1 v2 v3 v4 v5 v6 v7).lookup ("__init__" : Str) = none := (lk_past (by decide +kernel)).trans ((lk_past (by decide +kernel)).trans ((lk_past (by decide +kernel)).trans ((lk_past (by decide +kernel)).trans ((lk_past (by decide +kernel)).trans ((lk_past (by decide +kernel)).trans ((lk_past (by decide +kernel)).trans ((lk_past (by decide +kernel)).trans (rfl))))))))
theorem nm_SheetSettings_begin {v0 v1 v2 v3 v4 v5 v6 v7 : V} : (F_SheetSettings v0 v1 v2 v3 v4 v5 v6 v7).lookup ("begin" : Str) = none := (lk_past (by decide +kernel)).trans ((lk_past (by decide +kernel)).trans ((lk_past (by decide +kernel)).trans ((lk_past (by decide +kernel)).trans ((lk_past (by decide +kernel)).trans ((lk_past (by decide +kernel)).trans ((lk_past (by decide +kernel)).trans ((lk_past (by decide +kernel)).trans (rfl))))))))
theorem nm_SheetSettings_set_paper {v0 v1 v2 v3 v4 v5 v6 v7 : V} : (F_SheetSettings v0 v1 v2 v3 v4 v5 v6 v7).lookup ("set_paper" : Str) = none := (lk_past (by decide +kernel)).trans ((lk_past (by decide +kernel)).trans ((lk_past (by decide +kernel)).trans ((lk_past (by decide +kernel)).trans ((lk_past (by decide +kernel)).trans ((lk_past (by decide +kernel)).trans ((lk_past (by decide +kernel)).trans ((lk_past (by decide +kernel)).trans (rfl))))))))
theorem nm_SheetSettings_set_areas {v0 v1 v2 v3 v4 v5 v6 v7 : V} : (F_SheetSettings v0 v1 v2 v3 v4 v5 v6 v7).lookup ("set_areas" : Str) = none := (lk_past (by decide +kernel)).trans ((lk_past (by decide +kernel)).trans ((lk_past (by decide +kernel)).trans ((lk_past (by decide +kernel)).trans ((lk_past (by decide +kernel)).trans ((lk_past (by decide +kernel)).trans ((lk_past (by decide +kernel)).trans ((lk_past (by decide +kernel)).trans (rfl))))))))
theorem nm_SheetSettings_set_scale {v0 v1 v2 v3 v4 v5 v6 v7 : V} : (F_SheetSettings v0 v1 v2 v3 v4 v5 v6 v7).lookup ("set_scale" : Str) = none := (lk_past (by decide +kernel)).trans ((lk_past (by decide +kernel)).trans ((lk_past (by decide +kernel)).trans ((lk_past (by decide +kernel)).trans ((lk_past (by decide +kernel)).trans ((lk_past (by decide +kernel)).trans ((lk_past (by decide +kernel)).trans ((lk_past (by decide +kernel)).trans (rfl))))))))
theorem nm_SheetSettings_set_fit {v0 v1 v2 v3 v4 v5 v6 v7 : V} : (F_SheetSettings v0 v1 v2 v3 v4 v5 v6 v7).lookup ("set_fit" : Str) = none := (lk_past (by decide +kernel)).trans ((lk_past (by decide +kernel)).trans ((lk_past (by decide +kernel)).trans ((lk_past (by decide +kernel)).trans ((lk_past (by decide +kernel)).trans ((lk_past (by decide +kernel)).trans ((lk_past (by decide +kernel)).trans ((lk_past (by decide +kernel)).trans (rfl))))))))
theorem nm_SheetSettings_set_how {v0 v1 v2 v3 v4 v5 v6 v7 : V} : (F_SheetSettings v0 v1 v2 v3 v4 v5 v6 v7).lookup ("set_how" : Str) = none := (lk_past (by decide +kernel)).trans ((lk_past (by decide +kernel)).trans ((lk_past (by decide +kernel)).trans ((lk_past (by decide +kernel)).trans ((lk_past (by decide +kernel)).trans ((lk_past (by decide +kernel)).trans ((lk_past (by decide +kernel)).trans ((lk_past (by decide +kernel)).trans (rfl))))))))
theorem nm_SheetSettings_set_heads {v0 v1 v2 v3 v4 v5 v6 v7 : V} : (F_SheetSettings v0 v1 v2 v3 v4 v5 v6 v7).lookup ("set_heads" : Str) = none := (lk_past (by decide +kernel)).trans ((lk_past (by decide +kernel)).trans ((lk_past (by decide +kernel)).trans ((lk_past (by decide +kernel)).trans ((lk_past (by decide +kernel)).trans ((lk_past (by decide +kernel)).trans ((lk_past (by decide +kernel)).trans ((lk_past (by decide +kernel)).trans (rfl))))))))
/-- the attributes of a Sheet, in the order in which they are set -/
def F_Sheet (v0 v1 : V) : List (Str × V) := [("settings", v0), ("kept_pages", v1)]
theorem lk_Sheet_settings {v0 v1 : V} : (F_Sheet v0 v1).lookup ("settings" : Str) = some v0 := lk_here
theorem put_Sheet_settings {v0 v1 y : V} : putF "settings" y (F_Sheet v0 v1) = F_Sheet y v1 := put_here
theorem lk_Sheet_kept_pages {v0 v1 : V} : (F_Sheet v0 v1).lookup ("kept_pages" : Str) = some v1 := (lk_past (by decide +kernel)).trans (lk_here)
theorem put_Sheet_kept_pages {v0 v1 y : V} : putF "kept_pages" y (F_Sheet v0 v1) = F_Sheet v0 y := put_past (by decide +kernel) (put_here)
theorem nw_Sheet_0 {v0 : V} : putF "settings" v0 ([] : List (Str × V)) = ([("settings", v0)] : List (Str × V)) := rfl
theorem nw_Sheet_1 {v0 v1 : V} : putF "kept_pages" v1 ([("settings", v0)] : List (Str × V)) = ([("settings", v0), ("kept_pages", v1)] : List (Str × V)) := put_past (by decide +kernel) (rfl)
theorem nm_Sheet__init_ {v0 v1 : V} : (F_Sheet v0 v1).lookup ("__init__" : Str) = none := (lk_past (by decide +kernel)).trans ((lk_past (by decide +kernel)).trans (rfl))
theorem nm_Sheet_change {v0 v1 : V} : (F_Sheet v0 v1).lookup ("change" : Str) = none := (lk_past (by decide +kernel)).trans ((lk_past (by decide +kernel)).trans (rfl))
theorem nm_Sheet_ask {v0 v1 : V} : (F_Sheet v0 v1).lookup ("ask" : Str) = none := (lk_past (by decide +kernel)).trans ((lk_past (by decide +kernel)).trans (rfl))
/-- an error of the class at S is what «except S» names; an error of another class is not -/
theorem exm_of {K : PySem.W.Frag} {S R : Addr} {b : Bool} (h1 : PySem.W.subIn K (.ref R) (.type "BaseException") = some true) (h2 : PySem.W.isClsIn K R = true) (h3 : PySem.W.typeIn K (.ref R) = some (.type "type")) (h4 : PySem.W.subIn K (.ref S) (.ref R) = some b) :
    PySem.W.exmOne K (.ref S) (.ref R) = some b := by
  have e1 : (PySem.W.subIn K (.ref R) (.type "BaseException") == some true) = true := by rw [h1] <;> rfl
  have e2 : ((PySem.W.clsIn K R).isSome && PySem.W.typeIn K (.ref R) == some (.type "type")) = true := by
    have h2' : (PySem.W.clsIn K R).isSome = true := h2
    rw [h2', h3] <;> rfl
  show (if (PySem.W.subIn K (.ref R) (.type "BaseException") == some true) = true then (if ((PySem.W.clsIn K R).isSome && PySem.W.typeIn K (.ref R) == some (.type "type")) = true then PySem.W.subIn K (.ref S) (.ref R) else none) else none) = some b
  rw [if_pos e1, if_pos e2]
  exact h4
/-- a def of the text, and how its arguments bind, from what k_is finds -/
theorem funB_mk {K : PySem.W.Frag} {x qual : Str} {st : Stmt} {f : Addr} {ps : List Str} {oc : Value} {od an : Option Addr} {osl : Array (Option Value)} {kV doc pm cdv ct : Value}
    (h : ∀ (kV doc pm : Value) (an : Option Addr) (cdv ct : Value) (us : List Value), us.length = ps.length → bindArgs (PySem.W.fnOf x qual (defArgs st) (defBody st) (defScope st) .none kV doc pm an cdv ct) ⟨us, []⟩ = pure (ps.zip us))
    (l : K.lookup f = some ⟨oc, od, .func (PySem.W.fnOf x qual (defArgs st) (defBody st) (defScope st) .none kV doc pm an cdv ct), osl⟩)
    (c : PySem.W.codeIn K cdv qual = true) (k : PySem.W.keepIn K (.ref f) = true) : FunB K x qual st f ps :=
  ⟨_, fun_mk l c k, (fun_mk l c k).binds h⟩
theorem txt_mk {K : PySem.W.Frag} {h : Heap} {mg : Str → Option Value} (X : K.In h) (G : h.Ns mainGlobals mg) {C_AreaPages C_WayBands C_SheetPages C_WaySettings C_SheetSettings C_Sheet X_OutOfRange X_CannotBeTold X_TooMany X_NoSuchPage f_read_calls f_AreaPages__init_ f_AreaPages_count_pages f_AreaPages_row_band_of f_AreaPages_column_band_of f_AreaPages_has_cell f_AreaPages_page_of f_is_within f_band_place f_WayBands__init_ f_WayBands_again_from f_WayBands_again_end f_WayBands_count_again f_WayBands_again_size f_WayBands_band_end f_WayBands_find_bands f_WayBands_has_more_bands f_WayBands_page_size f_WayBands_distance f_check_text f_write_text f_digits_of f_SheetPages__init_ f_SheetPages_find_fitting_scale f_SheetPages_fits f_SheetPages_tell_pages f_SheetPages_area_pages_with f_SheetPages_tell_page f_SheetPages_tell_where f_SheetPages_tell_texts f_WaySettings__init_ f_WaySettings_check_span f_WaySettings_set_size f_WaySettings_set_titles f_WaySettings_set_breaks f_SheetSettings__init_ f_SheetSettings_begin f_SheetSettings_set_paper f_SheetSettings_set_areas f_SheetSettings_set_scale f_SheetSettings_set_fit f_SheetSettings_set_how f_SheetSettings_set_heads f_check_side f_Sheet__init_ f_Sheet_change f_Sheet_ask f_answers f_answer_call f_make_change f_answer_question t_FORMS t_QUESTIONS u_FORMS_0 u_FORMS_1 u_FORMS_2 u_FORMS_3 u_FORMS_4 u_FORMS_5 u_FORMS_6 u_FORMS_7 u_FORMS_8 u_FORMS_9 u_FORMS_10 u_FORMS_11 u_FORMS_12 u_FORMS_13 : Addr}
    {od_FORMS od_FORMS_0 od_FORMS_1 od_FORMS_2 od_FORMS_3 od_FORMS_4 od_FORMS_5 od_FORMS_6 od_FORMS_7 od_FORMS_8 od_FORMS_9 od_FORMS_10 od_FORMS_11 od_FORMS_12 od_FORMS_13 od_QUESTIONS : Option Addr} {n_FORMS n_FORMS_0 n_FORMS_1 n_FORMS_2 n_FORMS_3 n_FORMS_4 n_FORMS_5 n_FORMS_6 n_FORMS_7 n_FORMS_8 n_FORMS_9 n_FORMS_10 n_FORMS_11 n_FORMS_12 n_FORMS_13 n_QUESTIONS : Nat} {sl_FORMS sl_FORMS_0 sl_FORMS_1 sl_FORMS_2 sl_FORMS_3 sl_FORMS_4 sl_FORMS_5 sl_FORMS_6 sl_FORMS_7 sl_FORMS_8 sl_FORMS_9 sl_FORMS_10 sl_FORMS_11 sl_FORMS_12 sl_FORMS_13 sl_QUESTIONS : Array (Option Value)} {od0 an0 od1 an1 od2 an2 od3 an3 od4 an4 od5 an5 od6 an6 od7 an7 od8 an8 od9 an9 od10 an10 od11 an11 od12 an12 od13 an13 od14 an14 od15 an15 od16 an16 od17 an17 od18 an18 od19 an19 od20 an20 od21 an21 od22 an22 od23 an23 od24 an24 od25 an25 od26 an26 od27 an27 od28 an28 od29 an29 od30 an30 od31 an31 od32 an32 od33 an33 od34 an34 od35 an35 od36 an36 od37 an37 od38 an38 od39 an39 od40 an40 od41 an41 od42 an42 od43 an43 od44 an44 od45 an45 od46 an46 od47 an47 od48 an48 od49 an49 od50 an50 : Option Addr} {sl0 sl1 sl2 sl3 sl4 sl5 sl6 sl7 sl8 sl9 sl10 sl11 sl12 sl13 sl14 sl15 sl16 sl17 sl18 sl19 sl20 sl21 sl22 sl23 sl24 sl25 sl26 sl27 sl28 sl29 sl30 sl31 sl32 sl33 sl34 sl35 sl36 sl37 sl38 sl39 sl40 sl41 sl42 sl43 sl44 sl45 sl46 sl47 sl48 sl49 sl50 : Array (Option Value)} {oc0 kV0 dc0 pm0 cd0 ct0 oc1 kV1 dc1 pm1 cd1 ct1 oc2 kV2 dc2 pm2 cd2 ct2 oc3 kV3 dc3 pm3 cd3 ct3 oc4 kV4 dc4 pm4 cd4 ct4 oc5 kV5 dc5 pm5 cd5 ct5 oc6 kV6 dc6 pm6 cd6 ct6 oc7 kV7 dc7 pm7 cd7 ct7 oc8 kV8 dc8 pm8 cd8 ct8 oc9 kV9 dc9 pm9 cd9 ct9 oc10 kV10 dc10 pm10 cd10 ct10 oc11 kV11 dc11 pm11 cd11 ct11 oc12 kV12 dc12 pm12 cd12 ct12 oc13 kV13 dc13 pm13 cd13 ct13 oc14 kV14 dc14 pm14 cd14 ct14 oc15 kV15 dc15 pm15 cd15 ct15 oc16 kV16 dc16 pm16 cd16 ct16 oc17 kV17 dc17 pm17 cd17 ct17 oc18 kV18 dc18 pm18 cd18 ct18 oc19 kV19 dc19 pm19 cd19 ct19 oc20 kV20 dc20 pm20 cd20 ct20 oc21 kV21 dc21 pm21 cd21 ct21 oc22 kV22 dc22 pm22 cd22 ct22 oc23 kV23 dc23 pm23 cd23 ct23 oc24 kV24 dc24 pm24 cd24 ct24 oc25 kV25 dc25 pm25 cd25 ct25 oc26 kV26 dc26 pm26 cd26 ct26 oc27 kV27 dc27 pm27 cd27 ct27 oc28 kV28 dc28 pm28 cd28 ct28 oc29 kV29 dc29 pm29 cd29 ct29 oc30 kV30 dc30 pm30 cd30 ct30 oc31 kV31 dc31 pm31 cd31 ct31 oc32 kV32 dc32 pm32 cd32 ct32 oc33 kV33 dc33 pm33 cd33 ct33 oc34 kV34 dc34 pm34 cd34 ct34 oc35 kV35 dc35 pm35 cd35 ct35 oc36 kV36 dc36 pm36 cd36 ct36 oc37 kV37 dc37 pm37 cd37 ct37 oc38 kV38 dc38 pm38 cd38 ct38 oc39 kV39 dc39 pm39 cd39 ct39 oc40 kV40 dc40 pm40 cd40 ct40 oc41 kV41 dc41 pm41 cd41 ct41 oc42 kV42 dc42 pm42 cd42 ct42 oc43 kV43 dc43 pm43 cd43 ct43 oc44 kV44 dc44 pm44 cd44 ct44 oc45 kV45 dc45 pm45 cd45 ct45 oc46 kV46 dc46 pm46 cd46 ct46 oc47 kV47 dc47 pm47 cd47 ct47 oc48 kV48 dc48 pm48 cd48 ct48 oc49 kV49 dc49 pm49 cd49 ct49 oc50 kV50 dc50 pm50 cd50 ct50 : Value} {tk_FORMS_0_0 tk_FORMS_0_1 tk_FORMS_0_2 tk_FORMS_1_0 tk_FORMS_1_1 tk_FORMS_1_2 tk_FORMS_2_0 tk_FORMS_2_1 tk_FORMS_2_2 tk_FORMS_3_0 tk_FORMS_3_1 tk_FORMS_3_2 tk_FORMS_4_0 tk_FORMS_4_1 tk_FORMS_4_2 tk_FORMS_5_0 tk_FORMS_5_1 tk_FORMS_5_2 tk_FORMS_6_0 tk_FORMS_6_1 tk_FORMS_6_2 tk_FORMS_7_0 tk_FORMS_7_1 tk_FORMS_7_2 tk_FORMS_8_0 tk_FORMS_8_1 tk_FORMS_8_2 tk_FORMS_9_0 tk_FORMS_9_1 tk_FORMS_9_2 tk_FORMS_10_0 tk_FORMS_10_1 tk_FORMS_10_2 tk_FORMS_11_0 tk_FORMS_11_1 tk_FORMS_11_2 tk_FORMS_12_0 tk_FORMS_12_1 tk_FORMS_12_2 tk_FORMS_13_0 tk_FORMS_13_1 tk_FORMS_13_2 tk_QUESTIONS_0 tk_QUESTIONS_1 tk_QUESTIONS_2 tk_QUESTIONS_3 tk_LONGEST_TEXT tk_LARGEST_FITTING tk_SMALLEST_FITTING tk_MOST_SIZES tk_LARGEST_SIZE tk_MOST_BREAKS tk_LONGEST_SIDE tk_MOST_AREAS tk_SMALLEST_SCALE tk_LARGEST_SCALE tk_MOST_BANDS tk_FARTHEST_FIRST_NUMBER : Tok}
    (a_AreaPages : PySem.W.nsIn K mainGlobals "AreaPages" = some (some (.ref C_AreaPages)))
    (pg_AreaPages : PySem.W.plainGet K C_AreaPages Str.empty = true)
    (hd_AreaPages : PySem.W.hasDictIn K C_AreaPages = true)
    (po_AreaPages : PySem.W.plainOver K C_AreaPages = true)
    (sa_AreaPages : PySem.W.findIn K (.ref C_AreaPages) "__setattr__" = some (some (.builtin "object.__setattr__")))
    (mk_AreaPages : PySem.W.makesIn K C_AreaPages = true)
    (kc_AreaPages : PySem.W.keepIn K (.ref C_AreaPages) = true)
    (na_AreaPages_area_place : PySem.W.findIn K (.ref C_AreaPages) "area_place" = some none)
    (na_AreaPages_first_page : PySem.W.findIn K (.ref C_AreaPages) "first_page" = some none)
    (na_AreaPages_row_bands : PySem.W.findIn K (.ref C_AreaPages) "row_bands" = some none)
    (na_AreaPages_column_bands : PySem.W.findIn K (.ref C_AreaPages) "column_bands" = some none)
    (na_AreaPages_beside_first : PySem.W.findIn K (.ref C_AreaPages) "beside_first" = some none)
    (h_AreaPages__init_ : PySem.W.findIn K (.ref C_AreaPages) "__init__" = some (some (.ref f_AreaPages__init_)))
    (s_fn_AreaPages__init_ : PySem.W.isFn K (.ref f_AreaPages__init_) = true)
    (h_AreaPages_count_pages : PySem.W.findIn K (.ref C_AreaPages) "count_pages" = some (some (.ref f_AreaPages_count_pages)))
    (s_fn_AreaPages_count_pages : PySem.W.isFn K (.ref f_AreaPages_count_pages) = true)
    (h_AreaPages_row_band_of : PySem.W.findIn K (.ref C_AreaPages) "row_band_of" = some (some (.ref f_AreaPages_row_band_of)))
    (s_fn_AreaPages_row_band_of : PySem.W.isFn K (.ref f_AreaPages_row_band_of) = true)
    (h_AreaPages_column_band_of : PySem.W.findIn K (.ref C_AreaPages) "column_band_of" = some (some (.ref f_AreaPages_column_band_of)))
    (s_fn_AreaPages_column_band_of : PySem.W.isFn K (.ref f_AreaPages_column_band_of) = true)
    (h_AreaPages_has_cell : PySem.W.findIn K (.ref C_AreaPages) "has_cell" = some (some (.ref f_AreaPages_has_cell)))
    (s_fn_AreaPages_has_cell : PySem.W.isFn K (.ref f_AreaPages_has_cell) = true)
    (h_AreaPages_page_of : PySem.W.findIn K (.ref C_AreaPages) "page_of" = some (some (.ref f_AreaPages_page_of)))
    (s_fn_AreaPages_page_of : PySem.W.isFn K (.ref f_AreaPages_page_of) = true)
    (a_WayBands : PySem.W.nsIn K mainGlobals "WayBands" = some (some (.ref C_WayBands)))
    (pg_WayBands : PySem.W.plainGet K C_WayBands Str.empty = true)
    (hd_WayBands : PySem.W.hasDictIn K C_WayBands = true)
    (po_WayBands : PySem.W.plainOver K C_WayBands = true)
    (sa_WayBands : PySem.W.findIn K (.ref C_WayBands) "__setattr__" = some (some (.builtin "object.__setattr__")))
    (mk_WayBands : PySem.W.makesIn K C_WayBands = true)
    (kc_WayBands : PySem.W.keepIn K (.ref C_WayBands) = true)
    (na_WayBands_way : PySem.W.findIn K (.ref C_WayBands) "way" = some none)
    (na_WayBands_starts : PySem.W.findIn K (.ref C_WayBands) "starts" = some none)
    (h_WayBands__init_ : PySem.W.findIn K (.ref C_WayBands) "__init__" = some (some (.ref f_WayBands__init_)))
    (s_fn_WayBands__init_ : PySem.W.isFn K (.ref f_WayBands__init_) = true)
    (h_WayBands_again_from : PySem.W.findIn K (.ref C_WayBands) "again_from" = some (some (.ref f_WayBands_again_from)))
    (s_fn_WayBands_again_from : PySem.W.isFn K (.ref f_WayBands_again_from) = true)
    (h_WayBands_again_end : PySem.W.findIn K (.ref C_WayBands) "again_end" = some (some (.ref f_WayBands_again_end)))
    (s_fn_WayBands_again_end : PySem.W.isFn K (.ref f_WayBands_again_end) = true)
    (h_WayBands_count_again : PySem.W.findIn K (.ref C_WayBands) "count_again" = some (some (.ref f_WayBands_count_again)))
    (s_fn_WayBands_count_again : PySem.W.isFn K (.ref f_WayBands_count_again) = true)
    (h_WayBands_again_size : PySem.W.findIn K (.ref C_WayBands) "again_size" = some (some (.ref f_WayBands_again_size)))
    (s_fn_WayBands_again_size : PySem.W.isFn K (.ref f_WayBands_again_size) = true)
    (h_WayBands_band_end : PySem.W.findIn K (.ref C_WayBands) "band_end" = some (some (.ref f_WayBands_band_end)))
    (s_fn_WayBands_band_end : PySem.W.isFn K (.ref f_WayBands_band_end) = true)
    (h_WayBands_find_bands : PySem.W.findIn K (.ref C_WayBands) "find_bands" = some (some (.ref f_WayBands_find_bands)))
    (s_fn_WayBands_find_bands : PySem.W.isFn K (.ref f_WayBands_find_bands) = true)
    (h_WayBands_has_more_bands : PySem.W.findIn K (.ref C_WayBands) "has_more_bands" = some (some (.ref f_WayBands_has_more_bands)))
    (s_fn_WayBands_has_more_bands : PySem.W.isFn K (.ref f_WayBands_has_more_bands) = true)
    (h_WayBands_page_size : PySem.W.findIn K (.ref C_WayBands) "page_size" = some (some (.ref f_WayBands_page_size)))
    (s_fn_WayBands_page_size : PySem.W.isFn K (.ref f_WayBands_page_size) = true)
    (h_WayBands_distance : PySem.W.findIn K (.ref C_WayBands) "distance" = some (some (.ref f_WayBands_distance)))
    (s_fn_WayBands_distance : PySem.W.isFn K (.ref f_WayBands_distance) = true)
    (a_SheetPages : PySem.W.nsIn K mainGlobals "SheetPages" = some (some (.ref C_SheetPages)))
    (pg_SheetPages : PySem.W.plainGet K C_SheetPages Str.empty = true)
    (hd_SheetPages : PySem.W.hasDictIn K C_SheetPages = true)
    (po_SheetPages : PySem.W.plainOver K C_SheetPages = true)
    (sa_SheetPages : PySem.W.findIn K (.ref C_SheetPages) "__setattr__" = some (some (.builtin "object.__setattr__")))
    (mk_SheetPages : PySem.W.makesIn K C_SheetPages = true)
    (kc_SheetPages : PySem.W.keepIn K (.ref C_SheetPages) = true)
    (na_SheetPages_settings : PySem.W.findIn K (.ref C_SheetPages) "settings" = some none)
    (na_SheetPages_rows : PySem.W.findIn K (.ref C_SheetPages) "rows" = some none)
    (na_SheetPages_columns : PySem.W.findIn K (.ref C_SheetPages) "columns" = some none)
    (na_SheetPages_used_scale : PySem.W.findIn K (.ref C_SheetPages) "used_scale" = some none)
    (na_SheetPages_page_count : PySem.W.findIn K (.ref C_SheetPages) "page_count" = some none)
    (na_SheetPages_area_pages : PySem.W.findIn K (.ref C_SheetPages) "area_pages" = some none)
    (h_SheetPages__init_ : PySem.W.findIn K (.ref C_SheetPages) "__init__" = some (some (.ref f_SheetPages__init_)))
    (s_fn_SheetPages__init_ : PySem.W.isFn K (.ref f_SheetPages__init_) = true)
    (h_SheetPages_find_fitting_scale : PySem.W.findIn K (.ref C_SheetPages) "find_fitting_scale" = some (some (.ref f_SheetPages_find_fitting_scale)))
    (s_fn_SheetPages_find_fitting_scale : PySem.W.isFn K (.ref f_SheetPages_find_fitting_scale) = true)
    (h_SheetPages_fits : PySem.W.findIn K (.ref C_SheetPages) "fits" = some (some (.ref f_SheetPages_fits)))
    (s_fn_SheetPages_fits : PySem.W.isFn K (.ref f_SheetPages_fits) = true)
    (h_SheetPages_tell_pages : PySem.W.findIn K (.ref C_SheetPages) "tell_pages" = some (some (.ref f_SheetPages_tell_pages)))
    (s_fn_SheetPages_tell_pages : PySem.W.isFn K (.ref f_SheetPages_tell_pages) = true)
    (h_SheetPages_area_pages_with : PySem.W.findIn K (.ref C_SheetPages) "area_pages_with" = some (some (.ref f_SheetPages_area_pages_with)))
    (s_fn_SheetPages_area_pages_with : PySem.W.isFn K (.ref f_SheetPages_area_pages_with) = true)
    (h_SheetPages_tell_page : PySem.W.findIn K (.ref C_SheetPages) "tell_page" = some (some (.ref f_SheetPages_tell_page)))
    (s_fn_SheetPages_tell_page : PySem.W.isFn K (.ref f_SheetPages_tell_page) = true)
    (h_SheetPages_tell_where : PySem.W.findIn K (.ref C_SheetPages) "tell_where" = some (some (.ref f_SheetPages_tell_where)))
    (s_fn_SheetPages_tell_where : PySem.W.isFn K (.ref f_SheetPages_tell_where) = true)
    (h_SheetPages_tell_texts : PySem.W.findIn K (.ref C_SheetPages) "tell_texts" = some (some (.ref f_SheetPages_tell_texts)))
    (s_fn_SheetPages_tell_texts : PySem.W.isFn K (.ref f_SheetPages_tell_texts) = true)
    (a_WaySettings : PySem.W.nsIn K mainGlobals "WaySettings" = some (some (.ref C_WaySettings)))
    (pg_WaySettings : PySem.W.plainGet K C_WaySettings Str.empty = true)
    (hd_WaySettings : PySem.W.hasDictIn K C_WaySettings = true)
    (po_WaySettings : PySem.W.plainOver K C_WaySettings = true)
    (sa_WaySettings : PySem.W.findIn K (.ref C_WaySettings) "__setattr__" = some (some (.builtin "object.__setattr__")))
    (mk_WaySettings : PySem.W.makesIn K C_WaySettings = true)
    (kc_WaySettings : PySem.W.keepIn K (.ref C_WaySettings) = true)
    (na_WaySettings_place_count : PySem.W.findIn K (.ref C_WaySettings) "place_count" = some none)
    (na_WaySettings_sizes : PySem.W.findIn K (.ref C_WaySettings) "sizes" = some none)
    (na_WaySettings_sizes_told : PySem.W.findIn K (.ref C_WaySettings) "sizes_told" = some none)
    (na_WaySettings_edge : PySem.W.findIn K (.ref C_WaySettings) "edge" = some none)
    (na_WaySettings_space : PySem.W.findIn K (.ref C_WaySettings) "space" = some none)
    (na_WaySettings_in_middle : PySem.W.findIn K (.ref C_WaySettings) "in_middle" = some none)
    (na_WaySettings_titles : PySem.W.findIn K (.ref C_WaySettings) "titles" = some none)
    (na_WaySettings_breaks : PySem.W.findIn K (.ref C_WaySettings) "breaks" = some none)
    (h_WaySettings__init_ : PySem.W.findIn K (.ref C_WaySettings) "__init__" = some (some (.ref f_WaySettings__init_)))
    (s_fn_WaySettings__init_ : PySem.W.isFn K (.ref f_WaySettings__init_) = true)
    (h_WaySettings_check_span : PySem.W.findIn K (.ref C_WaySettings) "check_span" = some (some (.ref f_WaySettings_check_span)))
    (s_fn_WaySettings_check_span : PySem.W.isFn K (.ref f_WaySettings_check_span) = true)
    (h_WaySettings_set_size : PySem.W.findIn K (.ref C_WaySettings) "set_size" = some (some (.ref f_WaySettings_set_size)))
    (s_fn_WaySettings_set_size : PySem.W.isFn K (.ref f_WaySettings_set_size) = true)
    (h_WaySettings_set_titles : PySem.W.findIn K (.ref C_WaySettings) "set_titles" = some (some (.ref f_WaySettings_set_titles)))
    (s_fn_WaySettings_set_titles : PySem.W.isFn K (.ref f_WaySettings_set_titles) = true)
    (h_WaySettings_set_breaks : PySem.W.findIn K (.ref C_WaySettings) "set_breaks" = some (some (.ref f_WaySettings_set_breaks)))
    (s_fn_WaySettings_set_breaks : PySem.W.isFn K (.ref f_WaySettings_set_breaks) = true)
    (a_SheetSettings : PySem.W.nsIn K mainGlobals "SheetSettings" = some (some (.ref C_SheetSettings)))
    (pg_SheetSettings : PySem.W.plainGet K C_SheetSettings Str.empty = true)
    (hd_SheetSettings : PySem.W.hasDictIn K C_SheetSettings = true)
    (po_SheetSettings : PySem.W.plainOver K C_SheetSettings = true)
    (sa_SheetSettings : PySem.W.findIn K (.ref C_SheetSettings) "__setattr__" = some (some (.builtin "object.__setattr__")))
    (mk_SheetSettings : PySem.W.makesIn K C_SheetSettings = true)
    (kc_SheetSettings : PySem.W.keepIn K (.ref C_SheetSettings) = true)
    (na_SheetSettings_ways : PySem.W.findIn K (.ref C_SheetSettings) "ways" = some none)
    (na_SheetSettings_areas : PySem.W.findIn K (.ref C_SheetSettings) "areas" = some none)
    (na_SheetSettings_scale : PySem.W.findIn K (.ref C_SheetSettings) "scale" = some none)
    (na_SheetSettings_fit : PySem.W.findIn K (.ref C_SheetSettings) "fit" = some none)
    (na_SheetSettings_beside_first : PySem.W.findIn K (.ref C_SheetSettings) "beside_first" = some none)
    (na_SheetSettings_first_number : PySem.W.findIn K (.ref C_SheetSettings) "first_number" = some none)
    (na_SheetSettings_head : PySem.W.findIn K (.ref C_SheetSettings) "head" = some none)
    (na_SheetSettings_foot : PySem.W.findIn K (.ref C_SheetSettings) "foot" = some none)
    (h_SheetSettings__init_ : PySem.W.findIn K (.ref C_SheetSettings) "__init__" = some (some (.ref f_SheetSettings__init_)))
    (s_fn_SheetSettings__init_ : PySem.W.isFn K (.ref f_SheetSettings__init_) = true)
    (h_SheetSettings_begin : PySem.W.findIn K (.ref C_SheetSettings) "begin" = some (some (.ref f_SheetSettings_begin)))
    (s_fn_SheetSettings_begin : PySem.W.isFn K (.ref f_SheetSettings_begin) = true)
    (h_SheetSettings_set_paper : PySem.W.findIn K (.ref C_SheetSettings) "set_paper" = some (some (.ref f_SheetSettings_set_paper)))
    (s_fn_SheetSettings_set_paper : PySem.W.isFn K (.ref f_SheetSettings_set_paper) = true)
    (h_SheetSettings_set_areas : PySem.W.findIn K (.ref C_SheetSettings) "set_areas" = some (some (.ref f_SheetSettings_set_areas)))
    (s_fn_SheetSettings_set_areas : PySem.W.isFn K (.ref f_SheetSettings_set_areas) = true)
    (h_SheetSettings_set_scale : PySem.W.findIn K (.ref C_SheetSettings) "set_scale" = some (some (.ref f_SheetSettings_set_scale)))
    (s_fn_SheetSettings_set_scale : PySem.W.isFn K (.ref f_SheetSettings_set_scale) = true)
    (h_SheetSettings_set_fit : PySem.W.findIn K (.ref C_SheetSettings) "set_fit" = some (some (.ref f_SheetSettings_set_fit)))
    (s_fn_SheetSettings_set_fit : PySem.W.isFn K (.ref f_SheetSettings_set_fit) = true)
    (h_SheetSettings_set_how : PySem.W.findIn K (.ref C_SheetSettings) "set_how" = some (some (.ref f_SheetSettings_set_how)))
    (s_fn_SheetSettings_set_how : PySem.W.isFn K (.ref f_SheetSettings_set_how) = true)
    (h_SheetSettings_set_heads : PySem.W.findIn K (.ref C_SheetSettings) "set_heads" = some (some (.ref f_SheetSettings_set_heads)))
    (s_fn_SheetSettings_set_heads : PySem.W.isFn K (.ref f_SheetSettings_set_heads) = true)
    (a_Sheet : PySem.W.nsIn K mainGlobals "Sheet" = some (some (.ref C_Sheet)))
    (pg_Sheet : PySem.W.plainGet K C_Sheet Str.empty = true)
    (hd_Sheet : PySem.W.hasDictIn K C_Sheet = true)
    (po_Sheet : PySem.W.plainOver K C_Sheet = true)
    (sa_Sheet : PySem.W.findIn K (.ref C_Sheet) "__setattr__" = some (some (.builtin "object.__setattr__")))
    (mk_Sheet : PySem.W.makesIn K C_Sheet = true)
    (kc_Sheet : PySem.W.keepIn K (.ref C_Sheet) = true)
    (na_Sheet_settings : PySem.W.findIn K (.ref C_Sheet) "settings" = some none)
    (na_Sheet_kept_pages : PySem.W.findIn K (.ref C_Sheet) "kept_pages" = some none)
    (h_Sheet__init_ : PySem.W.findIn K (.ref C_Sheet) "__init__" = some (some (.ref f_Sheet__init_)))
    (s_fn_Sheet__init_ : PySem.W.isFn K (.ref f_Sheet__init_) = true)
    (h_Sheet_change : PySem.W.findIn K (.ref C_Sheet) "change" = some (some (.ref f_Sheet_change)))
    (s_fn_Sheet_change : PySem.W.isFn K (.ref f_Sheet_change) = true)
    (h_Sheet_ask : PySem.W.findIn K (.ref C_Sheet) "ask" = some (some (.ref f_Sheet_ask)))
    (s_fn_Sheet_ask : PySem.W.isFn K (.ref f_Sheet_ask) = true)
    (a_OutOfRange : PySem.W.nsIn K mainGlobals "OutOfRange" = some (some (.ref X_OutOfRange)))
    (x_OutOfRange : PySem.W.excIn K X_OutOfRange [.type "Exception", .type "BaseException", .type "object"] "Exception.__new__" = true)
    (k_OutOfRange : PySem.W.keepIn K (.ref X_OutOfRange) = true)
    (b_OutOfRange : PySem.W.subIn K (.ref X_OutOfRange) (.type "BaseException") = some true)
    (t_OutOfRange : PySem.W.typeIn K (.ref X_OutOfRange) = some (.type "type"))
    (i_OutOfRange : PySem.W.isClsIn K X_OutOfRange = true)
    (a_CannotBeTold : PySem.W.nsIn K mainGlobals "CannotBeTold" = some (some (.ref X_CannotBeTold)))
    (x_CannotBeTold : PySem.W.excIn K X_CannotBeTold [.type "Exception", .type "BaseException", .type "object"] "Exception.__new__" = true)
    (k_CannotBeTold : PySem.W.keepIn K (.ref X_CannotBeTold) = true)
    (b_CannotBeTold : PySem.W.subIn K (.ref X_CannotBeTold) (.type "BaseException") = some true)
    (t_CannotBeTold : PySem.W.typeIn K (.ref X_CannotBeTold) = some (.type "type"))
    (i_CannotBeTold : PySem.W.isClsIn K X_CannotBeTold = true)
    (a_TooMany : PySem.W.nsIn K mainGlobals "TooMany" = some (some (.ref X_TooMany)))
    (x_TooMany : PySem.W.excIn K X_TooMany [.type "Exception", .type "BaseException", .type "object"] "Exception.__new__" = true)
    (k_TooMany : PySem.W.keepIn K (.ref X_TooMany) = true)
    (b_TooMany : PySem.W.subIn K (.ref X_TooMany) (.type "BaseException") = some true)
    (t_TooMany : PySem.W.typeIn K (.ref X_TooMany) = some (.type "type"))
    (i_TooMany : PySem.W.isClsIn K X_TooMany = true)
    (a_NoSuchPage : PySem.W.nsIn K mainGlobals "NoSuchPage" = some (some (.ref X_NoSuchPage)))
    (x_NoSuchPage : PySem.W.excIn K X_NoSuchPage [.type "Exception", .type "BaseException", .type "object"] "Exception.__new__" = true)
    (k_NoSuchPage : PySem.W.keepIn K (.ref X_NoSuchPage) = true)
    (b_NoSuchPage : PySem.W.subIn K (.ref X_NoSuchPage) (.type "BaseException") = some true)
    (t_NoSuchPage : PySem.W.typeIn K (.ref X_NoSuchPage) = some (.type "type"))
    (i_NoSuchPage : PySem.W.isClsIn K X_NoSuchPage = true)
    (u_OutOfRange_OutOfRange : PySem.W.subIn K (.ref X_OutOfRange) (.ref X_OutOfRange) = some true)
    (u_OutOfRange_CannotBeTold : PySem.W.subIn K (.ref X_OutOfRange) (.ref X_CannotBeTold) = some false)
    (u_OutOfRange_TooMany : PySem.W.subIn K (.ref X_OutOfRange) (.ref X_TooMany) = some false)
    (u_OutOfRange_NoSuchPage : PySem.W.subIn K (.ref X_OutOfRange) (.ref X_NoSuchPage) = some false)
    (u_CannotBeTold_OutOfRange : PySem.W.subIn K (.ref X_CannotBeTold) (.ref X_OutOfRange) = some false)
    (u_CannotBeTold_CannotBeTold : PySem.W.subIn K (.ref X_CannotBeTold) (.ref X_CannotBeTold) = some true)
    (u_CannotBeTold_TooMany : PySem.W.subIn K (.ref X_CannotBeTold) (.ref X_TooMany) = some false)
    (u_CannotBeTold_NoSuchPage : PySem.W.subIn K (.ref X_CannotBeTold) (.ref X_NoSuchPage) = some false)
    (u_TooMany_OutOfRange : PySem.W.subIn K (.ref X_TooMany) (.ref X_OutOfRange) = some false)
    (u_TooMany_CannotBeTold : PySem.W.subIn K (.ref X_TooMany) (.ref X_CannotBeTold) = some false)
    (u_TooMany_TooMany : PySem.W.subIn K (.ref X_TooMany) (.ref X_TooMany) = some true)
    (u_TooMany_NoSuchPage : PySem.W.subIn K (.ref X_TooMany) (.ref X_NoSuchPage) = some false)
    (u_NoSuchPage_OutOfRange : PySem.W.subIn K (.ref X_NoSuchPage) (.ref X_OutOfRange) = some false)
    (u_NoSuchPage_CannotBeTold : PySem.W.subIn K (.ref X_NoSuchPage) (.ref X_CannotBeTold) = some false)
    (u_NoSuchPage_TooMany : PySem.W.subIn K (.ref X_NoSuchPage) (.ref X_TooMany) = some false)
    (u_NoSuchPage_NoSuchPage : PySem.W.subIn K (.ref X_NoSuchPage) (.ref X_NoSuchPage) = some true)
    (a_read_calls : PySem.W.nsIn K mainGlobals "read_calls" = some (some (.ref f_read_calls)))
    (l_read_calls : K.lookup f_read_calls = some ⟨oc0, od0, .func (PySem.W.fnOf "read_calls" "read_calls" (defArgs s_read_calls) (defBody s_read_calls) (defScope s_read_calls) .none kV0 dc0 pm0 an0 cd0 ct0), sl0⟩)
    (cd_read_calls : PySem.W.codeIn K cd0 "read_calls" = true)
    (kk_read_calls : PySem.W.keepIn K (.ref f_read_calls) = true)
    (l_AreaPages__init_ : K.lookup f_AreaPages__init_ = some ⟨oc1, od1, .func (PySem.W.fnOf "__init__" "AreaPages.__init__" (defArgs s_AreaPages__init_) (defBody s_AreaPages__init_) (defScope s_AreaPages__init_) .none kV1 dc1 pm1 an1 cd1 ct1), sl1⟩)
    (cd_AreaPages__init_ : PySem.W.codeIn K cd1 "AreaPages.__init__" = true)
    (kk_AreaPages__init_ : PySem.W.keepIn K (.ref f_AreaPages__init_) = true)
    (l_AreaPages_count_pages : K.lookup f_AreaPages_count_pages = some ⟨oc2, od2, .func (PySem.W.fnOf "count_pages" "AreaPages.count_pages" (defArgs s_AreaPages_count_pages) (defBody s_AreaPages_count_pages) (defScope s_AreaPages_count_pages) .none kV2 dc2 pm2 an2 cd2 ct2), sl2⟩)
    (cd_AreaPages_count_pages : PySem.W.codeIn K cd2 "AreaPages.count_pages" = true)
    (kk_AreaPages_count_pages : PySem.W.keepIn K (.ref f_AreaPages_count_pages) = true)
    (l_AreaPages_row_band_of : K.lookup f_AreaPages_row_band_of = some ⟨oc3, od3, .func (PySem.W.fnOf "row_band_of" "AreaPages.row_band_of" (defArgs s_AreaPages_row_band_of) (defBody s_AreaPages_row_band_of) (defScope s_AreaPages_row_band_of) .none kV3 dc3 pm3 an3 cd3 ct3), sl3⟩)
    (cd_AreaPages_row_band_of : PySem.W.codeIn K cd3 "AreaPages.row_band_of" = true)
    (kk_AreaPages_row_band_of : PySem.W.keepIn K (.ref f_AreaPages_row_band_of) = true)
    (l_AreaPages_column_band_of : K.lookup f_AreaPages_column_band_of = some ⟨oc4, od4, .func (PySem.W.fnOf "column_band_of" "AreaPages.column_band_of" (defArgs s_AreaPages_column_band_of) (defBody s_AreaPages_column_band_of) (defScope s_AreaPages_column_band_of) .none kV4 dc4 pm4 an4 cd4 ct4), sl4⟩)
    (cd_AreaPages_column_band_of : PySem.W.codeIn K cd4 "AreaPages.column_band_of" = true)
    (kk_AreaPages_column_band_of : PySem.W.keepIn K (.ref f_AreaPages_column_band_of) = true)
    (l_AreaPages_has_cell : K.lookup f_AreaPages_has_cell = some ⟨oc5, od5, .func (PySem.W.fnOf "has_cell" "AreaPages.has_cell" (defArgs s_AreaPages_has_cell) (defBody s_AreaPages_has_cell) (defScope s_AreaPages_has_cell) .none kV5 dc5 pm5 an5 cd5 ct5), sl5⟩)
    (cd_AreaPages_has_cell : PySem.W.codeIn K cd5 "AreaPages.has_cell" = true)
    (kk_AreaPages_has_cell : PySem.W.keepIn K (.ref f_AreaPages_has_cell) = true)
    (l_AreaPages_page_of : K.lookup f_AreaPages_page_of = some ⟨oc6, od6, .func (PySem.W.fnOf "page_of" "AreaPages.page_of" (defArgs s_AreaPages_page_of) (defBody s_AreaPages_page_of) (defScope s_AreaPages_page_of) .none kV6 dc6 pm6 an6 cd6 ct6), sl6⟩)
    (cd_AreaPages_page_of : PySem.W.codeIn K cd6 "AreaPages.page_of" = true)
    (kk_AreaPages_page_of : PySem.W.keepIn K (.ref f_AreaPages_page_of) = true)
    (a_is_within : PySem.W.nsIn K mainGlobals "is_within" = some (some (.ref f_is_within)))
    (l_is_within : K.lookup f_is_within = some ⟨oc7, od7, .func (PySem.W.fnOf "is_within" "is_within" (defArgs s_is_within) (defBody s_is_within) (defScope s_is_within) .none kV7 dc7 pm7 an7 cd7 ct7), sl7⟩)
    (cd_is_within : PySem.W.codeIn K cd7 "is_within" = true)
    (kk_is_within : PySem.W.keepIn K (.ref f_is_within) = true)
    (a_band_place : PySem.W.nsIn K mainGlobals "band_place" = some (some (.ref f_band_place)))
    (l_band_place : K.lookup f_band_place = some ⟨oc8, od8, .func (PySem.W.fnOf "band_place" "band_place" (defArgs s_band_place) (defBody s_band_place) (defScope s_band_place) .none kV8 dc8 pm8 an8 cd8 ct8), sl8⟩)
    (cd_band_place : PySem.W.codeIn K cd8 "band_place" = true)
    (kk_band_place : PySem.W.keepIn K (.ref f_band_place) = true)
    (l_WayBands__init_ : K.lookup f_WayBands__init_ = some ⟨oc9, od9, .func (PySem.W.fnOf "__init__" "WayBands.__init__" (defArgs s_WayBands__init_) (defBody s_WayBands__init_) (defScope s_WayBands__init_) .none kV9 dc9 pm9 an9 cd9 ct9), sl9⟩)
    (cd_WayBands__init_ : PySem.W.codeIn K cd9 "WayBands.__init__" = true)
    (kk_WayBands__init_ : PySem.W.keepIn K (.ref f_WayBands__init_) = true)
    (l_WayBands_again_from : K.lookup f_WayBands_again_from = some ⟨oc10, od10, .func (PySem.W.fnOf "again_from" "WayBands.again_from" (defArgs s_WayBands_again_from) (defBody s_WayBands_again_from) (defScope s_WayBands_again_from) .none kV10 dc10 pm10 an10 cd10 ct10), sl10⟩)
    (cd_WayBands_again_from : PySem.W.codeIn K cd10 "WayBands.again_from" = true)
    (kk_WayBands_again_from : PySem.W.keepIn K (.ref f_WayBands_again_from) = true)
    (l_WayBands_again_end : K.lookup f_WayBands_again_end = some ⟨oc11, od11, .func (PySem.W.fnOf "again_end" "WayBands.again_end" (defArgs s_WayBands_again_end) (defBody s_WayBands_again_end) (defScope s_WayBands_again_end) .none kV11 dc11 pm11 an11 cd11 ct11), sl11⟩)
    (cd_WayBands_again_end : PySem.W.codeIn K cd11 "WayBands.again_end" = true)
    (kk_WayBands_again_end : PySem.W.keepIn K (.ref f_WayBands_again_end) = true)
    (l_WayBands_count_again : K.lookup f_WayBands_count_again = some ⟨oc12, od12, .func (PySem.W.fnOf "count_again" "WayBands.count_again" (defArgs s_WayBands_count_again) (defBody s_WayBands_count_again) (defScope s_WayBands_count_again) .none kV12 dc12 pm12 an12 cd12 ct12), sl12⟩)
    (cd_WayBands_count_again : PySem.W.codeIn K cd12 "WayBands.count_again" = true)
    (kk_WayBands_count_again : PySem.W.keepIn K (.ref f_WayBands_count_again) = true)
    (l_WayBands_again_size : K.lookup f_WayBands_again_size = some ⟨oc13, od13, .func (PySem.W.fnOf "again_size" "WayBands.again_size" (defArgs s_WayBands_again_size) (defBody s_WayBands_again_size) (defScope s_WayBands_again_size) .none kV13 dc13 pm13 an13 cd13 ct13), sl13⟩)
    (cd_WayBands_again_size : PySem.W.codeIn K cd13 "WayBands.again_size" = true)
    (kk_WayBands_again_size : PySem.W.keepIn K (.ref f_WayBands_again_size) = true)
    (l_WayBands_band_end : K.lookup f_WayBands_band_end = some ⟨oc14, od14, .func (PySem.W.fnOf "band_end" "WayBands.band_end" (defArgs s_WayBands_band_end) (defBody s_WayBands_band_end) (defScope s_WayBands_band_end) .none kV14 dc14 pm14 an14 cd14 ct14), sl14⟩)
    (cd_WayBands_band_end : PySem.W.codeIn K cd14 "WayBands.band_end" = true)
    (kk_WayBands_band_end : PySem.W.keepIn K (.ref f_WayBands_band_end) = true)
    (l_WayBands_find_bands : K.lookup f_WayBands_find_bands = some ⟨oc15, od15, .func (PySem.W.fnOf "find_bands" "WayBands.find_bands" (defArgs s_WayBands_find_bands) (defBody s_WayBands_find_bands) (defScope s_WayBands_find_bands) .none kV15 dc15 pm15 an15 cd15 ct15), sl15⟩)
    (cd_WayBands_find_bands : PySem.W.codeIn K cd15 "WayBands.find_bands" = true)
    (kk_WayBands_find_bands : PySem.W.keepIn K (.ref f_WayBands_find_bands) = true)
    (l_WayBands_has_more_bands : K.lookup f_WayBands_has_more_bands = some ⟨oc16, od16, .func (PySem.W.fnOf "has_more_bands" "WayBands.has_more_bands" (defArgs s_WayBands_has_more_bands) (defBody s_WayBands_has_more_bands) (defScope s_WayBands_has_more_bands) .none kV16 dc16 pm16 an16 cd16 ct16), sl16⟩)
    (cd_WayBands_has_more_bands : PySem.W.codeIn K cd16 "WayBands.has_more_bands" = true)
    (kk_WayBands_has_more_bands : PySem.W.keepIn K (.ref f_WayBands_has_more_bands) = true)
    (l_WayBands_page_size : K.lookup f_WayBands_page_size = some ⟨oc17, od17, .func (PySem.W.fnOf "page_size" "WayBands.page_size" (defArgs s_WayBands_page_size) (defBody s_WayBands_page_size) (defScope s_WayBands_page_size) .none kV17 dc17 pm17 an17 cd17 ct17), sl17⟩)
    (cd_WayBands_page_size : PySem.W.codeIn K cd17 "WayBands.page_size" = true)
    (kk_WayBands_page_size : PySem.W.keepIn K (.ref f_WayBands_page_size) = true)
    (l_WayBands_distance : K.lookup f_WayBands_distance = some ⟨oc18, od18, .func (PySem.W.fnOf "distance" "WayBands.distance" (defArgs s_WayBands_distance) (defBody s_WayBands_distance) (defScope s_WayBands_distance) .none kV18 dc18 pm18 an18 cd18 ct18), sl18⟩)
    (cd_WayBands_distance : PySem.W.codeIn K cd18 "WayBands.distance" = true)
    (kk_WayBands_distance : PySem.W.keepIn K (.ref f_WayBands_distance) = true)
    (a_check_text : PySem.W.nsIn K mainGlobals "check_text" = some (some (.ref f_check_text)))
    (l_check_text : K.lookup f_check_text = some ⟨oc19, od19, .func (PySem.W.fnOf "check_text" "check_text" (defArgs s_check_text) (defBody s_check_text) (defScope s_check_text) .none kV19 dc19 pm19 an19 cd19 ct19), sl19⟩)
    (cd_check_text : PySem.W.codeIn K cd19 "check_text" = true)
    (kk_check_text : PySem.W.keepIn K (.ref f_check_text) = true)
    (a_write_text : PySem.W.nsIn K mainGlobals "write_text" = some (some (.ref f_write_text)))
    (l_write_text : K.lookup f_write_text = some ⟨oc20, od20, .func (PySem.W.fnOf "write_text" "write_text" (defArgs s_write_text) (defBody s_write_text) (defScope s_write_text) .none kV20 dc20 pm20 an20 cd20 ct20), sl20⟩)
    (cd_write_text : PySem.W.codeIn K cd20 "write_text" = true)
    (kk_write_text : PySem.W.keepIn K (.ref f_write_text) = true)
    (a_digits_of : PySem.W.nsIn K mainGlobals "digits_of" = some (some (.ref f_digits_of)))
    (l_digits_of : K.lookup f_digits_of = some ⟨oc21, od21, .func (PySem.W.fnOf "digits_of" "digits_of" (defArgs s_digits_of) (defBody s_digits_of) (defScope s_digits_of) .none kV21 dc21 pm21 an21 cd21 ct21), sl21⟩)
    (cd_digits_of : PySem.W.codeIn K cd21 "digits_of" = true)
    (kk_digits_of : PySem.W.keepIn K (.ref f_digits_of) = true)
    (l_SheetPages__init_ : K.lookup f_SheetPages__init_ = some ⟨oc22, od22, .func (PySem.W.fnOf "__init__" "SheetPages.__init__" (defArgs s_SheetPages__init_) (defBody s_SheetPages__init_) (defScope s_SheetPages__init_) .none kV22 dc22 pm22 an22 cd22 ct22), sl22⟩)
    (cd_SheetPages__init_ : PySem.W.codeIn K cd22 "SheetPages.__init__" = true)
    (kk_SheetPages__init_ : PySem.W.keepIn K (.ref f_SheetPages__init_) = true)
    (l_SheetPages_find_fitting_scale : K.lookup f_SheetPages_find_fitting_scale = some ⟨oc23, od23, .func (PySem.W.fnOf "find_fitting_scale" "SheetPages.find_fitting_scale" (defArgs s_SheetPages_find_fitting_scale) (defBody s_SheetPages_find_fitting_scale) (defScope s_SheetPages_find_fitting_scale) .none kV23 dc23 pm23 an23 cd23 ct23), sl23⟩)
    (cd_SheetPages_find_fitting_scale : PySem.W.codeIn K cd23 "SheetPages.find_fitting_scale" = true)
    (kk_SheetPages_find_fitting_scale : PySem.W.keepIn K (.ref f_SheetPages_find_fitting_scale) = true)
    (l_SheetPages_fits : K.lookup f_SheetPages_fits = some ⟨oc24, od24, .func (PySem.W.fnOf "fits" "SheetPages.fits" (defArgs s_SheetPages_fits) (defBody s_SheetPages_fits) (defScope s_SheetPages_fits) .none kV24 dc24 pm24 an24 cd24 ct24), sl24⟩)
    (cd_SheetPages_fits : PySem.W.codeIn K cd24 "SheetPages.fits" = true)
    (kk_SheetPages_fits : PySem.W.keepIn K (.ref f_SheetPages_fits) = true)
    (l_SheetPages_tell_pages : K.lookup f_SheetPages_tell_pages = some ⟨oc25, od25, .func (PySem.W.fnOf "tell_pages" "SheetPages.tell_pages" (defArgs s_SheetPages_tell_pages) (defBody s_SheetPages_tell_pages) (defScope s_SheetPages_tell_pages) .none kV25 dc25 pm25 an25 cd25 ct25), sl25⟩)
    (cd_SheetPages_tell_pages : PySem.W.codeIn K cd25 "SheetPages.tell_pages" = true)
    (kk_SheetPages_tell_pages : PySem.W.keepIn K (.ref f_SheetPages_tell_pages) = true)
    (l_SheetPages_area_pages_with : K.lookup f_SheetPages_area_pages_with = some ⟨oc26, od26, .func (PySem.W.fnOf "area_pages_with" "SheetPages.area_pages_with" (defArgs s_SheetPages_area_pages_with) (defBody s_SheetPages_area_pages_with) (defScope s_SheetPages_area_pages_with) .none kV26 dc26 pm26 an26 cd26 ct26), sl26⟩)
    (cd_SheetPages_area_pages_with : PySem.W.codeIn K cd26 "SheetPages.area_pages_with" = true)
    (kk_SheetPages_area_pages_with : PySem.W.keepIn K (.ref f_SheetPages_area_pages_with) = true)
    (l_SheetPages_tell_page : K.lookup f_SheetPages_tell_page = some ⟨oc27, od27, .func (PySem.W.fnOf "tell_page" "SheetPages.tell_page" (defArgs s_SheetPages_tell_page) (defBody s_SheetPages_tell_page) (defScope s_SheetPages_tell_page) .none kV27 dc27 pm27 an27 cd27 ct27), sl27⟩)
    (cd_SheetPages_tell_page : PySem.W.codeIn K cd27 "SheetPages.tell_page" = true)
    (kk_SheetPages_tell_page : PySem.W.keepIn K (.ref f_SheetPages_tell_page) = true)
    (l_SheetPages_tell_where : K.lookup f_SheetPages_tell_where = some ⟨oc28, od28, .func (PySem.W.fnOf "tell_where" "SheetPages.tell_where" (defArgs s_SheetPages_tell_where) (defBody s_SheetPages_tell_where) (defScope s_SheetPages_tell_where) .none kV28 dc28 pm28 an28 cd28 ct28), sl28⟩)
    (cd_SheetPages_tell_where : PySem.W.codeIn K cd28 "SheetPages.tell_where" = true)
    (kk_SheetPages_tell_where : PySem.W.keepIn K (.ref f_SheetPages_tell_where) = true)
    (l_SheetPages_tell_texts : K.lookup f_SheetPages_tell_texts = some ⟨oc29, od29, .func (PySem.W.fnOf "tell_texts" "SheetPages.tell_texts" (defArgs s_SheetPages_tell_texts) (defBody s_SheetPages_tell_texts) (defScope s_SheetPages_tell_texts) .none kV29 dc29 pm29 an29 cd29 ct29), sl29⟩)
    (cd_SheetPages_tell_texts : PySem.W.codeIn K cd29 "SheetPages.tell_texts" = true)
    (kk_SheetPages_tell_texts : PySem.W.keepIn K (.ref f_SheetPages_tell_texts) = true)
    (l_WaySettings__init_ : K.lookup f_WaySettings__init_ = some ⟨oc30, od30, .func (PySem.W.fnOf "__init__" "WaySettings.__init__" (defArgs s_WaySettings__init_) (defBody s_WaySettings__init_) (defScope s_WaySettings__init_) .none kV30 dc30 pm30 an30 cd30 ct30), sl30⟩)
    (cd_WaySettings__init_ : PySem.W.codeIn K cd30 "WaySettings.__init__" = true)
    (kk_WaySettings__init_ : PySem.W.keepIn K (.ref f_WaySettings__init_) = true)
    (l_WaySettings_check_span : K.lookup f_WaySettings_check_span = some ⟨oc31, od31, .func (PySem.W.fnOf "check_span" "WaySettings.check_span" (defArgs s_WaySettings_check_span) (defBody s_WaySettings_check_span) (defScope s_WaySettings_check_span) .none kV31 dc31 pm31 an31 cd31 ct31), sl31⟩)
    (cd_WaySettings_check_span : PySem.W.codeIn K cd31 "WaySettings.check_span" = true)
    (kk_WaySettings_check_span : PySem.W.keepIn K (.ref f_WaySettings_check_span) = true)
    (l_WaySettings_set_size : K.lookup f_WaySettings_set_size = some ⟨oc32, od32, .func (PySem.W.fnOf "set_size" "WaySettings.set_size" (defArgs s_WaySettings_set_size) (defBody s_WaySettings_set_size) (defScope s_WaySettings_set_size) .none kV32 dc32 pm32 an32 cd32 ct32), sl32⟩)
    (cd_WaySettings_set_size : PySem.W.codeIn K cd32 "WaySettings.set_size" = true)
    (kk_WaySettings_set_size : PySem.W.keepIn K (.ref f_WaySettings_set_size) = true)
    (l_WaySettings_set_titles : K.lookup f_WaySettings_set_titles = some ⟨oc33, od33, .func (PySem.W.fnOf "set_titles" "WaySettings.set_titles" (defArgs s_WaySettings_set_titles) (defBody s_WaySettings_set_titles) (defScope s_WaySettings_set_titles) .none kV33 dc33 pm33 an33 cd33 ct33), sl33⟩)
    (cd_WaySettings_set_titles : PySem.W.codeIn K cd33 "WaySettings.set_titles" = true)
    (kk_WaySettings_set_titles : PySem.W.keepIn K (.ref f_WaySettings_set_titles) = true)
    (l_WaySettings_set_breaks : K.lookup f_WaySettings_set_breaks = some ⟨oc34, od34, .func (PySem.W.fnOf "set_breaks" "WaySettings.set_breaks" (defArgs s_WaySettings_set_breaks) (defBody s_WaySettings_set_breaks) (defScope s_WaySettings_set_breaks) .none kV34 dc34 pm34 an34 cd34 ct34), sl34⟩)
    (cd_WaySettings_set_breaks : PySem.W.codeIn K cd34 "WaySettings.set_breaks" = true)
    (kk_WaySettings_set_breaks : PySem.W.keepIn K (.ref f_WaySettings_set_breaks) = true)
    (l_SheetSettings__init_ : K.lookup f_SheetSettings__init_ = some ⟨oc35, od35, .func (PySem.W.fnOf "__init__" "SheetSettings.__init__" (defArgs s_SheetSettings__init_) (defBody s_SheetSettings__init_) (defScope s_SheetSettings__init_) .none kV35 dc35 pm35 an35 cd35 ct35), sl35⟩)
    (cd_SheetSettings__init_ : PySem.W.codeIn K cd35 "SheetSettings.__init__" = true)
    (kk_SheetSettings__init_ : PySem.W.keepIn K (.ref f_SheetSettings__init_) = true)
    (l_SheetSettings_begin : K.lookup f_SheetSettings_begin = some ⟨oc36, od36, .func (PySem.W.fnOf "begin" "SheetSettings.begin" (defArgs s_SheetSettings_begin) (defBody s_SheetSettings_begin) (defScope s_SheetSettings_begin) .none kV36 dc36 pm36 an36 cd36 ct36), sl36⟩)
    (cd_SheetSettings_begin : PySem.W.codeIn K cd36 "SheetSettings.begin" = true)
    (kk_SheetSettings_begin : PySem.W.keepIn K (.ref f_SheetSettings_begin) = true)
    (l_SheetSettings_set_paper : K.lookup f_SheetSettings_set_paper = some ⟨oc37, od37, .func (PySem.W.fnOf "set_paper" "SheetSettings.set_paper" (defArgs s_SheetSettings_set_paper) (defBody s_SheetSettings_set_paper) (defScope s_SheetSettings_set_paper) .none kV37 dc37 pm37 an37 cd37 ct37), sl37⟩)
    (cd_SheetSettings_set_paper : PySem.W.codeIn K cd37 "SheetSettings.set_paper" = true)
    (kk_SheetSettings_set_paper : PySem.W.keepIn K (.ref f_SheetSettings_set_paper) = true)
    (l_SheetSettings_set_areas : K.lookup f_SheetSettings_set_areas = some ⟨oc38, od38, .func (PySem.W.fnOf "set_areas" "SheetSettings.set_areas" (defArgs s_SheetSettings_set_areas) (defBody s_SheetSettings_set_areas) (defScope s_SheetSettings_set_areas) .none kV38 dc38 pm38 an38 cd38 ct38), sl38⟩)
    (cd_SheetSettings_set_areas : PySem.W.codeIn K cd38 "SheetSettings.set_areas" = true)
    (kk_SheetSettings_set_areas : PySem.W.keepIn K (.ref f_SheetSettings_set_areas) = true)
    (l_SheetSettings_set_scale : K.lookup f_SheetSettings_set_scale = some ⟨oc39, od39, .func (PySem.W.fnOf "set_scale" "SheetSettings.set_scale" (defArgs s_SheetSettings_set_scale) (defBody s_SheetSettings_set_scale) (defScope s_SheetSettings_set_scale) .none kV39 dc39 pm39 an39 cd39 ct39), sl39⟩)
    (cd_SheetSettings_set_scale : PySem.W.codeIn K cd39 "SheetSettings.set_scale" = true)
    (kk_SheetSettings_set_scale : PySem.W.keepIn K (.ref f_SheetSettings_set_scale) = true)
    (l_SheetSettings_set_fit : K.lookup f_SheetSettings_set_fit = some ⟨oc40, od40, .func (PySem.W.fnOf "set_fit" "SheetSettings.set_fit" (defArgs s_SheetSettings_set_fit) (defBody s_SheetSettings_set_fit) (defScope s_SheetSettings_set_fit) .none kV40 dc40 pm40 an40 cd40 ct40), sl40⟩)
    (cd_SheetSettings_set_fit : PySem.W.codeIn K cd40 "SheetSettings.set_fit" = true)
    (kk_SheetSettings_set_fit : PySem.W.keepIn K (.ref f_SheetSettings_set_fit) = true)
    (l_SheetSettings_set_how : K.lookup f_SheetSettings_set_how = some ⟨oc41, od41, .func (PySem.W.fnOf "set_how" "SheetSettings.set_how" (defArgs s_SheetSettings_set_how) (defBody s_SheetSettings_set_how) (defScope s_SheetSettings_set_how) .none kV41 dc41 pm41 an41 cd41 ct41), sl41⟩)
    (cd_SheetSettings_set_how : PySem.W.codeIn K cd41 "SheetSettings.set_how" = true)
    (kk_SheetSettings_set_how : PySem.W.keepIn K (.ref f_SheetSettings_set_how) = true)
    (l_SheetSettings_set_heads : K.lookup f_SheetSettings_set_heads = some ⟨oc42, od42, .func (PySem.W.fnOf "set_heads" "SheetSettings.set_heads" (defArgs s_SheetSettings_set_heads) (defBody s_SheetSettings_set_heads) (defScope s_SheetSettings_set_heads) .none kV42 dc42 pm42 an42 cd42 ct42), sl42⟩)
    (cd_SheetSettings_set_heads : PySem.W.codeIn K cd42 "SheetSettings.set_heads" = true)
    (kk_SheetSettings_set_heads : PySem.W.keepIn K (.ref f_SheetSettings_set_heads) = true)
    (a_check_side : PySem.W.nsIn K mainGlobals "check_side" = some (some (.ref f_check_side)))
    (l_check_side : K.lookup f_check_side = some ⟨oc43, od43, .func (PySem.W.fnOf "check_side" "check_side" (defArgs s_check_side) (defBody s_check_side) (defScope s_check_side) .none kV43 dc43 pm43 an43 cd43 ct43), sl43⟩)
    (cd_check_side : PySem.W.codeIn K cd43 "check_side" = true)
    (kk_check_side : PySem.W.keepIn K (.ref f_check_side) = true)
    (l_Sheet__init_ : K.lookup f_Sheet__init_ = some ⟨oc44, od44, .func (PySem.W.fnOf "__init__" "Sheet.__init__" (defArgs s_Sheet__init_) (defBody s_Sheet__init_) (defScope s_Sheet__init_) .none kV44 dc44 pm44 an44 cd44 ct44), sl44⟩)
    (cd_Sheet__init_ : PySem.W.codeIn K cd44 "Sheet.__init__" = true)
    (kk_Sheet__init_ : PySem.W.keepIn K (.ref f_Sheet__init_) = true)
    (l_Sheet_change : K.lookup f_Sheet_change = some ⟨oc45, od45, .func (PySem.W.fnOf "change" "Sheet.change" (defArgs s_Sheet_change) (defBody s_Sheet_change) (defScope s_Sheet_change) .none kV45 dc45 pm45 an45 cd45 ct45), sl45⟩)
    (cd_Sheet_change : PySem.W.codeIn K cd45 "Sheet.change" = true)
    (kk_Sheet_change : PySem.W.keepIn K (.ref f_Sheet_change) = true)
    (l_Sheet_ask : K.lookup f_Sheet_ask = some ⟨oc46, od46, .func (PySem.W.fnOf "ask" "Sheet.ask" (defArgs s_Sheet_ask) (defBody s_Sheet_ask) (defScope s_Sheet_ask) .none kV46 dc46 pm46 an46 cd46 ct46), sl46⟩)
    (cd_Sheet_ask : PySem.W.codeIn K cd46 "Sheet.ask" = true)
    (kk_Sheet_ask : PySem.W.keepIn K (.ref f_Sheet_ask) = true)
    (a_answers : PySem.W.nsIn K mainGlobals "answers" = some (some (.ref f_answers)))
    (l_answers : K.lookup f_answers = some ⟨oc47, od47, .func (PySem.W.fnOf "answers" "answers" (defArgs s_answers) (defBody s_answers) (defScope s_answers) .none kV47 dc47 pm47 an47 cd47 ct47), sl47⟩)
    (cd_answers : PySem.W.codeIn K cd47 "answers" = true)
    (kk_answers : PySem.W.keepIn K (.ref f_answers) = true)
    (a_answer_call : PySem.W.nsIn K mainGlobals "answer_call" = some (some (.ref f_answer_call)))
    (l_answer_call : K.lookup f_answer_call = some ⟨oc48, od48, .func (PySem.W.fnOf "answer_call" "answer_call" (defArgs s_answer_call) (defBody s_answer_call) (defScope s_answer_call) .none kV48 dc48 pm48 an48 cd48 ct48), sl48⟩)
    (cd_answer_call : PySem.W.codeIn K cd48 "answer_call" = true)
    (kk_answer_call : PySem.W.keepIn K (.ref f_answer_call) = true)
    (a_make_change : PySem.W.nsIn K mainGlobals "make_change" = some (some (.ref f_make_change)))
    (l_make_change : K.lookup f_make_change = some ⟨oc49, od49, .func (PySem.W.fnOf "make_change" "make_change" (defArgs s_make_change) (defBody s_make_change) (defScope s_make_change) .none kV49 dc49 pm49 an49 cd49 ct49), sl49⟩)
    (cd_make_change : PySem.W.codeIn K cd49 "make_change" = true)
    (kk_make_change : PySem.W.keepIn K (.ref f_make_change) = true)
    (a_answer_question : PySem.W.nsIn K mainGlobals "answer_question" = some (some (.ref f_answer_question)))
    (l_answer_question : K.lookup f_answer_question = some ⟨oc50, od50, .func (PySem.W.fnOf "answer_question" "answer_question" (defArgs s_answer_question) (defBody s_answer_question) (defScope s_answer_question) .none kV50 dc50 pm50 an50 cd50 ct50), sl50⟩)
    (cd_answer_question : PySem.W.codeIn K cd50 "answer_question" = true)
    (kk_answer_question : PySem.W.keepIn K (.ref f_answer_question) = true)
    (z_FORMS : PySem.W.nsIn K mainGlobals "FORMS" = some (some (.ref t_FORMS)))
    (lk_FORMS : K.lookup t_FORMS = some ⟨.type "tuple", od_FORMS, .seq #[.ref u_FORMS_0, .ref u_FORMS_1, .ref u_FORMS_2, .ref u_FORMS_3, .ref u_FORMS_4, .ref u_FORMS_5, .ref u_FORMS_6, .ref u_FORMS_7, .ref u_FORMS_8, .ref u_FORMS_9, .ref u_FORMS_10, .ref u_FORMS_11, .ref u_FORMS_12, .ref u_FORMS_13] n_FORMS, sl_FORMS⟩)
    (lk_FORMS_0 : K.lookup u_FORMS_0 = some ⟨.type "tuple", od_FORMS_0, .seq #[.str "begins" tk_FORMS_0_0, .int 0 tk_FORMS_0_1, .int 0 tk_FORMS_0_2] n_FORMS_0, sl_FORMS_0⟩)
    (lk_FORMS_1 : K.lookup u_FORMS_1 = some ⟨.type "tuple", od_FORMS_1, .seq #[.str "size" tk_FORMS_1_0, .int 4 tk_FORMS_1_1, .int 0 tk_FORMS_1_2] n_FORMS_1, sl_FORMS_1⟩)
    (lk_FORMS_2 : K.lookup u_FORMS_2 = some ⟨.type "tuple", od_FORMS_2, .seq #[.str "paper" tk_FORMS_2_0, .int 6 tk_FORMS_2_1, .int 0 tk_FORMS_2_2] n_FORMS_2, sl_FORMS_2⟩)
    (lk_FORMS_3 : K.lookup u_FORMS_3 = some ⟨.type "tuple", od_FORMS_3, .seq #[.str "areas" tk_FORMS_3_0, .int 0 tk_FORMS_3_1, .int 1 tk_FORMS_3_2] n_FORMS_3, sl_FORMS_3⟩)
    (lk_FORMS_4 : K.lookup u_FORMS_4 = some ⟨.type "tuple", od_FORMS_4, .seq #[.str "titles" tk_FORMS_4_0, .int 1 tk_FORMS_4_1, .int 1 tk_FORMS_4_2] n_FORMS_4, sl_FORMS_4⟩)
    (lk_FORMS_5 : K.lookup u_FORMS_5 = some ⟨.type "tuple", od_FORMS_5, .seq #[.str "breaks" tk_FORMS_5_0, .int 1 tk_FORMS_5_1, .int 1 tk_FORMS_5_2] n_FORMS_5, sl_FORMS_5⟩)
    (lk_FORMS_6 : K.lookup u_FORMS_6 = some ⟨.type "tuple", od_FORMS_6, .seq #[.str "scale" tk_FORMS_6_0, .int 1 tk_FORMS_6_1, .int 0 tk_FORMS_6_2] n_FORMS_6, sl_FORMS_6⟩)
    (lk_FORMS_7 : K.lookup u_FORMS_7 = some ⟨.type "tuple", od_FORMS_7, .seq #[.str "fit" tk_FORMS_7_0, .int 2 tk_FORMS_7_1, .int 0 tk_FORMS_7_2] n_FORMS_7, sl_FORMS_7⟩)
    (lk_FORMS_8 : K.lookup u_FORMS_8 = some ⟨.type "tuple", od_FORMS_8, .seq #[.str "how" tk_FORMS_8_0, .int 4 tk_FORMS_8_1, .int 0 tk_FORMS_8_2] n_FORMS_8, sl_FORMS_8⟩)
    (lk_FORMS_9 : K.lookup u_FORMS_9 = some ⟨.type "tuple", od_FORMS_9, .seq #[.str "heads" tk_FORMS_9_0, .int 0 tk_FORMS_9_1, .int 2 tk_FORMS_9_2] n_FORMS_9, sl_FORMS_9⟩)
    (lk_FORMS_10 : K.lookup u_FORMS_10 = some ⟨.type "tuple", od_FORMS_10, .seq #[.str "pages" tk_FORMS_10_0, .int 0 tk_FORMS_10_1, .int 0 tk_FORMS_10_2] n_FORMS_10, sl_FORMS_10⟩)
    (lk_FORMS_11 : K.lookup u_FORMS_11 = some ⟨.type "tuple", od_FORMS_11, .seq #[.str "page" tk_FORMS_11_0, .int 1 tk_FORMS_11_1, .int 0 tk_FORMS_11_2] n_FORMS_11, sl_FORMS_11⟩)
    (lk_FORMS_12 : K.lookup u_FORMS_12 = some ⟨.type "tuple", od_FORMS_12, .seq #[.str "where" tk_FORMS_12_0, .int 2 tk_FORMS_12_1, .int 0 tk_FORMS_12_2] n_FORMS_12, sl_FORMS_12⟩)
    (lk_FORMS_13 : K.lookup u_FORMS_13 = some ⟨.type "tuple", od_FORMS_13, .seq #[.str "texts" tk_FORMS_13_0, .int 1 tk_FORMS_13_1, .int 0 tk_FORMS_13_2] n_FORMS_13, sl_FORMS_13⟩)
    (z_LONGEST_TEXT : PySem.W.nsIn K mainGlobals "LONGEST_TEXT" = some (some (.int 255 tk_LONGEST_TEXT)))
    (z_LARGEST_FITTING : PySem.W.nsIn K mainGlobals "LARGEST_FITTING" = some (some (.int 100 tk_LARGEST_FITTING)))
    (z_SMALLEST_FITTING : PySem.W.nsIn K mainGlobals "SMALLEST_FITTING" = some (some (.int 10 tk_SMALLEST_FITTING)))
    (z_MOST_SIZES : PySem.W.nsIn K mainGlobals "MOST_SIZES" = some (some (.int 200 tk_MOST_SIZES)))
    (z_LARGEST_SIZE : PySem.W.nsIn K mainGlobals "LARGEST_SIZE" = some (some (.int 10000 tk_LARGEST_SIZE)))
    (z_MOST_BREAKS : PySem.W.nsIn K mainGlobals "MOST_BREAKS" = some (some (.int 500 tk_MOST_BREAKS)))
    (z_LONGEST_SIDE : PySem.W.nsIn K mainGlobals "LONGEST_SIDE" = some (some (.int 100000 tk_LONGEST_SIDE)))
    (z_MOST_AREAS : PySem.W.nsIn K mainGlobals "MOST_AREAS" = some (some (.int 32 tk_MOST_AREAS)))
    (z_SMALLEST_SCALE : PySem.W.nsIn K mainGlobals "SMALLEST_SCALE" = some (some (.int 10 tk_SMALLEST_SCALE)))
    (z_LARGEST_SCALE : PySem.W.nsIn K mainGlobals "LARGEST_SCALE" = some (some (.int 400 tk_LARGEST_SCALE)))
    (z_MOST_BANDS : PySem.W.nsIn K mainGlobals "MOST_BANDS" = some (some (.int 1000 tk_MOST_BANDS)))
    (z_FARTHEST_FIRST_NUMBER : PySem.W.nsIn K mainGlobals "FARTHEST_FIRST_NUMBER" = some (some (.int 1000000 tk_FARTHEST_FIRST_NUMBER)))
    (z_QUESTIONS : PySem.W.nsIn K mainGlobals "QUESTIONS" = some (some (.ref t_QUESTIONS)))
    (lk_QUESTIONS : K.lookup t_QUESTIONS = some ⟨.type "tuple", od_QUESTIONS, .seq #[.str "pages" tk_QUESTIONS_0, .str "page" tk_QUESTIONS_1, .str "where" tk_QUESTIONS_2, .str "texts" tk_QUESTIONS_3] n_QUESTIONS, sl_QUESTIONS⟩)
    (v_abs : PySem.W.nsIn K mainGlobals "abs" = some none)
    (v_len : PySem.W.nsIn K mainGlobals "len" = some none)
    (v_min : PySem.W.nsIn K mainGlobals "min" = some none)
    (v_ord : PySem.W.nsIn K mainGlobals "ord" = some none)
    (v_range : PySem.W.nsIn K mainGlobals "range" = some none)
    (v_str : PySem.W.nsIn K mainGlobals "str" = some none)
    (v_tuple : PySem.W.nsIn K mainGlobals "tuple" = some none)
    : Txt K mg ⟨C_AreaPages, C_WayBands, C_SheetPages, C_WaySettings, C_SheetSettings, C_Sheet, X_OutOfRange, X_CannotBeTold, X_TooMany, X_NoSuchPage, f_read_calls, f_AreaPages__init_, f_AreaPages_count_pages, f_AreaPages_row_band_of, f_AreaPages_column_band_of, f_AreaPages_has_cell, f_AreaPages_page_of, f_is_within, f_band_place, f_WayBands__init_, f_WayBands_again_from, f_WayBands_again_end, f_WayBands_count_again, f_WayBands_again_size, f_WayBands_band_end, f_WayBands_find_bands, f_WayBands_has_more_bands, f_WayBands_page_size, f_WayBands_distance, f_check_text, f_write_text, f_digits_of, f_SheetPages__init_, f_SheetPages_find_fitting_scale, f_SheetPages_fits, f_SheetPages_tell_pages, f_SheetPages_area_pages_with, f_SheetPages_tell_page, f_SheetPages_tell_where, f_SheetPages_tell_texts, f_WaySettings__init_, f_WaySettings_check_span, f_WaySettings_set_size, f_WaySettings_set_titles, f_WaySettings_set_breaks, f_SheetSettings__init_, f_SheetSettings_begin, f_SheetSettings_set_paper, f_SheetSettings_set_areas, f_SheetSettings_set_scale, f_SheetSettings_set_fit, f_SheetSettings_set_how, f_SheetSettings_set_heads, f_check_side, f_Sheet__init_, f_Sheet_change, f_Sheet_ask, f_answers, f_answer_call, f_make_change, f_answer_question, t_FORMS, t_QUESTIONS⟩ where
  c_AreaPages := ⟨pg_AreaPages, hd_AreaPages, po_AreaPages, sa_AreaPages⟩
  g_AreaPages := PySem.W.mg_of X G a_AreaPages
  na_AreaPages_area_place := na_AreaPages_area_place
  na_AreaPages_first_page := na_AreaPages_first_page
  na_AreaPages_row_bands := na_AreaPages_row_bands
  na_AreaPages_column_bands := na_AreaPages_column_bands
  na_AreaPages_beside_first := na_AreaPages_beside_first
  mk_AreaPages := ⟨mk_AreaPages, h_AreaPages__init_, s_fn_AreaPages__init_, kc_AreaPages⟩
  m_AreaPages_count_pages := ⟨h_AreaPages_count_pages, s_fn_AreaPages_count_pages, kk_AreaPages_count_pages⟩
  m_AreaPages_row_band_of := ⟨h_AreaPages_row_band_of, s_fn_AreaPages_row_band_of, kk_AreaPages_row_band_of⟩
  m_AreaPages_column_band_of := ⟨h_AreaPages_column_band_of, s_fn_AreaPages_column_band_of, kk_AreaPages_column_band_of⟩
  m_AreaPages_has_cell := ⟨h_AreaPages_has_cell, s_fn_AreaPages_has_cell, kk_AreaPages_has_cell⟩
  m_AreaPages_page_of := ⟨h_AreaPages_page_of, s_fn_AreaPages_page_of, kk_AreaPages_page_of⟩
  c_WayBands := ⟨pg_WayBands, hd_WayBands, po_WayBands, sa_WayBands⟩
  g_WayBands := PySem.W.mg_of X G a_WayBands
  na_WayBands_way := na_WayBands_way
  na_WayBands_starts := na_WayBands_starts
  mk_WayBands := ⟨mk_WayBands, h_WayBands__init_, s_fn_WayBands__init_, kc_WayBands⟩
  m_WayBands_again_from := ⟨h_WayBands_again_from, s_fn_WayBands_again_from, kk_WayBands_again_from⟩
  m_WayBands_again_end := ⟨h_WayBands_again_end, s_fn_WayBands_again_end, kk_WayBands_again_end⟩
  m_WayBands_count_again := ⟨h_WayBands_count_again, s_fn_WayBands_count_again, kk_WayBands_count_again⟩
  m_WayBands_again_size := ⟨h_WayBands_again_size, s_fn_WayBands_again_size, kk_WayBands_again_size⟩
  m_WayBands_band_end := ⟨h_WayBands_band_end, s_fn_WayBands_band_end, kk_WayBands_band_end⟩
  m_WayBands_find_bands := ⟨h_WayBands_find_bands, s_fn_WayBands_find_bands, kk_WayBands_find_bands⟩
  m_WayBands_has_more_bands := ⟨h_WayBands_has_more_bands, s_fn_WayBands_has_more_bands, kk_WayBands_has_more_bands⟩
  m_WayBands_page_size := ⟨h_WayBands_page_size, s_fn_WayBands_page_size, kk_WayBands_page_size⟩
  m_WayBands_distance := ⟨h_WayBands_distance, s_fn_WayBands_distance, kk_WayBands_distance⟩
  c_SheetPages := ⟨pg_SheetPages, hd_SheetPages, po_SheetPages, sa_SheetPages⟩
  g_SheetPages := PySem.W.mg_of X G a_SheetPages
  na_SheetPages_settings := na_SheetPages_settings
  na_SheetPages_rows := na_SheetPages_rows
  na_SheetPages_columns := na_SheetPages_columns
  na_SheetPages_used_scale := na_SheetPages_used_scale
  na_SheetPages_page_count := na_SheetPages_page_count
  na_SheetPages_area_pages := na_SheetPages_area_pages
  mk_SheetPages := ⟨mk_SheetPages, h_SheetPages__init_, s_fn_SheetPages__init_, kc_SheetPages⟩
  m_SheetPages_find_fitting_scale := ⟨h_SheetPages_find_fitting_scale, s_fn_SheetPages_find_fitting_scale, kk_SheetPages_find_fitting_scale⟩
  m_SheetPages_fits := ⟨h_SheetPages_fits, s_fn_SheetPages_fits, kk_SheetPages_fits⟩
  m_SheetPages_tell_pages := ⟨h_SheetPages_tell_pages, s_fn_SheetPages_tell_pages, kk_SheetPages_tell_pages⟩
  m_SheetPages_area_pages_with := ⟨h_SheetPages_area_pages_with, s_fn_SheetPages_area_pages_with, kk_SheetPages_area_pages_with⟩
  m_SheetPages_tell_page := ⟨h_SheetPages_tell_page, s_fn_SheetPages_tell_page, kk_SheetPages_tell_page⟩
  m_SheetPages_tell_where := ⟨h_SheetPages_tell_where, s_fn_SheetPages_tell_where, kk_SheetPages_tell_where⟩
  m_SheetPages_tell_texts := ⟨h_SheetPages_tell_texts, s_fn_SheetPages_tell_texts, kk_SheetPages_tell_texts⟩
  c_WaySettings := ⟨pg_WaySettings, hd_WaySettings, po_WaySettings, sa_WaySettings⟩
  g_WaySettings := PySem.W.mg_of X G a_WaySettings
  na_WaySettings_place_count := na_WaySettings_place_count
  na_WaySettings_sizes := na_WaySettings_sizes
  na_WaySettings_sizes_told := na_WaySettings_sizes_told
  na_WaySettings_edge := na_WaySettings_edge
  na_WaySettings_space := na_WaySettings_space
  na_WaySettings_in_middle := na_WaySettings_in_middle
  na_WaySettings_titles := na_WaySettings_titles
  na_WaySettings_breaks := na_WaySettings_breaks
  mk_WaySettings := ⟨mk_WaySettings, h_WaySettings__init_, s_fn_WaySettings__init_, kc_WaySettings⟩
  m_WaySettings_check_span := ⟨h_WaySettings_check_span, s_fn_WaySettings_check_span, kk_WaySettings_check_span⟩
  m_WaySettings_set_size := ⟨h_WaySettings_set_size, s_fn_WaySettings_set_size, kk_WaySettings_set_size⟩
  m_WaySettings_set_titles := ⟨h_WaySettings_set_titles, s_fn_WaySettings_set_titles, kk_WaySettings_set_titles⟩
  m_WaySettings_set_breaks := ⟨h_WaySettings_set_breaks, s_fn_WaySettings_set_breaks, kk_WaySettings_set_breaks⟩
  c_SheetSettings := ⟨pg_SheetSettings, hd_SheetSettings, po_SheetSettings, sa_SheetSettings⟩
  g_SheetSettings := PySem.W.mg_of X G a_SheetSettings
  na_SheetSettings_ways := na_SheetSettings_ways
  na_SheetSettings_areas := na_SheetSettings_areas
  na_SheetSettings_scale := na_SheetSettings_scale
  na_SheetSettings_fit := na_SheetSettings_fit
  na_SheetSettings_beside_first := na_SheetSettings_beside_first
  na_SheetSettings_first_number := na_SheetSettings_first_number
  na_SheetSettings_head := na_SheetSettings_head
  na_SheetSettings_foot := na_SheetSettings_foot
  mk_SheetSettings := ⟨mk_SheetSettings, h_SheetSettings__init_, s_fn_SheetSettings__init_, kc_SheetSettings⟩
  m_SheetSettings_begin := ⟨h_SheetSettings_begin, s_fn_SheetSettings_begin, kk_SheetSettings_begin⟩
  m_SheetSettings_set_paper := ⟨h_SheetSettings_set_paper, s_fn_SheetSettings_set_paper, kk_SheetSettings_set_paper⟩
  m_SheetSettings_set_areas := ⟨h_SheetSettings_set_areas, s_fn_SheetSettings_set_areas, kk_SheetSettings_set_areas⟩
  m_SheetSettings_set_scale := ⟨h_SheetSettings_set_scale, s_fn_SheetSettings_set_scale, kk_SheetSettings_set_scale⟩
  m_SheetSettings_set_fit := ⟨h_SheetSettings_set_fit, s_fn_SheetSettings_set_fit, kk_SheetSettings_set_fit⟩
  m_SheetSettings_set_how := ⟨h_SheetSettings_set_how, s_fn_SheetSettings_set_how, kk_SheetSettings_set_how⟩
  m_SheetSettings_set_heads := ⟨h_SheetSettings_set_heads, s_fn_SheetSettings_set_heads, kk_SheetSettings_set_heads⟩
  c_Sheet := ⟨pg_Sheet, hd_Sheet, po_Sheet, sa_Sheet⟩
  g_Sheet := PySem.W.mg_of X G a_Sheet
  na_Sheet_settings := na_Sheet_settings
  na_Sheet_kept_pages := na_Sheet_kept_pages
  mk_Sheet := ⟨mk_Sheet, h_Sheet__init_, s_fn_Sheet__init_, kc_Sheet⟩
  m_Sheet_change := ⟨h_Sheet_change, s_fn_Sheet_change, kk_Sheet_change⟩
  m_Sheet_ask := ⟨h_Sheet_ask, s_fn_Sheet_ask, kk_Sheet_ask⟩
  g_OutOfRange := PySem.W.mg_of X G a_OutOfRange
  x_OutOfRange := x_OutOfRange
  k_OutOfRange := k_OutOfRange
  b_OutOfRange := b_OutOfRange
  t_OutOfRange := t_OutOfRange
  g_CannotBeTold := PySem.W.mg_of X G a_CannotBeTold
  x_CannotBeTold := x_CannotBeTold
  k_CannotBeTold := k_CannotBeTold
  b_CannotBeTold := b_CannotBeTold
  t_CannotBeTold := t_CannotBeTold
  g_TooMany := PySem.W.mg_of X G a_TooMany
  x_TooMany := x_TooMany
  k_TooMany := k_TooMany
  b_TooMany := b_TooMany
  t_TooMany := t_TooMany
  g_NoSuchPage := PySem.W.mg_of X G a_NoSuchPage
  x_NoSuchPage := x_NoSuchPage
  k_NoSuchPage := k_NoSuchPage
  b_NoSuchPage := b_NoSuchPage
  t_NoSuchPage := t_NoSuchPage
  e_OutOfRange_OutOfRange := exm_of b_OutOfRange i_OutOfRange t_OutOfRange u_OutOfRange_OutOfRange
  e_OutOfRange_CannotBeTold := exm_of b_CannotBeTold i_CannotBeTold t_CannotBeTold u_OutOfRange_CannotBeTold
  e_OutOfRange_TooMany := exm_of b_TooMany i_TooMany t_TooMany u_OutOfRange_TooMany
  e_OutOfRange_NoSuchPage := exm_of b_NoSuchPage i_NoSuchPage t_NoSuchPage u_OutOfRange_NoSuchPage
  e_CannotBeTold_OutOfRange := exm_of b_OutOfRange i_OutOfRange t_OutOfRange u_CannotBeTold_OutOfRange
  e_CannotBeTold_CannotBeTold := exm_of b_CannotBeTold i_CannotBeTold t_CannotBeTold u_CannotBeTold_CannotBeTold
  e_CannotBeTold_TooMany := exm_of b_TooMany i_TooMany t_TooMany u_CannotBeTold_TooMany
  e_CannotBeTold_NoSuchPage := exm_of b_NoSuchPage i_NoSuchPage t_NoSuchPage u_CannotBeTold_NoSuchPage
  e_TooMany_OutOfRange := exm_of b_OutOfRange i_OutOfRange t_OutOfRange u_TooMany_OutOfRange
  e_TooMany_CannotBeTold := exm_of b_CannotBeTold i_CannotBeTold t_CannotBeTold u_TooMany_CannotBeTold
  e_TooMany_TooMany := exm_of b_TooMany i_TooMany t_TooMany u_TooMany_TooMany
  e_TooMany_NoSuchPage := exm_of b_NoSuchPage i_NoSuchPage t_NoSuchPage u_TooMany_NoSuchPage
  e_NoSuchPage_OutOfRange := exm_of b_OutOfRange i_OutOfRange t_OutOfRange u_NoSuchPage_OutOfRange
  e_NoSuchPage_CannotBeTold := exm_of b_CannotBeTold i_CannotBeTold t_CannotBeTold u_NoSuchPage_CannotBeTold
  e_NoSuchPage_TooMany := exm_of b_TooMany i_TooMany t_TooMany u_NoSuchPage_TooMany
  e_NoSuchPage_NoSuchPage := exm_of b_NoSuchPage i_NoSuchPage t_NoSuchPage u_NoSuchPage_NoSuchPage
  g_read_calls := PySem.W.mg_of X G a_read_calls
  k_read_calls := kk_read_calls
  fn_read_calls := funB_mk (fun _ _ _ _ _ _ us hl => match us, hl with | [_], _ => rfl) l_read_calls cd_read_calls kk_read_calls
  fn_AreaPages__init_ := funB_mk (fun _ _ _ _ _ _ us hl => match us, hl with | [_, _, _, _, _, _], _ => rfl) l_AreaPages__init_ cd_AreaPages__init_ kk_AreaPages__init_
  fn_AreaPages_count_pages := funB_mk (fun _ _ _ _ _ _ us hl => match us, hl with | [_], _ => rfl) l_AreaPages_count_pages cd_AreaPages_count_pages kk_AreaPages_count_pages
  fn_AreaPages_row_band_of := funB_mk (fun _ _ _ _ _ _ us hl => match us, hl with | [_, _], _ => rfl) l_AreaPages_row_band_of cd_AreaPages_row_band_of kk_AreaPages_row_band_of
  fn_AreaPages_column_band_of := funB_mk (fun _ _ _ _ _ _ us hl => match us, hl with | [_, _], _ => rfl) l_AreaPages_column_band_of cd_AreaPages_column_band_of kk_AreaPages_column_band_of
  fn_AreaPages_has_cell := funB_mk (fun _ _ _ _ _ _ us hl => match us, hl with | [_, _, _], _ => rfl) l_AreaPages_has_cell cd_AreaPages_has_cell kk_AreaPages_has_cell
  fn_AreaPages_page_of := funB_mk (fun _ _ _ _ _ _ us hl => match us, hl with | [_, _, _], _ => rfl) l_AreaPages_page_of cd_AreaPages_page_of kk_AreaPages_page_of
  g_is_within := PySem.W.mg_of X G a_is_within
  k_is_within := kk_is_within
  fn_is_within := funB_mk (fun _ _ _ _ _ _ us hl => match us, hl with | [_, _], _ => rfl) l_is_within cd_is_within kk_is_within
  g_band_place := PySem.W.mg_of X G a_band_place
  k_band_place := kk_band_place
  fn_band_place := funB_mk (fun _ _ _ _ _ _ us hl => match us, hl with | [_, _], _ => rfl) l_band_place cd_band_place kk_band_place
  fn_WayBands__init_ := funB_mk (fun _ _ _ _ _ _ us hl => match us, hl with | [_, _], _ => rfl) l_WayBands__init_ cd_WayBands__init_ kk_WayBands__init_
  fn_WayBands_again_from := funB_mk (fun _ _ _ _ _ _ us hl => match us, hl with | [_, _], _ => rfl) l_WayBands_again_from cd_WayBands_again_from kk_WayBands_again_from
  fn_WayBands_again_end := funB_mk (fun _ _ _ _ _ _ us hl => match us, hl with | [_, _], _ => rfl) l_WayBands_again_end cd_WayBands_again_end kk_WayBands_again_end
  fn_WayBands_count_again := funB_mk (fun _ _ _ _ _ _ us hl => match us, hl with | [_, _], _ => rfl) l_WayBands_count_again cd_WayBands_count_again kk_WayBands_count_again
  fn_WayBands_again_size := funB_mk (fun _ _ _ _ _ _ us hl => match us, hl with | [_, _], _ => rfl) l_WayBands_again_size cd_WayBands_again_size kk_WayBands_again_size
  fn_WayBands_band_end := funB_mk (fun _ _ _ _ _ _ us hl => match us, hl with | [_, _, _, _], _ => rfl) l_WayBands_band_end cd_WayBands_band_end kk_WayBands_band_end
  fn_WayBands_find_bands := funB_mk (fun _ _ _ _ _ _ us hl => match us, hl with | [_, _, _, _], _ => rfl) l_WayBands_find_bands cd_WayBands_find_bands kk_WayBands_find_bands
  fn_WayBands_has_more_bands := funB_mk (fun _ _ _ _ _ _ us hl => match us, hl with | [_, _, _, _, _], _ => rfl) l_WayBands_has_more_bands cd_WayBands_has_more_bands kk_WayBands_has_more_bands
  fn_WayBands_page_size := funB_mk (fun _ _ _ _ _ _ us hl => match us, hl with | [_, _, _], _ => rfl) l_WayBands_page_size cd_WayBands_page_size kk_WayBands_page_size
  fn_WayBands_distance := funB_mk (fun _ _ _ _ _ _ us hl => match us, hl with | [_, _, _, _], _ => rfl) l_WayBands_distance cd_WayBands_distance kk_WayBands_distance
  g_check_text := PySem.W.mg_of X G a_check_text
  k_check_text := kk_check_text
  fn_check_text := funB_mk (fun _ _ _ _ _ _ us hl => match us, hl with | [_], _ => rfl) l_check_text cd_check_text kk_check_text
  g_write_text := PySem.W.mg_of X G a_write_text
  k_write_text := kk_write_text
  fn_write_text := funB_mk (fun _ _ _ _ _ _ us hl => match us, hl with | [_, _, _, _], _ => rfl) l_write_text cd_write_text kk_write_text
  g_digits_of := PySem.W.mg_of X G a_digits_of
  k_digits_of := kk_digits_of
  fn_digits_of := funB_mk (fun _ _ _ _ _ _ us hl => match us, hl with | [_], _ => rfl) l_digits_of cd_digits_of kk_digits_of
  fn_SheetPages__init_ := funB_mk (fun _ _ _ _ _ _ us hl => match us, hl with | [_, _], _ => rfl) l_SheetPages__init_ cd_SheetPages__init_ kk_SheetPages__init_
  fn_SheetPages_find_fitting_scale := funB_mk (fun _ _ _ _ _ _ us hl => match us, hl with | [_], _ => rfl) l_SheetPages_find_fitting_scale cd_SheetPages_find_fitting_scale kk_SheetPages_find_fitting_scale
  fn_SheetPages_fits := funB_mk (fun _ _ _ _ _ _ us hl => match us, hl with | [_, _], _ => rfl) l_SheetPages_fits cd_SheetPages_fits kk_SheetPages_fits
  fn_SheetPages_tell_pages := funB_mk (fun _ _ _ _ _ _ us hl => match us, hl with | [_], _ => rfl) l_SheetPages_tell_pages cd_SheetPages_tell_pages kk_SheetPages_tell_pages
  fn_SheetPages_area_pages_with := funB_mk (fun _ _ _ _ _ _ us hl => match us, hl with | [_, _], _ => rfl) l_SheetPages_area_pages_with cd_SheetPages_area_pages_with kk_SheetPages_area_pages_with
  fn_SheetPages_tell_page := funB_mk (fun _ _ _ _ _ _ us hl => match us, hl with | [_, _], _ => rfl) l_SheetPages_tell_page cd_SheetPages_tell_page kk_SheetPages_tell_page
  fn_SheetPages_tell_where := funB_mk (fun _ _ _ _ _ _ us hl => match us, hl with | [_, _, _], _ => rfl) l_SheetPages_tell_where cd_SheetPages_tell_where kk_SheetPages_tell_where
  fn_SheetPages_tell_texts := funB_mk (fun _ _ _ _ _ _ us hl => match us, hl with | [_, _], _ => rfl) l_SheetPages_tell_texts cd_SheetPages_tell_texts kk_SheetPages_tell_texts
  fn_WaySettings__init_ := funB_mk (fun _ _ _ _ _ _ us hl => match us, hl with | [_, _, _], _ => rfl) l_WaySettings__init_ cd_WaySettings__init_ kk_WaySettings__init_
  fn_WaySettings_check_span := funB_mk (fun _ _ _ _ _ _ us hl => match us, hl with | [_, _, _], _ => rfl) l_WaySettings_check_span cd_WaySettings_check_span kk_WaySettings_check_span
  fn_WaySettings_set_size := funB_mk (fun _ _ _ _ _ _ us hl => match us, hl with | [_, _, _, _], _ => rfl) l_WaySettings_set_size cd_WaySettings_set_size kk_WaySettings_set_size
  fn_WaySettings_set_titles := funB_mk (fun _ _ _ _ _ _ us hl => match us, hl with | [_, _], _ => rfl) l_WaySettings_set_titles cd_WaySettings_set_titles kk_WaySettings_set_titles
  fn_WaySettings_set_breaks := funB_mk (fun _ _ _ _ _ _ us hl => match us, hl with | [_, _], _ => rfl) l_WaySettings_set_breaks cd_WaySettings_set_breaks kk_WaySettings_set_breaks
  fn_SheetSettings__init_ := funB_mk (fun _ _ _ _ _ _ us hl => match us, hl with | [_], _ => rfl) l_SheetSettings__init_ cd_SheetSettings__init_ kk_SheetSettings__init_
  fn_SheetSettings_begin := funB_mk (fun _ _ _ _ _ _ us hl => match us, hl with | [_], _ => rfl) l_SheetSettings_begin cd_SheetSettings_begin kk_SheetSettings_begin
  fn_SheetSettings_set_paper := funB_mk (fun _ _ _ _ _ _ us hl => match us, hl with | [_, _, _, _, _, _, _], _ => rfl) l_SheetSettings_set_paper cd_SheetSettings_set_paper kk_SheetSettings_set_paper
  fn_SheetSettings_set_areas := funB_mk (fun _ _ _ _ _ _ us hl => match us, hl with | [_, _], _ => rfl) l_SheetSettings_set_areas cd_SheetSettings_set_areas kk_SheetSettings_set_areas
  fn_SheetSettings_set_scale := funB_mk (fun _ _ _ _ _ _ us hl => match us, hl with | [_, _], _ => rfl) l_SheetSettings_set_scale cd_SheetSettings_set_scale kk_SheetSettings_set_scale
  fn_SheetSettings_set_fit := funB_mk (fun _ _ _ _ _ _ us hl => match us, hl with | [_, _, _], _ => rfl) l_SheetSettings_set_fit cd_SheetSettings_set_fit kk_SheetSettings_set_fit
  fn_SheetSettings_set_how := funB_mk (fun _ _ _ _ _ _ us hl => match us, hl with | [_, _, _, _, _], _ => rfl) l_SheetSettings_set_how cd_SheetSettings_set_how kk_SheetSettings_set_how
  fn_SheetSettings_set_heads := funB_mk (fun _ _ _ _ _ _ us hl => match us, hl with | [_, _, _], _ => rfl) l_SheetSettings_set_heads cd_SheetSettings_set_heads kk_SheetSettings_set_heads
  g_check_side := PySem.W.mg_of X G a_check_side
  k_check_side := kk_check_side
  fn_check_side := funB_mk (fun _ _ _ _ _ _ us hl => match us, hl with | [_, _, _], _ => rfl) l_check_side cd_check_side kk_check_side
  fn_Sheet__init_ := funB_mk (fun _ _ _ _ _ _ us hl => match us, hl with | [_], _ => rfl) l_Sheet__init_ cd_Sheet__init_ kk_Sheet__init_
  fn_Sheet_change := funB_mk (fun _ _ _ _ _ _ us hl => match us, hl with | [_], _ => rfl) l_Sheet_change cd_Sheet_change kk_Sheet_change
  fn_Sheet_ask := funB_mk (fun _ _ _ _ _ _ us hl => match us, hl with | [_], _ => rfl) l_Sheet_ask cd_Sheet_ask kk_Sheet_ask
  g_answers := PySem.W.mg_of X G a_answers
  k_answers := kk_answers
  fn_answers := funB_mk (fun _ _ _ _ _ _ us hl => match us, hl with | [_], _ => rfl) l_answers cd_answers kk_answers
  g_answer_call := PySem.W.mg_of X G a_answer_call
  k_answer_call := kk_answer_call
  fn_answer_call := funB_mk (fun _ _ _ _ _ _ us hl => match us, hl with | [_, _, _, _], _ => rfl) l_answer_call cd_answer_call kk_answer_call
  g_make_change := PySem.W.mg_of X G a_make_change
  k_make_change := kk_make_change
  fn_make_change := funB_mk (fun _ _ _ _ _ _ us hl => match us, hl with | [_, _, _, _], _ => rfl) l_make_change cd_make_change kk_make_change
  g_answer_question := PySem.W.mg_of X G a_answer_question
  k_answer_question := kk_answer_question
  fn_answer_question := funB_mk (fun _ _ _ _ _ _ us hl => match us, hl with | [_, _, _], _ => rfl) l_answer_question cd_answer_question kk_answer_question
  g_FORMS := PySem.W.mg_of X G z_FORMS
  s_FORMS := ⟨[u_FORMS_0, u_FORMS_1, u_FORMS_2, u_FORMS_3, u_FORMS_4, u_FORMS_5, u_FORMS_6, u_FORMS_7, u_FORMS_8, u_FORMS_9, u_FORMS_10, u_FORMS_11, u_FORMS_12, u_FORMS_13], rfl, fun H => tupK lk_FORMS (by show 14 ≤ sizeLine; decide) (.cons (show RelV _ _ from rfl) (.cons (show RelV _ _ from rfl) (.cons (show RelV _ _ from rfl) (.cons (show RelV _ _ from rfl) (.cons (show RelV _ _ from rfl) (.cons (show RelV _ _ from rfl) (.cons (show RelV _ _ from rfl) (.cons (show RelV _ _ from rfl) (.cons (show RelV _ _ from rfl) (.cons (show RelV _ _ from rfl) (.cons (show RelV _ _ from rfl) (.cons (show RelV _ _ from rfl) (.cons (show RelV _ _ from rfl) (.cons (show RelV _ _ from rfl) (.nil))))))))))))))), fun j u row hj hr H => match j, hj, hr with
    | 0, hj, hr => by cases hj; cases hr; exact tupK lk_FORMS_0 (by show 3 ≤ sizeLine; decide) (.cons (show RelV _ _ from ⟨_, rfl⟩) (.cons (show RelV _ _ from ⟨_, rfl⟩) (.cons (show RelV _ _ from ⟨_, rfl⟩) (.nil))))
    | 1, hj, hr => by cases hj; cases hr; exact tupK lk_FORMS_1 (by show 3 ≤ sizeLine; decide) (.cons (show RelV _ _ from ⟨_, rfl⟩) (.cons (show RelV _ _ from ⟨_, rfl⟩) (.cons (show RelV _ _ from ⟨_, rfl⟩) (.nil))))
    | 2, hj, hr => by cases hj; cases hr; exact tupK lk_FORMS_2 (by show 3 ≤ sizeLine; decide) (.cons (show RelV _ _ from ⟨_, rfl⟩) (.cons (show RelV _ _ from ⟨_, rfl⟩) (.cons (show RelV _ _ from ⟨_, rfl⟩) (.nil))))
    | 3, hj, hr => by cases hj; cases hr; exact tupK lk_FORMS_3 (by show 3 ≤ sizeLine; decide) (.cons (show RelV _ _ from ⟨_, rfl⟩) (.cons (show RelV _ _ from ⟨_, rfl⟩) (.cons (show RelV _ _ from ⟨_, rfl⟩) (.nil))))
    | 4, hj, hr => by cases hj; cases hr; exact tupK lk_FORMS_4 (by show 3 ≤ sizeLine; decide) (.cons (show RelV _ _ from ⟨_, rfl⟩) (.cons (show RelV _ _ from ⟨_, rfl⟩) (.cons (show RelV _ _ from ⟨_, rfl⟩) (.nil))))
    | 5, hj, hr => by cases hj; cases hr; exact tupK lk_FORMS_5 (by show 3 ≤ sizeLine; decide) (.cons (show RelV _ _ from ⟨_, rfl⟩) (.cons (show RelV _ _ from ⟨_, rfl⟩) (.cons (show RelV _ _ from ⟨_, rfl⟩) (.nil))))
    | 6, hj, hr => by cases hj; cases hr; exact tupK lk_FORMS_6 (by show 3 ≤ sizeLine; decide) (.cons (show RelV _ _ from ⟨_, rfl⟩) (.cons (show RelV _ _ from ⟨_, rfl⟩) (.cons (show RelV _ _ from ⟨_, rfl⟩) (.nil))))
    | 7, hj, hr => by cases hj; cases hr; exact tupK lk_FORMS_7 (by show 3 ≤ sizeLine; decide) (.cons (show RelV _ _ from ⟨_, rfl⟩) (.cons (show RelV _ _ from ⟨_, rfl⟩) (.cons (show RelV _ _ from ⟨_, rfl⟩) (.nil))))
    | 8, hj, hr => by cases hj; cases hr; exact tupK lk_FORMS_8 (by show 3 ≤ sizeLine; decide) (.cons (show RelV _ _ from ⟨_, rfl⟩) (.cons (show RelV _ _ from ⟨_, rfl⟩) (.cons (show RelV _ _ from ⟨_, rfl⟩) (.nil))))
    | 9, hj, hr => by cases hj; cases hr; exact tupK lk_FORMS_9 (by show 3 ≤ sizeLine; decide) (.cons (show RelV _ _ from ⟨_, rfl⟩) (.cons (show RelV _ _ from ⟨_, rfl⟩) (.cons (show RelV _ _ from ⟨_, rfl⟩) (.nil))))
    | 10, hj, hr => by cases hj; cases hr; exact tupK lk_FORMS_10 (by show 3 ≤ sizeLine; decide) (.cons (show RelV _ _ from ⟨_, rfl⟩) (.cons (show RelV _ _ from ⟨_, rfl⟩) (.cons (show RelV _ _ from ⟨_, rfl⟩) (.nil))))
    | 11, hj, hr => by cases hj; cases hr; exact tupK lk_FORMS_11 (by show 3 ≤ sizeLine; decide) (.cons (show RelV _ _ from ⟨_, rfl⟩) (.cons (show RelV _ _ from ⟨_, rfl⟩) (.cons (show RelV _ _ from ⟨_, rfl⟩) (.nil))))
    | 12, hj, hr => by cases hj; cases hr; exact tupK lk_FORMS_12 (by show 3 ≤ sizeLine; decide) (.cons (show RelV _ _ from ⟨_, rfl⟩) (.cons (show RelV _ _ from ⟨_, rfl⟩) (.cons (show RelV _ _ from ⟨_, rfl⟩) (.nil))))
    | 13, hj, hr => by cases hj; cases hr; exact tupK lk_FORMS_13 (by show 3 ≤ sizeLine; decide) (.cons (show RelV _ _ from ⟨_, rfl⟩) (.cons (show RelV _ _ from ⟨_, rfl⟩) (.cons (show RelV _ _ from ⟨_, rfl⟩) (.nil))))
    | j + 14, hj, _ => by simp at hj⟩
  i_LONGEST_TEXT := ⟨_, PySem.W.mg_of X G z_LONGEST_TEXT⟩
  i_LARGEST_FITTING := ⟨_, PySem.W.mg_of X G z_LARGEST_FITTING⟩
  i_SMALLEST_FITTING := ⟨_, PySem.W.mg_of X G z_SMALLEST_FITTING⟩
  i_MOST_SIZES := ⟨_, PySem.W.mg_of X G z_MOST_SIZES⟩
  i_LARGEST_SIZE := ⟨_, PySem.W.mg_of X G z_LARGEST_SIZE⟩
  i_MOST_BREAKS := ⟨_, PySem.W.mg_of X G z_MOST_BREAKS⟩
  i_LONGEST_SIDE := ⟨_, PySem.W.mg_of X G z_LONGEST_SIDE⟩
  i_MOST_AREAS := ⟨_, PySem.W.mg_of X G z_MOST_AREAS⟩
  i_SMALLEST_SCALE := ⟨_, PySem.W.mg_of X G z_SMALLEST_SCALE⟩
  i_LARGEST_SCALE := ⟨_, PySem.W.mg_of X G z_LARGEST_SCALE⟩
  i_MOST_BANDS := ⟨_, PySem.W.mg_of X G z_MOST_BANDS⟩
  i_FARTHEST_FIRST_NUMBER := ⟨_, PySem.W.mg_of X G z_FARTHEST_FIRST_NUMBER⟩
  g_QUESTIONS := PySem.W.mg_of X G z_QUESTIONS
  s_QUESTIONS := fun H => tupK lk_QUESTIONS (by show 4 ≤ sizeLine; decide) (.cons (show RelV _ _ from ⟨_, rfl⟩) (.cons (show RelV _ _ from ⟨_, rfl⟩) (.cons (show RelV _ _ from ⟨_, rfl⟩) (.cons (show RelV _ _ from ⟨_, rfl⟩) (.nil)))))
  bl_abs := PySem.W.mg_none_of X G v_abs
  bl_len := PySem.W.mg_none_of X G v_len
  bl_min := PySem.W.mg_none_of X G v_min
  bl_ord := PySem.W.mg_none_of X G v_ord
  bl_range := PySem.W.mg_none_of X G v_range
  bl_str := PySem.W.mg_none_of X G v_str
  bl_tuple := PySem.W.mg_none_of X G v_tuple
end Sh

namespace Sh
open PySem PySem.Spec PyProof.Rows L2
open PySem.W (Codec)
/-! ### words that the layer lacks -/
section
variable {X : Cx} {C : Addr} {bmB : List Value} {B newId initId : String}
/-- X() -/
theorem pmk_own0 {x : Str} {p pos : Pos} (F : ExcBaseFacts B newId initId bmB) (q : PySem.W.excIn X.K C bmB newId = true) (gC : X.mg x = some (.ref C)) (kC : PySem.W.keepIn X.K (.ref C) = true) (r : Raises X (.ref C)) (hg : Gl X x)
    (hdb : (x == ("__debug__" : Str)) = false := by decide) : PMk X (.Call (.Name x p) [] [] pos) (fun _ H Q => Q (.ref C) none H) := by
  intro pins s σ H Q I h
  refine wpAny_Call_Name_kw (ld_glob I hg gC ?_ hdb)
  refine PySem.W.callWith_K0 I.kIn kC ?_
  show wpAny _ _ (call (.ref C) []) _ _ _
  obtain ⟨bm, N, nm, qn, bs, hdct, sn, sub, ab, col, dd, k0, k1, k2, k3, k5, mN, hC, hN, hni, T⟩ := exc_obj I.kIn q
  refine wpAny_call_exc_subT F T hC hN hni (fun h' e hm => ?_) (Nat.zero_le _)
  exact mk_of I hm r h (I.hok.gone hm.new)
end
/-- o.m(e, ..) within a try: what it raises is wished for at the slots as they stand -/
def tMethS (C : Addr) (m : Str) (sp : Sp) (E : L2.St → XK) (ta : TE) (t : TA) : TE := fun σ H Q => ta σ H fun x H1 => ∃ a dx fs, x = .ref a ∧ H1 a = some (.ins C dx fs) ∧ fs.lookup m = none ∧ t σ H1 fun vs H2 => sp (x :: vs) H2 Q (E σ)
theorem pe_methS {X : Cx} {CX : CXT} {k : Nat} {f C : Addr} {fd : FuncData} {ps : List Str} {sp : Sp} {E : L2.St → XK} {m : Str} {pos apos : Pos} {e o : Expr} {es : List Expr} {ta : TE} {t : TA} {pl : Sem Bool} (he : PE X o ta) (c : Cls X.K C) (hm : Meth X.K C m f)
    (F : FnOk X.prog X.w X.K X.mg X.base CX k f fd ps sp) (hr : Room k X.A) (hb : Binds X.K fd ps []) (hx : ∀ σ, PassesAt CX X σ (E σ)) (ha : PA X (e :: es) t)
    (hst : starEach (e :: es) X.env = (false, eval e X.env) :: starEach es X.env := by rfl) (hpl : (backTo pos (starEach es X.env)).any (·.1) = false := by rfl)
    (ht : eval (.Call (.Attribute o m apos) (e :: es) [] pos) X.env = (do
      let ov ← eval o X.env
      standAt apos.atName
      let (f, first) ← holding [ov] (getMethod ov m pl)
      callWith pos f first (backTo pos (starEach (e :: es) X.env)) (backToKw pos (keywordEach [] X.env))) := by rfl) :
    PE X (.Call (.Attribute o m apos) (e :: es) [] pos) (tMethS C m sp E ta t) := by
  refine ⟨fun pins s σ H Q I h => ?_⟩
  refine PySem.W.methodCall_KW (pl := pl) (thn (he.run pins s σ H _ I h) fun u s1 ⟨x, H1, I1, rx, a, dx, fs, ex, ea, l, q⟩ => ?_) ht
  subst ex
  obtain rfl : u = Value.ref a := rx
  refine getmeth_ok I1 ea c hm l ?_
  refine PySem.W.callWith_K (first := [.ref a]) (h₀ := X.base) I.ok.mod.kin hm.kp (thn (ha.run pos pins s1 σ H1 _ I1 q) fun us s2 ⟨vs, H2, I2, r, q2⟩ => ⟨I2.kIn, ?_⟩) hst hpl
  exact run_fnS (us := .ref a :: us) (vs := .ref a :: vs) F hr hb (hx σ) I2 (.cons rfl r) q2
/-- an if whose test is known -/
theorem if_true_of {c : Bool} {A B : Prop} (hc : c = true) (h : A) : if c = true then A else B := by
  rw [if_pos hc]
  exact h
theorem if_false_of {c : Bool} {A B : Prop} (hc : c = false) (h : B) : if c = true then A else B := by
  rw [hc, if_neg Bool.false_ne_true]
  exact h
/-- a def that is proved, with how its arguments bind -/
structure Ok (P : Program) (w : World) (K : PySem.W.Frag) (mg : Str → Option Value) (base : Heap) (CX : CXT) (k : Nat) (f : Addr) (ps : List Str) (sp : Sp) : Prop where
  ex : ∃ fd, Binds K fd ps [] ∧ FnOk P w K mg base CX k f fd ps sp
theorem ixN_of {n j : Nat} (hj : j < n) : ixN n (j : Int) = some j := by
  unfold ixN
  rw [if_pos (by omega), if_pos (by omega)]
  simp
end Sh

namespace Sh
open PySem PySem.Spec PyProof.Rows L2
open PySem.W (Codec)
/-- a list longer by a tuple's items, however the tuple lies -/
theorem extend_list_tupG (la ta : Addr) (xs ys : Array Value) (m k : Nat) (td : Option Addr) (ts : Array (Option Value)) (no : ¬(!xs.isEmpty && Builtin.List.listTooLong (xs.size + ys.size)) = true) (le1 : xs.size ≤ sizeLine) (le2 : xs.size + ys.size ≤ sizeLine + 1) :
    Meets (Builtin.«list.extend» ⟨[.ref la, .ref ta], []⟩) (fun _ R z => z.heap.get? la = some { cls := .type "list", dict := none, data := .seq xs m, slots := #[] } ∧ z.heap.get? ta = some { cls := .type "tuple", dict := td, data := .seq ys k, slots := ts } ∧ R (.ok (.ret Value.none)) { z with heap := z.heap.update la (Obj.mapSeq fun x => x ++ ys), toks := z.toks }) := by
  refine .of_wp fun _ _ _ _ st given => ?_
  cases st with
  | mk heap0 gens0 drawn0 toks0 os0 =>
    obtain ⟨atL, atT, given⟩ := given
    have fits2 : (xs ++ ys).size ≤ sizeLine + 1 := Nat.le_trans (Nat.le_of_eq Array.size_append) le2
    have g1 := PySem.AutoSeq1.idx_int
    have g2 := PySem.AutoSeq1.sub_tuple_tuple
    have g3 := PySem.AutoSeq1.sub_list_list
    have g4 := PySem.AutoSeq1.sub_tuple_list
    have g5 := PySem.AutoSeq1.sub_list_tuple
    wp_walk using (wpAny_updateSeq atL rfl (hz := le1) (_hz' := fits2)), PySem.AutoSeq1.wpAny_loadPart' atL, PySem.AutoSeq1.wpAny_loadPart' atT
    exact ⟨_, rfl, given⟩
section
variable {X : Cx}
/-- xs.extend(t), t a tuple -/
def rExtendT (K : PySem.W.Frag) : V → List V → Hp → VK → Prop := fun x vs H Q => ∃ l b xs zs, x = .ref l ∧ vs = [.ref b] ∧ H l = some (.lst xs) ∧ SqT K H b zs ∧ xs.length + zs.length ≤ sizeLine ∧ Q .non (upd H l (.lst (xs ++ zs)))
theorem mt_extendT : MtM X "list.extend" (rExtendT X.K) := by
  rintro pins s σ H x vs v us Q iv rx rv ⟨l, b, xs, zs, rfl, rfl, atL, atB, room, rest⟩
  cases rx
  obtain ⟨u, rfl, ru⟩ := rv.one
  cases ru
  obtain ⟨_, its, n, rl, len1, objL⟩ := iv.lstM atL
  obtain ⟨jts, rt, ⟨⟨cl, td, dt, sl⟩, objT, e3, k, e4⟩, _⟩ := iv.tuple atB
  have len2 := rt.length
  dsimp only at e3 e4
  subst e3 e4
  have both : its.toArray.size + jts.toArray.size ≤ sizeLine := by simp only [List.size_toArray]; omega
  have short : ¬ (!its.toArray.isEmpty && Builtin.List.listTooLong (its.toArray.size + jts.toArray.size)) = true := fun z => by
    rw [notLongL both] at z
    simp at z
  refine call_meets F.slot_list_extend ⟨_, objL, rfl⟩ F.entry_list_extend (F.args_list_extend_2 _ _) (extend_list_tupG l b its.toArray jts.toArray n k td sl short (by simp only [List.size_toArray]; omega) (by omega)) ⟨objL, objT, ?_⟩
  exact ⟨.non, _, iv.lset (its' := its ++ jts) atL objL (by simp) (rl.append rt) (by rw [List.length_append]; omega), rfl, rest⟩
end
end Sh

namespace Sh
open PySem PySem.Spec PyProof.Rows L2
open PySem.W (Codec)
def rAdd : R2 := rI0 fun i j => .int (i + j)
/-! ### how a way lies in the heap: the specification's own record is the mirror -/
def szV (w : Si32.Way) : List V := (List.range w.most).map fun i => V.int (w.size i : Nat)
def TitV (K : PySem.W.Frag) (H : Hp) (tv : V) : Option (Nat × Nat) → Prop
  | none => tv = .non
  | some p => ∃ t, tv = .ref t ∧ H t = some (.tup [.int p.1, .int p.2])
theorem rep_sz (n s : Nat) : (List.replicate (n : Int).toNat [V.int s]).flatten = szV ⟨n, s, [], none, []⟩ := by
  have e : (n : Int).toNat = n := Int.toNat_natCast n
  rw [e]
  unfold szV
  show _ = (List.range n).map fun i => V.int ((Si32.Way.size ⟨n, s, [], none, []⟩ i : Nat) : Int)
  have q : (fun i => V.int ((Si32.Way.size ⟨n, s, [], none, []⟩ i : Nat) : Int)) = fun _ => V.int (s : Int) := by
    funext i; rfl
  rw [q]
  clear q e
  induction n with
  | zero => rfl
  | succ n ih => rw [List.replicate_succ, List.flatten_cons, List.range_succ_eq_map, List.map_cons, List.map_map, ih]; rfl
structure WayAt (K : PySem.W.Frag) (C : Addr) (H : Hp) (a L bd : Addr) (w : Si32.Way) (edge space : Int) (mid : Bool) : Prop where
  ob : ∃ dx tv, H a = some (.ins C dx (F_WaySettings (.int w.most) (.ref L) (.int w.told.length) (.int edge) (.int space) (.bl mid) tv (.ref bd))) ∧ TitV K H tv w.titles
  sz : H L = some (.lst (szV w))
  br : ∃ kvs, H bd = some (.dK kvs) ∧ kvs.length ≤ w.breaks.length ∧ ∀ i : Nat, (valV kvs (Sum.inl (i : Int))).isSome = w.breaks.contains i
section
variable {P : Program} {w : World} {K : PySem.W.Frag} {mg : Str → Option Value} {base : Heap} {A : Ad}

/-! ### WaySettings.__init__ -/
def spWayInit (K : PySem.W.Frag) (A : Ad) : Sp := fun vs H Q _ => ∃ (p dx : Addr) (n s : Nat), vs = [.ref p, .int n, .int s] ∧ H p = some (.ins A.C_WaySettings dx []) ∧ n ≤ 5000 ∧
  ∀ (H' : Hp) (L bd : Addr), WayAt K A.C_WaySettings H' p L bd ⟨n, s, [], none, []⟩ 0 0 false → H L = none → H bd = none → (∀ b o, H b = some o → b ≠ p → H' b = some o) → Q .non H'
theorem ok_WayInit (T : Txt K mg A) : Ok P w K mg base CX0 1 A.f_WaySettings__init_ p_WaySettings__init_ (spWayInit K A) := by
  obtain ⟨fd, F, B⟩ := T.fn_WaySettings__init_.ex
  have nd := sc_WaySettings__init_.nd
  refine ⟨fd, B, F.ok sc_WaySettings__init_ (fun vs H Q E h => ?_) (fun cdv A' outer s H vs Q E hr h => ⟨_,
      (pss_cons (ps_fld (pv 0) (pv 1) rfl)
      (pss_cons (ps_fld (pv 0) (pe_op op_rep (pe_lst (pa_cons (pv 2) pa_nil)) (pv 1)) rfl)
      (pss_cons (ps_fld (pv 0) pe_int rfl)
      (pss_cons (ps_fld (pv 0) pe_int rfl)
      (pss_cons (ps_fld (pv 0) pe_int rfl)
      (pss_cons (ps_fld (pv 0) pe_bl rfl)
      (pss_cons (ps_fld (pv 0) pe_non rfl)
      (pss_one (ps_fld (pv 0) pe_dnewK rfl))))))))), ?_⟩)⟩
  · obtain ⟨p, dx, n, s, rfl, _⟩ := h
    rfl
  · obtain ⟨p, dx, n, s, rfl, hp, hn, k⟩ := h
    refine ⟨_, rfl, _, rfl, p, _, dx, _, rfl, hp, T.c_WaySettings, T.na_WaySettings_place_count, by decide, ?_⟩
    rw [nw_WaySettings_0]
    refine ⟨_, rfl, by show 1 ≤ sizeLine; decide, fun l hl => ?_⟩
    have pl : p ≠ l := ne_of_none upd_same hl
    refine ⟨_, rfl, l, n, [.int s], rfl, rfl, upd_same, by omega, by omega, by show 1 * (n : Int).toNat ≤ sizeLine; rw [sizeLine_eq]; omega, fun L hL => ?_⟩
    rw [rep_sz n s]
    have pL : p ≠ L := ne_of_none ((upd_ne pl).trans upd_same) hL
    refine ⟨_, rfl, p, _, dx, _, rfl, by rw [upd_ne pL, upd_ne pl]; exact upd_same, T.c_WaySettings, T.na_WaySettings_sizes, of_decide_eq_true rfl, ?_⟩
    rw [nw_WaySettings_1]
    refine ⟨_, rfl, p, _, dx, _, rfl, upd_same, T.c_WaySettings, T.na_WaySettings_sizes_told, of_decide_eq_true rfl, ?_⟩
    rw [nw_WaySettings_2]
    refine ⟨_, rfl, p, _, dx, _, rfl, upd_same, T.c_WaySettings, T.na_WaySettings_edge, of_decide_eq_true rfl, ?_⟩
    rw [nw_WaySettings_3]
    refine ⟨_, rfl, p, _, dx, _, rfl, upd_same, T.c_WaySettings, T.na_WaySettings_space, of_decide_eq_true rfl, ?_⟩
    rw [nw_WaySettings_4]
    refine ⟨_, rfl, p, _, dx, _, rfl, upd_same, T.c_WaySettings, T.na_WaySettings_in_middle, of_decide_eq_true rfl, ?_⟩
    rw [nw_WaySettings_5]
    refine ⟨_, rfl, p, _, dx, _, rfl, upd_same, T.c_WaySettings, T.na_WaySettings_titles, of_decide_eq_true rfl, ?_⟩
    rw [nw_WaySettings_6]
    intro bd hbd
    have pb : p ≠ bd := ne_of_none upd_same hbd
    refine ⟨_, rfl, p, _, dx, _, rfl, (upd_ne pb).trans upd_same, T.c_WaySettings, T.na_WaySettings_breaks, of_decide_eq_true rfl, ?_⟩
    rw [nw_WaySettings_7]
    simp only [upd_upd] at hbd ⊢
    have bL : bd ≠ L := fun z => by rw [z, upd_ne (Ne.symm pL), upd_same] at hbd; cases hbd
    have bl : bd ≠ l := fun z => by rw [z, upd_ne (Ne.symm pl), upd_ne (fun z' => by rw [← z', upd_same] at hL; cases hL), upd_same] at hbd; cases hbd
    have Ll : L ≠ l := fun z => by rw [z, upd_same] at hL; cases hL
    have h1 : H L = none := by rw [upd_ne Ll, upd_ne (Ne.symm pL)] at hL; exact hL
    have h2 : H bd = none := by rw [upd_ne (Ne.symm pb), upd_ne bL, upd_ne bl, upd_ne (Ne.symm pb)] at hbd; exact hbd
    have h3 : H l = none := by rw [upd_ne (Ne.symm pl)] at hl; exact hl
    refine k _ L bd ⟨⟨dx, .non, upd_same, rfl⟩, ?_, [], ?_, Nat.le_refl _, fun i => rfl⟩ h1 h2 fun b o e hb => ?_
    · rw [upd_ne (Ne.symm pL), upd_ne (Ne.symm bL), upd_ne (Ne.symm pL)]; exact upd_same
    · rw [upd_ne (Ne.symm pb)]; exact upd_same
    · rw [upd_ne hb, upd_ne (ne_of_none e h2), upd_ne hb, upd_ne (ne_of_none e h1), upd_ne (ne_of_none e h3), upd_ne hb]; exact e
/-! ### WaySettings.check_span -/
def badSpan (n a b : Nat) : Prop := b < a ∨ n ≤ b
instance (n a b : Nat) : Decidable (badSpan n a b) := inferInstanceAs (Decidable (_ ∨ _))
def spCheck (A : Ad) : Sp := fun vs H Q E => ∃ (p dx : Addr) (n a b : Nat) (v1 v2 v3 v4 v5 v6 v7 : V), vs = [.ref p, .int a, .int b] ∧ H p = some (.ins A.C_WaySettings dx (F_WaySettings (.int n) v1 v2 v3 v4 v5 v6 v7)) ∧
  (badSpan n a b → E (.ref A.X_OutOfRange) none H) ∧ (¬ badSpan n a b → Q .non H)
theorem ok_Check (T : Txt K mg A) : Ok P w K mg base (L2.CX P w) 1 A.f_WaySettings_check_span p_WaySettings_check_span (spCheck A) := by
  obtain ⟨fd, F, B⟩ := T.fn_WaySettings_check_span.ex
  have nd := sc_WaySettings_check_span.nd
  refine ⟨fd, B, F.okX sc_WaySettings_check_span (fun vs H Q E h => ?_) (fun cdv A' outer s H vs Q E hr h => ?_)⟩
  · obtain ⟨p, dx, n, a, b, v1, v2, v3, v4, v5, v6, v7, rfl, _⟩ := h
    rfl
  · have tkE := takes_of (X := cxOf (L2.CX P w) P w K mg base n_WaySettings_check_span "WaySettings.check_span" (defScope s_WaySettings_check_span) A.f_WaySettings_check_span cdv A' outer s H E) rfl rfl rfl rfl
    refine ⟨_, (pss_one (ps_if (PW.pt (pw_or (pt_cmpR op_gt (pv 1) (pv 2) (nomark _)) (pw_or1 (pt_cmpR op_ge (pv 2) (pe_fld (pv 0) rfl) (nomark _))))) (pss_one (ps_raise rfl tkE (pmk_own0 PySem.F.excBase_Exception T.x_OutOfRange T.g_OutOfRange T.k_OutOfRange (raises_own T.b_OutOfRange T.t_OutOfRange) (by exact rfl)))) pss_nil)), ?_⟩
    obtain ⟨p, dx, n, a, b, v1, v2, v3, v4, v5, v6, v7, rfl, hp, h1, h2⟩ := h
    refine ⟨_, rfl, _, rfl, _, _, rfl, rfl, _, rfl, ite2 (fun c => iteT (h1 (.inl (by simpa using c)))) (fun c => ?_)⟩
    refine ⟨_, rfl, _, rfl, _, _, dx, _, _, rfl, hp, T.c_WaySettings, T.na_WaySettings_place_count, lk_WaySettings_place_count, _, _, rfl, rfl, _, rfl, ite2 (fun c2 => h1 (.inr (by simpa using c2))) (fun c2 => h2 (fun z => ?_))⟩
    simp only [decide_eq_true_eq] at c c2
    unfold badSpan at z
    omega
/-! ### WaySettings.set_size -/
def spSetSize (K : PySem.W.Frag) (A : Ad) : Sp := fun vs H Q E => ∃ (p L bd : Addr) (w : Si32.Way) (ed sp : Int) (md : Bool) (a b n : Nat), vs = [.ref p, .int a, .int b, .int n] ∧ WayAt K A.C_WaySettings H p L bd w ed sp md ∧ w.most ≤ 5000 ∧
  ((b < a ∨ w.most ≤ b ∨ 10000 < n) → E (.ref A.X_OutOfRange) none H) ∧ (¬ (b < a ∨ w.most ≤ b ∨ 10000 < n) → 200 ≤ w.told.length → E (.ref A.X_TooMany) none H) ∧
  (¬ (b < a ∨ w.most ≤ b ∨ 10000 < n) → w.told.length < 200 → ∀ H' : Hp, WayAt K A.C_WaySettings H' p L bd { w with told := (a, b, n) :: w.told } ed sp md → (∀ c o, H c = some o → c ≠ p → c ≠ L → H' c = some o) → Q .non H')
theorem size_cons (w : Si32.Way) (a b n i : Nat) : Si32.Way.size { w with told := (a, b, n) :: w.told } i = if a ≤ i ∧ i ≤ b then n else w.size i := by
  unfold Si32.Way.size
  rw [List.find?_cons]
  by_cases h : a ≤ i ∧ i ≤ b
  · rw [if_pos h]
    have e : (decide ((a, b, n).1 ≤ i) && decide (i ≤ (a, b, n).2.1)) = true := by simp [h.1, h.2]
    rw [e]
  · rw [if_neg h]
    have e : (decide ((a, b, n).1 ≤ i) && decide (i ≤ (a, b, n).2.1)) = false := by
      simp only [Bool.and_eq_false_iff, decide_eq_false_iff_not]
      omega
    rw [e]
/-- sizes, with those from a on, so many, set to n -/
def szTo (w : Si32.Way) (a k n : Nat) : List V := (List.range w.most).map fun i => V.int ((if a ≤ i ∧ i < a + k then n else w.size i : Nat) : Int)
theorem szTo_zero (w : Si32.Way) (a n : Nat) : szTo w a 0 n = szV w := by
  unfold szTo szV
  refine List.map_congr_left fun i _ => ?_
  rw [if_neg (by omega)]
theorem szTo_succ (w : Si32.Way) (a k n : Nat) : (szTo w a k n).set (a + k) (V.int n) = szTo w a (k + 1) n := by
  refine List.ext_getElem? fun i => ?_
  unfold szTo
  rw [List.getElem?_set]
  simp only [List.length_map, List.length_range, List.getElem?_map]
  by_cases hi : i < w.most
  · rw [List.getElem?_range hi]
    simp only [Option.map_some]
    by_cases e : a + k = i
    · rw [if_pos e, if_pos (by omega), if_pos (by omega)]
    · rw [if_neg e]
      by_cases h : a ≤ i ∧ i < a + k
      · rw [if_pos h, if_pos (by omega)]
      · rw [if_neg h, if_neg (by omega)]
  · have hn : (List.range w.most)[i]? = none := by rw [List.getElem?_eq_none_iff, List.length_range]; omega
    rw [hn]
    simp only [Option.map_none]
    by_cases e : a + k = i
    · rw [if_pos e, if_neg (by omega)]
    · rw [if_neg e]
theorem szTo_all (w : Si32.Way) (a b n : Nat) (h : a ≤ b) : szTo w a (b + 1 - a) n = szV { w with told := (a, b, n) :: w.told } := by
  unfold szTo szV
  refine List.map_congr_left fun i _ => ?_
  rw [size_cons]
  by_cases h : a ≤ i ∧ i ≤ b
  · rw [if_pos h, if_pos (by omega)]
  · rw [if_neg h, if_neg (by omega)]
theorem ok_SetSize (T : Txt K mg A) : Ok P w K mg base (L2.CX P w) 2 A.f_WaySettings_set_size p_WaySettings_set_size (spSetSize K A) := by
  obtain ⟨fd, F, B⟩ := T.fn_WaySettings_set_size.ex
  have nd := sc_WaySettings_set_size.nd
  obtain ⟨_, B_WaySettings_check_span, G_WaySettings_check_span⟩ := (ok_Check (P := P) (w := w) (base := base) T).ex
  obtain ⟨t1, h_LARGEST_SIZE⟩ := T.i_LARGEST_SIZE
  obtain ⟨t2, h_MOST_SIZES⟩ := T.i_MOST_SIZES
  refine ⟨fd, B, F.okX sc_WaySettings_set_size (fun vs H Q E h => ?_) (fun cdv A' outer s H vs Q E hr h => ?_)⟩
  · obtain ⟨p, L, bd, w, ed, sp, md, a, b, n, rfl, _⟩ := h
    rfl
  · have tkE := takes_of (X := cxOf (L2.CX P w) P w K mg base n_WaySettings_set_size "WaySettings.set_size" (defScope s_WaySettings_set_size) A.f_WaySettings_set_size cdv A' outer s H E) rfl rfl rfl rfl
    have pX := passes_call tkE (E := E) (fun _ _ _ _ h => h)
    have pown := passes_of (X := cxOf (L2.CX P w) P w K mg base n_WaySettings_set_size "WaySettings.set_size" (defScope s_WaySettings_set_size) A.f_WaySettings_set_size cdv A' outer s H E) rfl
    refine ⟨_, 
      (pss_cons (ps_expr (pe_meth (pv 0) T.c_WaySettings T.m_WaySettings_check_span G_WaySettings_check_span hr B_WaySettings_check_span .nil pX (pa_cons (pv 1) (pa_cons (pv 2) pa_nil))))
      (pss_cons (ps_if (pt_cmpR op_gt (pv 3) (pe_glob (v := .int 10000) rfl h_LARGEST_SIZE ⟨_, rfl⟩) (nomark _)) (pss_one (ps_raise rfl tkE (pmk_own0 PySem.F.excBase_Exception T.x_OutOfRange T.g_OutOfRange T.k_OutOfRange (raises_own T.b_OutOfRange T.t_OutOfRange) (by exact rfl)))) pss_nil)
      (pss_cons (ps_if (pt_cmpR op_ge (pe_fld (pv 0) rfl) (pe_glob (v := .int 200) rfl h_MOST_SIZES ⟨_, rfl⟩) (nomark _)) (pss_one (ps_raise rfl tkE (pmk_own0 PySem.F.excBase_Exception T.x_TooMany T.g_TooMany T.k_TooMany (raises_own T.b_TooMany T.t_TooMany) (by exact rfl)))) pss_nil)
      (pss_cons (ps_for pown rfl (pi_range2 (by rfl) T.bl_range (pa_cons (pv 1) (pa_cons (pe_op op_add (pv 2) pe_int) pa_nil))) (pg_name (i := 4) nd rfl (Or.inl rfl)) (pss_one (ps_asg (pv 3) (pg_sub (pe_fld (pv 0) rfl) (pv 4) set_list))))
      (pss_one (ps_fldaug (pv 0) pe_int in_add)))))), ?_⟩
    obtain ⟨p, L, bd, w, ed, sp, md, a, b, n, rfl, ⟨⟨dx, tv, hp, ht⟩, hL, kvs, hb, hk⟩, hm, e1, e2, k⟩ := h
    refine ⟨_, rfl, p, dx, _, rfl, hp, nm_WaySettings_check_span, _, rfl, _, rfl, p, dx, w.most, a, b, _, _, _, _, _, _, _, rfl, hp, fun c => e1 ?_, fun c => ?_⟩
    · rcases c with c | c
      · exact .inl c
      · exact .inr (.inl c)
    refine ⟨_, rfl, _, _, rfl, rfl, _, rfl, ite2 (fun c2 => e1 (.inr (.inr (by simp only [decide_eq_true_eq] at c2; omega)))) (fun c2 => ?_)⟩
    have ok : ¬ (b < a ∨ w.most ≤ b ∨ 10000 < n) := by
      simp only [decide_eq_true_eq] at c2
      unfold badSpan at c
      omega
    refine ⟨_, rfl, p, _, dx, _, _, rfl, hp, T.c_WaySettings, T.na_WaySettings_sizes_told, lk_WaySettings_sizes_told, _, _, rfl, rfl, _, rfl, ite2 (fun c3 => e2 ok (by simp only [decide_eq_true_eq] at c3; omega)) (fun c3 => ?_)⟩
    have pL : p ≠ L := ne_of hp hL (by intro z; cases z)
    have bL : bd ≠ L := ne_of hb hL (by intro z; cases z)
    have pb : bd ≠ p := ne_of hb hp (by intro z; cases z)
    refine ⟨_, rfl, _, rfl, _, _, rfl, rfl, a, (b + 1 : Int), rfl, ⟨by omega, by omega, by omega, by omega⟩, ?_⟩
    refine for_range (lo := (a : Int)) (n := ((b + 1 : Int) - a).toNat) (fun i σ H' => (∃ x, σ = [some (.ref p), some (.int a), some (.int b), some (.int n), x]) ∧ H' L = some (.lst (szTo w a i n)) ∧ ∀ c o, H c = some o → c ≠ L → H' c = some o) ⟨⟨_, rfl⟩, by rw [szTo_zero]; exact hL, fun _ _ h _ => h⟩ ?_ ?_
    · rintro i σ H' hi ⟨⟨x, rfl⟩, s1, s2⟩
      refine ⟨_, rfl, _, rfl, p, _, dx, _, _, rfl, s2 _ _ hp pL, T.c_WaySettings, T.na_WaySettings_sizes, lk_WaySettings_sizes, _, rfl, L, _, _, a + i, rfl, rfl, s1, ?_, ⟨⟨_, rfl⟩, ?_, ?_⟩⟩
      · rw [show ((a : Int) + (i : Int)) = ((a + i : Nat) : Int) by omega]
        refine ixN_of ?_
        show a + i < (List.map _ _).length
        rw [List.length_map, List.length_range]
        omega
      · rw [upd_same, szTo_succ]
      · intro c o hc hcL
        rw [upd_ne hcL]; exact s2 c o hc hcL
    · rintro σ H' ⟨⟨x, rfl⟩, s1, s2⟩
      refine ⟨_, rfl, p, _, dx, _, _, rfl, s2 _ _ hp pL, T.c_WaySettings, T.na_WaySettings_sizes_told, lk_WaySettings_sizes_told, _, _, rfl, rfl, _, _, s2 _ _ hp pL, of_decide_eq_true rfl, ?_⟩
      rw [put_WaySettings_sizes_told]
      refine k ok (by simp only [decide_eq_true_eq] at c3; omega) _ ⟨⟨dx, tv, upd_same, ?_⟩, ?_, kvs, ?_, hk⟩ fun c o hc h1 h2 => ?_
      · revert ht
        unfold TitV
        show _ → match w.titles with | none => _ | some p => _
        cases w.titles with
        | none => exact fun z => z
        | some q =>
          rintro ⟨t, rfl, h⟩
          refine ⟨t, rfl, ?_⟩
          rw [upd_ne (ne_of h hp (by intro z; cases z))]
          exact s2 _ _ h (ne_of h hL (by intro z; cases z))
      · rw [upd_ne (Ne.symm pL), s1, show ((b + 1 : Int) - a).toNat = b + 1 - a by omega, szTo_all w a b n (by omega)]
      · rw [upd_ne pb]
        exact s2 _ _ hb bL
      · rw [upd_ne h1]
        exact s2 c o hc h2
theorem TitV.keep {K : PySem.W.Frag} {H H' : Hp} {tv : V} {o : Option (Nat × Nat)} (h : TitV K H tv o) (k : ∀ t xs, H t = some (.tup xs) → H' t = some (.tup xs)) : TitV K H' tv o := by
  cases o with
  | none => exact h
  | some q =>
    obtain ⟨t, rfl, h⟩ := h
    exact ⟨t, rfl, k _ _ h⟩
/-! ### WaySettings.set_titles -/
def spTitles (K : PySem.W.Frag) (A : Ad) : Sp := fun vs H Q E => ∃ (p L bd q : Addr) (w : Si32.Way) (ed sp : Int) (md : Bool) (t : Option (Nat × Nat)), vs = [.ref p, .ref q] ∧ WayAt K A.C_WaySettings H p L bd w ed sp md ∧
  SqL K H q (match t with | none => [] | some t => [.int t.1, .int t.2]) ∧
  ((t.all fun x => decide (x.1 ≤ x.2) && decide (x.2 < w.most)) = false → E (.ref A.X_OutOfRange) none H) ∧
  (¬ (t.all fun x => decide (x.1 ≤ x.2) && decide (x.2 < w.most)) = false → ∀ H' : Hp, WayAt K A.C_WaySettings H' p L bd { w with titles := t } ed sp md → (∀ c o, H c = some o → c ≠ p → H' c = some o) → Q .non H')
theorem ok_Titles (T : Txt K mg A) : Ok P w K mg base (L2.CX P w) 2 A.f_WaySettings_set_titles p_WaySettings_set_titles (spTitles K A) := by
  obtain ⟨fd, F, B⟩ := T.fn_WaySettings_set_titles.ex
  have nd := sc_WaySettings_set_titles.nd
  obtain ⟨_, B_WaySettings_check_span, G_WaySettings_check_span⟩ := (ok_Check (P := P) (w := w) (base := base) T).ex
  refine ⟨fd, B, F.okX sc_WaySettings_set_titles (fun vs H Q E h => ?_) (fun cdv A' outer s H vs Q E hr h => ?_)⟩
  · obtain ⟨p, L, bd, q, w, ed, sp, md, t, rfl, _⟩ := h
    rfl
  · have tkE := takes_of (X := cxOf (L2.CX P w) P w K mg base n_WaySettings_set_titles "WaySettings.set_titles" (defScope s_WaySettings_set_titles) A.f_WaySettings_set_titles cdv A' outer s H E) rfl rfl rfl rfl
    have pX := passes_call tkE (E := E) (fun _ _ _ _ h => h)
    refine ⟨_, 
      (pss_cons (ps_if (pt_cmpR op_eq (pe_callB call_len_seq (by rfl) T.bl_len PySem.boot_len (pa_cons (pv 1) pa_nil)) pe_int (nomark _)) (pss_cons (ps_fld (pv 0) pe_non rfl)
        (pss_one ps_retN)) pss_nil)
      (pss_cons (ps_expr (pe_meth (pv 0) T.c_WaySettings T.m_WaySettings_check_span G_WaySettings_check_span hr B_WaySettings_check_span .nil pX (pa_cons (pe_ix ix_list (pv 1) pe_int (fun _ _ => rfl)) (pa_cons (pe_ix ix_list (pv 1) pe_int (fun _ _ => rfl)) pa_nil))))
      (pss_one (ps_fld (pv 0) (pe_tup (pa_cons (pe_ix ix_list (pv 1) pe_int (fun _ _ => rfl)) (pa_cons (pe_ix ix_list (pv 1) pe_int (fun _ _ => rfl)) pa_nil))) rfl)))), ?_⟩
    obtain ⟨p, L, bd, q, w, ed, sp, md, t, rfl, ⟨⟨dx, tv, hp, ht⟩, hL, kvs, hb, hk⟩, hq, e1, k⟩ := h
    have Lp : L ≠ p := ne_of hL hp (by intro z; cases z)
    have bp : bd ≠ p := ne_of hb hp (by intro z; cases z)
    cases t with
    | none =>
      refine ⟨_, rfl, q, _, rfl, .inl hq, rfl, _, rfl, iteT ⟨_, rfl, p, _, dx, _, rfl, hp, T.c_WaySettings, T.na_WaySettings_titles, of_decide_eq_true rfl, ?_⟩⟩
      rw [put_WaySettings_titles]
      refine k (by simp) _ ⟨⟨dx, .non, upd_same, rfl⟩, (upd_ne Lp).trans hL, kvs, (upd_ne bp).trans hb, hk⟩ fun c o hc h1 => (upd_ne h1).trans hc
    | some t =>
      have sq : SqL K H q [.int t.1, .int t.2] := hq
      refine ⟨_, rfl, q, _, rfl, .inl sq, rfl, _, rfl, iteF ?_⟩
      refine ⟨_, rfl, p, dx, _, rfl, hp, nm_WaySettings_check_span, _, rfl, q, _, 0, _, rfl, rfl, sq, rfl, _, rfl, q, _, 1, _, rfl, rfl, sq, rfl, ?_⟩
      refine ⟨p, dx, w.most, t.1, t.2, _, _, _, _, _, _, _, rfl, hp, fun c => e1 ?_, fun c => ?_⟩
      · simp only [Option.all_some, Bool.and_eq_false_iff, decide_eq_false_iff_not]
        unfold badSpan at c
        omega
      refine ⟨_, rfl, q, _, 0, _, rfl, rfl, sq, rfl, _, rfl, q, _, 1, _, rfl, rfl, sq, rfl, by show 2 ≤ sizeLine; decide, fun t' ht' => ?_⟩
      have pt : p ≠ t' := ne_of_none hp ht'
      refine ⟨_, rfl, p, _, dx, _, rfl, (upd_ne pt).trans hp, T.c_WaySettings, T.na_WaySettings_titles, of_decide_eq_true rfl, ?_⟩
      rw [put_WaySettings_titles]
      refine k ?_ _ ⟨⟨dx, .ref t', upd_same, t', rfl, (upd_ne (Ne.symm pt)).trans upd_same⟩, (upd_ne Lp).trans ((upd_ne (ne_of_none hL ht')).trans hL), kvs, (upd_ne bp).trans ((upd_ne (ne_of_none hb ht')).trans hb), hk⟩ fun c o hc h1 => (upd_ne h1).trans ((upd_ne (ne_of_none hc ht')).trans hc)
      simp only [Option.all_some, Bool.and_eq_false_iff, decide_eq_false_iff_not]
      unfold badSpan at c
      omega
/-! ### WaySettings.set_breaks -/
def spBreaks (K : PySem.W.Frag) (A : Ad) : Sp := fun vs H Q E => ∃ (p L bd q : Addr) (w : Si32.Way) (ed sp : Int) (md : Bool) (l : List Nat), vs = [.ref p, .ref q] ∧ WayAt K A.C_WaySettings H p L bd w ed sp md ∧
  SqL K H q (l.map fun (n : Nat) => V.int (n : Int)) ∧ l.length ≤ 10000 ∧
  ((l.all fun i => decide (i < w.most)) = false → E (.ref A.X_OutOfRange) none H) ∧
  (¬ (l.all fun i => decide (i < w.most)) = false → 500 < l.length → E (.ref A.X_TooMany) none H) ∧
  (¬ (l.all fun i => decide (i < w.most)) = false → l.length ≤ 500 → ∀ (H' : Hp) (bd' : Addr), WayAt K A.C_WaySettings H' p L bd' { w with breaks := l } ed sp md → H bd' = none → (∀ c o, H c = some o → c ≠ p → H' c = some o) → Q .non H')
theorem map_get {l : List Nat} {i : Nat} {x : V} (h : (l.map fun (n : Nat) => V.int (n : Int))[i]? = some x) : ∃ n, l[i]? = some n ∧ x = .int (n : Int) := by
  rw [List.getElem?_map] at h
  cases e : l[i]? with
  | none => rw [e] at h; cases h
  | some n => rw [e] at h; exact ⟨n, rfl, (Option.some.inj h).symm⟩
theorem take_snoc {α : Type} {l : List α} {i : Nat} {x : α} (h : l[i]? = some x) : l.take (i + 1) = l.take i ++ [x] := by
  rw [List.take_add_one, h]; rfl
theorem putK_len (kvs : List (Key × V)) (k : Key) (v : V) : (putK kvs k v).length ≤ kvs.length + 1 := by
  unfold putK
  split
  · rw [List.length_map]; omega
  · rw [List.length_append]; simp
theorem ok_Breaks (T : Txt K mg A) : Ok P w K mg base (L2.CX P w) 1 A.f_WaySettings_set_breaks p_WaySettings_set_breaks (spBreaks K A) := by
  obtain ⟨fd, F, B⟩ := T.fn_WaySettings_set_breaks.ex
  have nd := sc_WaySettings_set_breaks.nd
  obtain ⟨t1, h_MOST_BREAKS⟩ := T.i_MOST_BREAKS
  refine ⟨fd, B, F.okX sc_WaySettings_set_breaks (fun vs H Q E h => ?_) (fun cdv A' outer s H vs Q E hr h => ?_)⟩
  · obtain ⟨p, L, bd, q, w, ed, sp, md, l, rfl, _⟩ := h
    rfl
  · have tkE := takes_of (X := cxOf (L2.CX P w) P w K mg base n_WaySettings_set_breaks "WaySettings.set_breaks" (defScope s_WaySettings_set_breaks) A.f_WaySettings_set_breaks cdv A' outer s H E) rfl rfl rfl rfl
    have pown := passes_of (X := cxOf (L2.CX P w) P w K mg base n_WaySettings_set_breaks "WaySettings.set_breaks" (defScope s_WaySettings_set_breaks) A.f_WaySettings_set_breaks cdv A' outer s H E) rfl
    have hu := hu_of hr
    refine ⟨_, 
      (pss_cons (ps_for pown rfl (pi_list (pv 1)) (pg_name (i := 2) nd rfl (Or.inl rfl)) (pss_one (ps_if (pt_cmpR op_ge (pv 2) (pe_fld (pv 0) rfl) (nomark _)) (pss_one (ps_raise rfl tkE (pmk_own0 PySem.F.excBase_Exception T.x_OutOfRange T.g_OutOfRange T.k_OutOfRange (raises_own T.b_OutOfRange T.t_OutOfRange) (by exact rfl)))) pss_nil)))
      (pss_cons (ps_if (pt_cmpR op_gt (pe_callB call_len_seq (by rfl) T.bl_len PySem.boot_len (pa_cons (pv 1) pa_nil)) (pe_glob (v := .int 500) rfl h_MOST_BREAKS ⟨_, rfl⟩) (nomark _)) (pss_one (ps_raise rfl tkE (pmk_own0 PySem.F.excBase_Exception T.x_TooMany T.g_TooMany T.k_TooMany (raises_own T.b_TooMany T.t_TooMany) (by exact rfl)))) pss_nil)
      (pss_cons (ps_set (i := 3) nd rfl (Or.inl rfl) pe_dnewK)
      (pss_cons (ps_for pown rfl (pi_list (pv 1)) (pg_name (i := 2) nd rfl (Or.inl rfl)) (pss_one (ps_dput hu (pv 3) (pv 2) pe_bl rfl)))
      (pss_one (ps_fld (pv 0) (pv 3) rfl)))))), ?_⟩
    obtain ⟨p, L, bd, q, w, ed, sp, md, l, rfl, ⟨⟨dx, tv, hp, ht⟩, hL, kvs, hb, hk⟩, hq, hlen, e1, e2, k⟩ := h
    refine ⟨_, rfl, q, rfl, ⟨_, hq⟩, ?_⟩
    refine for_list (xs := l.map fun (n : Nat) => V.int (n : Int)) (fun i σ H' => H' = H ∧ (∃ x, σ = [some (.ref p), some (.ref q), x, none]) ∧ (l.take i).all (fun i => decide (i < w.most)) = true) ⟨rfl, ⟨_, rfl⟩, rfl⟩ ?_ ?_ ?_
    · rintro i σ H' _ ⟨rfl, _⟩
      exact hq
    · rintro i x σ H' hx ⟨rfl, ⟨y, rfl⟩, hall⟩
      obtain ⟨n, hn, rfl⟩ := map_get hx
      refine ⟨_, rfl, _, rfl, p, _, dx, _, _, rfl, hp, T.c_WaySettings, T.na_WaySettings_place_count, lk_WaySettings_place_count, _, _, rfl, rfl, _, rfl, ite2 (fun c => e1 ?_) (fun c => ?_)⟩
      · rw [List.all_eq_false]
        refine ⟨n, List.mem_of_getElem? hn, ?_⟩
        simp only [decide_eq_true_eq] at c ⊢
        omega
      · refine ⟨rfl, ⟨_, rfl⟩, ?_⟩
        rw [take_snoc hn, List.all_append, hall]
        simp only [decide_eq_true_eq] at c
        simp only [List.all_cons, List.all_nil, Bool.and_true, Bool.true_and, decide_eq_true_eq]
        omega
    · rintro σ H' ⟨rfl, ⟨y, rfl⟩, hall⟩
      rw [List.length_map, List.take_length] at hall
      have na : ¬ (l.all fun i => decide (i < w.most)) = false := by rw [hall]; simp
      refine ⟨_, rfl, q, _, rfl, .inl hq, _, _, rfl, rfl, _, rfl, ite2 (fun c => e2 na ?_) (fun c => ?_)⟩
      · rw [List.length_map] at c
        simp only [decide_eq_true_eq] at c
        omega
      intro d hd
      refine ⟨_, rfl, q, rfl, ⟨l.map fun (n : Nat) => V.int (n : Int), Same.seq (fun b o h => (upd_ne (ne_of_none h hd)).trans h) hq⟩, ?_⟩
      have pd : p ≠ d := ne_of_none hp hd
      refine for_list (xs := l.map fun (n : Nat) => V.int (n : Int)) (fun i σ H2 => (∀ b o, H' b = some o → H2 b = some o) ∧ (∃ x, σ = [some (.ref p), some (.ref q), x, some (.ref d)]) ∧
        ∃ kvs, H2 d = some (.dK kvs) ∧ kvs.length ≤ i ∧ ∀ j : Nat, (valV kvs (Sum.inl (j : Int))).isSome = (l.take i).contains j) ⟨fun b o h => (upd_ne (ne_of_none h hd)).trans h, ⟨_, rfl⟩, [], upd_same, Nat.le_refl _, fun j => rfl⟩ ?_ ?_ ?_
      · rintro i σ H2 _ ⟨s2, _⟩
        exact Same.seq s2 hq
      · rintro i x σ H2 hx ⟨s2, ⟨y, rfl⟩, kv2, hd2, hl2, hc2⟩
        obtain ⟨n, hn, rfl⟩ := map_get hx
        have hi : i < l.length := (List.getElem?_eq_some_iff.mp hn).1
        refine ⟨_, rfl, _, rfl, d, _, rfl, DPut.k (k := Sum.inl (n : Int)) hd2 (by rw [sizeLine_eq]; omega), fun b o h => (upd_ne (ne_of_none h hd)).trans (s2 b o h), ⟨_, rfl⟩, _, upd_same, Nat.le_trans (putK_len _ _ _) (by omega), fun j => ?_⟩
        rw [valV_put, take_snoc hn]
        by_cases e : j = n
        · rw [if_pos (by rw [e])]
          simp [e]
        · rw [if_neg (fun z => e (by have := Sum.inl.inj z; omega)), hc2 j]
          rw [Bool.eq_iff_iff]
          simp [e]
      · rintro σ H2 ⟨s2, ⟨y, rfl⟩, kv2, hd2, hl2, hc2⟩
        refine ⟨_, rfl, _, rfl, p, _, dx, _, rfl, s2 _ _ hp, T.c_WaySettings, T.na_WaySettings_breaks, of_decide_eq_true rfl, ?_⟩
        rw [put_WaySettings_breaks]
        rw [List.length_map] at hl2 hc2 c
        rw [List.take_length] at hc2
        simp only [decide_eq_true_eq] at c
        have dp : d ≠ p := Ne.symm pd
        have Lp : L ≠ p := ne_of hL hp (by intro z; cases z)
        refine k na (by omega) _ d ⟨⟨dx, tv, upd_same, ht.keep fun t xs h => (upd_ne (ne_of h hp (by intro z; cases z))).trans (s2 _ _ h)⟩, (upd_ne Lp).trans (s2 _ _ hL), kv2, (upd_ne dp).trans hd2, hl2, hc2⟩ hd fun c o hc h1 => (upd_ne h1).trans (s2 _ _ hc)
end
end Sh

namespace Sh
open PySem PySem.Spec PyProof.Rows L2
open PySem.W (Codec)
open PyFlat (put put1 putRow putRows okCall)
/-! ### lists cut -/
theorem cutV_mid (A B C : List V) : cutV (A ++ B ++ C) (some (A.length : Int)) (some ((A.length + B.length : Nat) : Int)) = B := by
  unfold cutV
  rw [HT.sIx_nat, HT.sIx_nat]
  have h1 : min A.length (A ++ B ++ C).length = A.length := by simp only [List.length_append]; omega
  have h2 : min (A.length + B.length) (A ++ B ++ C).length = A.length + B.length := by simp only [List.length_append]; omega
  rw [h1, h2, List.append_assoc, List.drop_left, Nat.add_sub_cancel_left, List.take_left]
def iv (l : List Int) : List V := l.map V.int
theorem iv_app (a b : List Int) : iv (a ++ b) = iv a ++ iv b := List.map_append
theorem iv_len (a : List Int) : (iv a).length = a.length := List.length_map _
/-- a cut of the calls' list, by what stands ahead and behind -/
theorem cut_iv {l A B C : List Int} {i j : Int} (h : l = A ++ (B ++ C)) (hi : i = A.length) (hj : j = A.length + B.length) : cutV (iv l) (some i) (some j) = iv B := by
  subst h
  rw [iv_app, iv_app, ← List.append_assoc, hi, hj]
  have := cutV_mid (iv A) (iv B) (iv C)
  rw [iv_len, iv_len] at this
  exact this
theorem get_iv {l A C : List Int} {x : Int} (h : l = A ++ (x :: C)) : (iv l)[A.length]? = some (V.int x) := by
  subst h
  unfold iv
  rw [List.getElem?_map, List.getElem?_append_right (Nat.le_refl _), Nat.sub_self]
  rfl
/-! ### what read_calls makes of a call -/
def nameOf (p : Int) : V := (rows_FORMS.getD p.toNat []).headD .non
/-- the tuple of a call (its name, its numbers, its lists), all of it at addresses of which N is true -/
def CallAt (H : Hp) (N : Addr → Prop) (v : V) (c : List (List Int)) : Prop := ∃ (t na la : Addr) (rs : List Addr) (p : Int) (a : List Int) (xs : List (List Int)), c = (p :: a) :: xs ∧ v = .ref t ∧
  H t = some (.tup [nameOf p, .ref na, .ref la]) ∧ H na = some (.lst (iv a)) ∧ H la = some (.lst (rs.map V.ref)) ∧ N t ∧ N na ∧ N la ∧ rs.length = xs.length ∧
  ∀ (j : Nat) r x, rs[j]? = some r → xs[j]? = some x → H r = some (.lst (iv x)) ∧ N r
theorem CallAt.keep {H H' : Hp} {N N' : Addr → Prop} {v : V} {c : List (List Int)} (h : CallAt H N v c) (k : ∀ b o, H b = some o → N b → H' b = some o ∧ N' b) : CallAt H' N' v c := by
  obtain ⟨t, na, la, rs, p, a, xs, e1, e2, h1, h2, h3, n1, n2, n3, hl, hr⟩ := h
  refine ⟨t, na, la, rs, p, a, xs, e1, e2, (k _ _ h1 n1).1, (k _ _ h2 n2).1, (k _ _ h3 n3).1, (k _ _ h1 n1).2, (k _ _ h2 n2).2, (k _ _ h3 n3).2, hl, fun j r x q1 q2 => ?_⟩
  obtain ⟨z1, z2⟩ := hr j r x q1 q2
  exact k _ _ z1 z2
/-- the rows that the program has for its calls are the shapes -/
def Shapes (ok : Int → Prop) : Prop := ∀ p n k, ok p → PySi32.shape p = some (n, k) → 0 ≤ p ∧ rows_FORMS[p.toNat]? = some [nameOf p, .int (n : Int), .int (k : Int)]
def spRead (K : PySem.W.Frag) (ok : Int → Prop) : Sp := fun vs H Q _ => ∃ (q : Addr) (raw : List (List (List Int))), vs = [.ref q] ∧ SqL K H q (iv (put raw)) ∧ raw.length ≤ 200 ∧ (∀ c ∈ raw, okCall PySi32.shape c ∧ ok ((c.headD []).headD 0)) ∧
  ∀ (H' : Hp) (r : Addr) (rs : List V), Same H H' → H r = none → H' r = some (.lst rs) → rs.length = raw.length → (∀ (j : Nat) v c, rs[j]? = some v → raw[j]? = some c → CallAt H' (fun b => H b = none ∧ b ≠ r) v c) → Q (.ref r) H'
theorem put_app : ∀ a b : List (List (List Int)), put (a ++ b) = put a ++ put b
  | [], _ => rfl
  | c :: r, b => by
    show PyFlat.put1 c ++ put (r ++ b) = PyFlat.put1 c ++ put r ++ put b
    rw [put_app r b, List.append_assoc]
theorem putRows_app : ∀ a b : List (List Int), putRows (a ++ b) = putRows a ++ putRows b
  | [], _ => rfl
  | c :: r, b => by
    show PyFlat.putRow c ++ putRows (r ++ b) = PyFlat.putRow c ++ putRows r ++ putRows b
    rw [putRows_app r b, List.append_assoc]
theorem split_get {α : Type} {l : List α} {i : Nat} {x : α} (h : l[i]? = some x) : l = l.take i ++ (x :: l.drop (i + 1)) := by
  have hi := (List.getElem?_eq_some_iff.mp h).1
  have e := (List.getElem?_eq_some_iff.mp h).2
  rw [← e, List.getElem_cons_drop, List.take_append_drop]
theorem shape_two {p : Int} {n k : Nat} (h : PySi32.shape p = some (n, k)) : k ≤ 2 := by
  obtain ⟨p0, p1⟩ := shape_range h
  have hp : p = 0 ∨ p = 1 ∨ p = 2 ∨ p = 3 ∨ p = 4 ∨ p = 5 ∨ p = 6 ∨ p = 7 ∨ p = 8 ∨ p = 9 ∨ p = 10 ∨ p = 11 ∨ p = 12 ∨ p = 13 := by omega
  have q : ∀ m l : Nat, some (m, l) = some (n, k) → l ≤ 2 → k ≤ 2 := fun m l e hl => by cases e; exact hl
  rcases hp with rfl | rfl | rfl | rfl | rfl | rfl | rfl | rfl | rfl | rfl | rfl | rfl | rfl | rfl <;> exact q _ _ h (by decide)
section
variable {P : Program} {w : World} {K : PySem.W.Frag} {mg : Str → Option Value} {base : Heap} {A : Ad}
theorem ok_Read {okp : Int → Prop} (hF : Shapes okp) (T : Txt K mg A) : Ok P w K mg base CX0 1 A.f_read_calls p_read_calls (spRead K okp) := by
  obtain ⟨fd, F, B⟩ := T.fn_read_calls.ex
  have nd := sc_read_calls.nd
  refine ⟨fd, B, F.ok sc_read_calls (fun vs H Q E h => ?_) (fun cdv A' outer s H vs Q E hr h => ⟨_,
      (pss_cons (ps_set (i := 1) nd rfl (Or.inl rfl) (pe_lst pa_nil))
      (pss_cons (ps_set (i := 2) nd rfl (Or.inl rfl) pe_int)
      (pss_cons (ps_while PassesOwn.never (pt_cmpR op_lt (pv 2) (pe_callB call_len_seq (by rfl) T.bl_len PySem.boot_len (pa_cons (pv 0) pa_nil)) (nomark _)) (pss_cons (ps_set (i := 3) nd rfl (Or.inl rfl) (pe_ix ix_tup (pe_glob (v := .ref A.t_FORMS) rfl T.g_FORMS rfl) (pe_ix ix_list (pv 0) (pv 2) (fun _ _ => rfl)) (fun _ _ => rfl)))
        (pss_cons (ps_set (i := 4) nd rfl (Or.inl rfl) (pe_op op_add (pv 2) pe_int))
        (pss_cons (ps_set (i := 2) nd rfl (Or.inl rfl) (pe_op op_add (pv 4) (pe_ix ix_tup (pv 3) pe_int (fun _ _ => rfl))))
        (pss_cons (ps_set (i := 5) nd rfl (Or.inl rfl) (pe_slice sl_list (pv 0) (po_some (pv 4)) (po_some (pv 2))))
        (pss_cons (ps_set (i := 6) nd rfl (Or.inl rfl) (pe_lst pa_nil))
        (pss_cons (ps_for PassesOwn.never rfl (pi_range1 (by rfl) T.bl_range (pa_cons (pe_ix ix_tup (pv 3) pe_int (fun _ _ => rfl)) pa_nil)) (pg_name (i := 7) nd rfl (Or.inl rfl)) (pss_cons (ps_set (i := 4) nd rfl (Or.inl rfl) (pe_op op_add (pv 2) pe_int))
          (pss_cons (ps_set (i := 2) nd rfl (Or.inl rfl) (pe_op op_add (pv 4) (pe_ix ix_list (pv 0) (pv 2) (fun _ _ => rfl))))
          (pss_one (ps_expr (pe_bm PySem.F.plainAttrs_list PySem.F.slot_list_append PySem.F.type_list_append mt_append (pv 6) (pa_cons (pe_slice sl_list (pv 0) (po_some (pv 4)) (po_some (pv 2))) pa_nil)))))))
        (pss_one (ps_expr (pe_bm PySem.F.plainAttrs_list PySem.F.slot_list_append PySem.F.type_list_append mt_append (pv 1) (pa_cons (pe_tup (pa_cons (pe_ix ix_tup (pv 3) pe_int (fun _ _ => rfl)) (pa_cons (pv 5) (pa_cons (pv 6) pa_nil)))) pa_nil)))))))))))
      (pss_one (ps_ret (pv 1)))))), ?_⟩)⟩
  · obtain ⟨q, raw, rfl, _⟩ := h
    rfl
  · obtain ⟨q, raw, rfl, hq, hlen, hok, k⟩ := h
    refine ⟨by show 0 ≤ sizeLine; decide, fun r hr0 => ?_⟩
    refine while_by (fun σ H' => ∃ (i : Nat) (rs : List V) (x3 x4 x5 x6 x7 : Option V), i ≤ raw.length ∧ σ = [some (.ref q), some (.ref r), some (.int ((put (raw.take i)).length : Nat)), x3, x4, x5, x6, x7] ∧ Same H H' ∧ H' r = some (.lst rs) ∧ rs.length = i ∧
      ∀ (j : Nat) v c, rs[j]? = some v → raw[j]? = some c → CallAt H' (fun b => H b = none ∧ b ≠ r) v c)
      (fun σ _ => match σ with | _ :: _ :: some (.int z) :: _ => (put raw).length - z.toNat | _ => 0) ?_ ?_ ?_
    · exact ⟨0, [], none, none, none, none, none, Nat.zero_le _, rfl, fun b o h => (upd_ne (ne_of_none h hr0)).trans h, upd_same, rfl, fun j v c hj => by simp at hj⟩
    · rintro σ H1 ⟨i, rs, x3, x4, x5, x6, x7, hi, rfl, s1, hr1, hl1, hc1⟩
      have hq1 := Same.seq s1 hq
      refine ⟨_, rfl, _, rfl, q, _, rfl, .inl hq1, _, _, rfl, rfl, _, rfl, ite2 (fun c => ?_) (fun c => ?_)⟩
      · rw [iv_len] at c
        simp only [decide_eq_true_eq] at c
        have hlt : i < raw.length := by
          rcases Nat.lt_or_ge i raw.length with h | h
          · exact h
          · rw [List.take_of_length_le h] at c; omega
        have hci : raw[i]? = some raw[i] := List.getElem?_eq_getElem hlt
        obtain ⟨⟨p, a, xs, hce, hsh⟩, hp⟩ := hok _ (List.getElem_mem hlt)
        have hsp : put raw = put (raw.take i) ++ (p :: (a ++ (putRows xs ++ put (raw.drop (i + 1))))) := by
          have e := split_get hci
          have : put raw = put (raw.take i) ++ (put1 raw[i] ++ put (raw.drop (i + 1))) := by
            conv => lhs; rw [e]
            rw [put_app]; rfl
          rw [this, hce]
          show _ ++ (((p :: a) ++ putRows xs) ++ _) = _
          simp
        rw [hce] at hp
        obtain ⟨p0, hrow⟩ := hF p a.length xs.length hp hsh
        obtain ⟨us, ul, uF, uR⟩ := T.s_FORMS
        have hpu : p.toNat < us.length := by
          have h7 := (List.getElem?_eq_some_iff.mp hrow).1
          rw [ul]; exact h7
        have hu := List.getElem?_eq_getElem hpu
        have hsT := uR _ _ _ hu hrow
        have hgp : (iv (put raw))[(put (raw.take i)).length]? = some (.int p) := get_iv hsp
        refine ⟨_, rfl, _, rfl, q, _, _, .int p, rfl, rfl, hq1, atI_nat hgp, A.t_FORMS, _, p, .ref us[p.toNat], rfl, rfl, uF _, at_of (j := p.toNat) (by omega) (by rw [List.getElem?_map, hu]; rfl), ?_⟩
        refine ⟨_, rfl, _, _, rfl, rfl, ?_⟩
        refine ⟨_, rfl, _, rfl, us[p.toNat], _, 1, .int (a.length : Int), rfl, rfl, hsT _, rfl, _, _, rfl, rfl, ?_⟩
        have e4 : put raw = (put (raw.take i) ++ [p]) ++ (a ++ (putRows xs ++ put (raw.drop (i + 1)))) := by rw [hsp]; simp
        refine ⟨_, rfl, _, rfl, _, rfl, _, rfl, _, rfl, q, _, rfl, hq1, fun na hna => ?_⟩
        rw [cut_iv e4 (by simp) (by simp)]
        refine ⟨by show 0 ≤ sizeLine; decide, fun la hla => ?_⟩
        have nr : na ≠ r := Ne.symm (ne_of_none hr1 hna)
        have ln : la ≠ na := Ne.symm (ne_of_none upd_same hla)
        have hla1 : H1 la = none := by rw [upd_ne ln] at hla; exact hla
        have lr : la ≠ r := Ne.symm (ne_of_none hr1 hla1)
        have fr : ∀ b, H1 b = none → H b = none ∧ b ≠ r := fun b hb => ⟨s1.free hb, fun z => by rw [z, hr1] at hb; cases hb⟩
        have h2 : xs.length ≤ 2 := shape_two hsh
        have hrl : rs.length < 30000 := by omega
        refine ⟨_, rfl, us[p.toNat], _, 2, .int (xs.length : Int), rfl, rfl, hsT _, rfl, _, rfl, by omega, by omega, ?_⟩
        have rowsP : ∀ {m : Nat} {x : List Int}, xs[m]? = some x → (putRows (xs.take (m + 1))).length = (putRows (xs.take m)).length + 1 + x.length := fun {m x} h => by
          rw [take_snoc h, putRows_app, List.length_append]
          show _ + (((x.length : Int) :: x) ++ ([] : List Int)).length = _
          simp; omega
        refine for_range (lo := 0) (n := (xs.length : Int).toNat) (fun j σ H' => ∃ (rsj : List Addr) (z : Int) (x4 x7 : Option V), σ = [some (.ref q), some (.ref r), some (.int z), some (.ref us[p.toNat]), x4, some (.ref na), some (.ref la), x7] ∧
          z = (put (raw.take i)).length + 1 + a.length + (putRows (xs.take j)).length ∧
          (∀ b o, (upd H1 na (.lst (iv a))) b = some o → H' b = some o) ∧ H' la = some (.lst (rsj.map V.ref)) ∧ rsj.length = j ∧ ∀ (j' : Nat) r' x, rsj[j']? = some r' → xs[j']? = some x → H' r' = some (.lst (iv x)) ∧ H1 r' = none ∧ r' ≠ la) ?_ ?_ ?_
        · exact ⟨[], _, _, _, rfl, by simp [PyFlat.putRows], fun b o h => (upd_ne (ne_of_none h hla)).trans h, upd_same, rfl, fun j' r' x h => by simp at h⟩
        · rintro j σ H' hj ⟨rsj, z, y4, y7, rfl, hz, s2, hl2, hlen2, hr2⟩
          rw [Int.toNat_natCast] at hj
          have hq2 : SqL K H' q (iv (put raw)) := Same.seq (fun b o h => s2 b o ((upd_ne (ne_of_none h hna)).trans h)) hq1
          have hx := List.getElem?_eq_getElem hj
          have e5 : put raw = (put (raw.take i) ++ (p :: a) ++ putRows (xs.take j)) ++ ((xs[j].length : Int) :: (xs[j] ++ (putRows (xs.drop (j + 1)) ++ put (raw.drop (i + 1))))) := by
            have e6 : putRows xs = putRows (xs.take j) ++ (putRow xs[j] ++ putRows (xs.drop (j + 1))) := by
              conv => lhs; rw [split_get hx]
              rw [putRows_app]; rfl
            rw [hsp, e6]
            show _ = _ ++ ((xs[j].length : Int) :: _)
            simp [PyFlat.putRow]
          have lenA : ((put (raw.take i) ++ (p :: a) ++ putRows (xs.take j)).length : Int) = z := by
            rw [List.length_append, List.length_append, List.length_cons, hz]; omega
          refine ⟨_, rfl, _, _, rfl, rfl, ?_⟩
          refine ⟨_, rfl, _, rfl, _, rfl, q, _, z, .int (xs[j].length : Int), rfl, rfl, hq2, at_of lenA.symm (get_iv e5), _, _, rfl, rfl, ?_⟩
          refine ⟨_, rfl, .inl ⟨rfl, _, SqL.of hl2⟩, ?_⟩
          refine ⟨_, rfl, _, rfl, _, rfl, _, rfl, _, rfl, q, _, rfl, hq2, fun x hx' => ?_⟩
          have e7 : put raw = ((put (raw.take i) ++ (p :: a) ++ putRows (xs.take j)) ++ [(xs[j].length : Int)]) ++ (xs[j] ++ (putRows (xs.drop (j + 1)) ++ put (raw.drop (i + 1)))) := by rw [e5]; simp
          rw [cut_iv e7 (by rw [List.length_append]; simp only [List.length_cons, List.length_nil]; omega) (by rw [List.length_append]; simp only [List.length_cons, List.length_nil]; omega)]
          have lx : la ≠ x := ne_of_none hl2 hx'
          have x1 : H1 x = none := by
            cases q' : H1 x with
            | none => rfl
            | some o =>
              rw [s2 x o ((upd_ne (ne_of_none q' hna)).trans q')] at hx'
              cases hx'
          refine ⟨la, _, _, rfl, rfl, (upd_ne lx).trans hl2, by rw [List.length_map, hlen2]; rw [sizeLine_eq]; have : xs.length ≤ 2 := h2; omega, ?_⟩
          refine ⟨rsj ++ [x], z + 1 + xs[j].length, _, _, rfl, by rw [rowsP hx, hz]; omega, fun b o h => ?_, by rw [upd_same, List.map_append]; rfl, by rw [List.length_append, hlen2]; rfl, fun j' r' y g1 g2 => ?_⟩
          · have hb := s2 b o h
            rw [upd_ne (ne_of_none h hla), upd_ne (ne_of_none hb hx')]
            exact hb
          · rcases Nat.lt_or_ge j' rsj.length with h | h
            · rw [List.getElem?_append_left h] at g1
              obtain ⟨z1, z2, z3⟩ := hr2 j' r' y g1 g2
              exact ⟨by rw [upd_ne z3, upd_ne (ne_of_none z1 hx')]; exact z1, z2, z3⟩
            · rw [List.getElem?_append_right h] at g1
              have e8 : j' - rsj.length = 0 := by
                rcases Nat.eq_zero_or_pos (j' - rsj.length) with h0 | h0
                · exact h0
                · rw [List.getElem?_eq_none_iff.mpr (by simp; omega)] at g1; cases g1
              rw [e8] at g1
              have e9 : x = r' := Option.some.inj g1
              subst e9
              have e10 : j' = j := by omega
              subst e10
              rw [hx] at g2
              have e11 := Option.some.inj g2
              subst e11
              exact ⟨by rw [upd_ne (Ne.symm lx)]; exact upd_same, x1, Ne.symm lx⟩
        · rintro σ H' ⟨rsj, z, y4, y7, rfl, hz, s2, hl2, hlen2, hr2⟩
          rw [Int.toNat_natCast] at hz hlen2
          rw [List.take_length] at hz
          have hr' : H' r = some (.lst rs) := s2 _ _ ((upd_ne (Ne.symm nr)).trans hr1)
          refine ⟨_, rfl, .inl ⟨rfl, _, SqL.of hr'⟩, ?_⟩
          refine ⟨_, rfl, us[p.toNat], _, 0, nameOf p, rfl, rfl, hsT _, rfl, _, rfl, _, rfl, by show 3 ≤ sizeLine; decide, fun t ht => ?_⟩
          have rt : r ≠ t := ne_of_none hr' ht
          have lt : la ≠ t := ne_of_none hl2 ht
          have hna' : H' na = some (.lst (iv a)) := s2 _ _ upd_same
          have nt : na ≠ t := ne_of_none hna' ht
          have t1 : H1 t = none := by
            cases q' : H1 t with
            | none => rfl
            | some o =>
              rw [s2 t o ((upd_ne (ne_of_none q' hna)).trans q')] at ht
              cases ht
          have keepB : ∀ b o, H1 b = some o → b ≠ r → upd (upd H' t (.tup [nameOf p, .ref na, .ref la])) r (.lst (rs ++ [.ref t])) b = some o := fun b o h hb => by
            have := s2 b o ((upd_ne (ne_of_none h hna)).trans h)
            rw [upd_ne hb, upd_ne (ne_of_none this ht)]; exact this
          refine ⟨r, rs, _, rfl, rfl, (upd_ne rt).trans hr', by rw [sizeLine_eq]; have := hrl; omega, ⟨i + 1, rs ++ [.ref t], some (.ref us[p.toNat]), y4, some (.ref na), some (.ref la), y7, hlt, ?_, ?_, upd_same, by rw [List.length_append, hl1]; rfl, ?_⟩, ?_⟩
          · have e12 : z = ((put (raw.take (i + 1))).length : Nat) := by
              rw [take_snoc hci, put_app, List.length_append, hce]
              show _ = (((put (raw.take i)).length + (((p :: a) ++ putRows xs) ++ ([] : List Int)).length : Nat) : Int)
              rw [hz]; simp; omega
            rw [e12]
          · intro b o h
            by_cases hb : b = r
            · subst hb; rw [hr0] at h; cases h
            · exact keepB b o (s1 b o h) hb
          · intro j v c g1 g2
            rcases Nat.lt_or_ge j rs.length with h | h
            · rw [List.getElem?_append_left h] at g1
              exact (hc1 j v c g1 g2).keep fun b o h1 h2 => ⟨keepB b o h1 h2.2, h2⟩
            · rw [List.getElem?_append_right h] at g1
              have e8 : j - rs.length = 0 := by
                rcases Nat.eq_zero_or_pos (j - rs.length) with h0 | h0
                · exact h0
                · rw [List.getElem?_eq_none_iff.mpr (by simp; omega)] at g1; cases g1
              rw [e8] at g1
              have e9 : V.ref t = v := Option.some.inj g1
              subst e9
              have e10 : j = i := by omega
              subst e10
              rw [hci, hce] at g2
              have e11 := Option.some.inj g2
              subst e11
              refine ⟨t, na, la, rsj, p, a, xs, rfl, rfl, (upd_ne (Ne.symm rt)).trans upd_same, ?_, ?_, fr t t1, fr na hna, fr la hla1, hlen2, fun j' r' y g1 g2 => ?_⟩
              · rw [upd_ne nr, upd_ne nt]; exact hna'
              · rw [upd_ne lr, upd_ne lt]; exact hl2
              · obtain ⟨z1, z2, z3⟩ := hr2 j' r' y g1 g2
                have z4 := fr r' z2
                exact ⟨by rw [upd_ne z4.2, upd_ne (ne_of_none z1 ht)]; exact z1, z4⟩
          · show (put raw).length - z.toNat < (put raw).length - ((put (raw.take i)).length : Int).toNat
            omega
      · rw [iv_len] at c
        simp only [decide_eq_true_eq] at c
        have hge : raw.length ≤ i := by
          rcases Nat.lt_or_ge i raw.length with h | h
          · exfalso
            apply c
            have hci : raw[i]? = some raw[i] := List.getElem?_eq_getElem h
            obtain ⟨⟨p, a, xs, hce, hsh⟩, hp⟩ := hok _ (List.getElem_mem h)
            have e := split_get hci
            have e2 : put raw = put (raw.take i) ++ (put1 raw[i] ++ put (raw.drop (i + 1))) := by
              conv => lhs; rw [e]
              rw [put_app]; rfl
            have e3 : (put raw).length = (put (raw.take i)).length + ((put1 raw[i]).length + (put (raw.drop (i + 1))).length) := by
              conv => lhs; rw [e2]
              rw [List.length_append, List.length_append]
            have e4 : 0 < (put1 raw[i]).length := by
              rw [hce]
              show 0 < ((p :: a) ++ putRows xs).length
              simp
            omega
          · exact h
        refine ⟨_, rfl, k H1 r rs s1 hr0 hr1 (by omega) hc1⟩
    · exact fun σ H Q Q' hq ⟨v, e, u, e2, p, ys, e3, e4, i, j, e5, e6, k, e7, q⟩ => ⟨v, e, u, e2, p, ys, e3, e4, i, j, e5, e6, k, e7, hq _ _ q⟩
end
end Sh

namespace Sh
open PySem PySem.Spec PyProof.Rows L2
open PySem.W (Codec)
theorem WayAt.keep {K : PySem.W.Frag} {C : Addr} {H H' : Hp} {a L bd : Addr} {w : Si32.Way} {e s : Int} {md : Bool} (h : WayAt K C H a L bd w e s md) (k : ∀ b o, H b = some o → (b = a ∨ b = L ∨ b = bd ∨ ∃ xs, o = .tup xs) → H' b = some o) : WayAt K C H' a L bd w e s md := by
  obtain ⟨⟨dx, tv, h1, h2⟩, h3, kvs, h4, h5⟩ := h
  exact ⟨⟨dx, tv, k _ _ h1 (.inl rfl), h2.keep fun t xs ht => k _ _ ht (.inr (.inr (.inr ⟨_, rfl⟩)))⟩, k _ _ h3 (.inr (.inl rfl)), kvs, k _ _ h4 (.inr (.inr (.inl rfl))), h5⟩
/-- an instance elsewhere is changed -/
theorem WayAt.other {K : PySem.W.Frag} {C : Addr} {H H' : Hp} {a L bd x C' dx' : Addr} {fs' : List (Str × V)} {w : Si32.Way} {e s : Int} {md : Bool} (h : WayAt K C H a L bd w e s md) (hne : a ≠ x) (hx : H x = some (.ins C' dx' fs')) (k : ∀ b o, H b = some o → b ≠ x → H' b = some o) : WayAt K C H' a L bd w e s md := by
  have h' := h
  obtain ⟨⟨dx, tv, h1, h2⟩, h3, kvs, h4, h5⟩ := h'
  refine h.keep fun b o hb hc => k b o hb ?_
  rcases hc with rfl | rfl | rfl | ⟨xs, rfl⟩
  · exact hne
  · exact ne_of h3 hx (by intro z; cases z)
  · exact ne_of h4 hx (by intro z; cases z)
  · exact ne_of hb hx (by intro z; cases z)
section
variable {P : Program} {w : World} {K : PySem.W.Frag} {mg : Str → Option Value} {base : Heap} {A : Ad}
/-! ### check_side -/
def badSide (l n f : Nat) : Prop := 100000 < l ∨ l ≤ n + f
instance (l n f : Nat) : Decidable (badSide l n f) := inferInstanceAs (Decidable (_ ∨ _))
def spSide (A : Ad) : Sp := fun vs H Q E => ∃ (l n f : Nat), vs = [.int l, .int n, .int f] ∧ (badSide l n f → E (.ref A.X_OutOfRange) none H) ∧ (¬ badSide l n f → Q .non H)
theorem ok_Side (T : Txt K mg A) : Ok P w K mg base (L2.CX P w) 1 A.f_check_side p_check_side (spSide A) := by
  obtain ⟨fd, F, B⟩ := T.fn_check_side.ex
  have nd := sc_check_side.nd
  obtain ⟨t1, h_LONGEST_SIDE⟩ := T.i_LONGEST_SIDE
  refine ⟨fd, B, F.okX sc_check_side (fun vs H Q E h => ?_) (fun cdv A' outer s H vs Q E hr h => ?_)⟩
  · obtain ⟨l, n, f, rfl, _⟩ := h
    rfl
  · have tkE := takes_of (X := cxOf (L2.CX P w) P w K mg base n_check_side "check_side" (defScope s_check_side) A.f_check_side cdv A' outer s H E) rfl rfl rfl rfl
    refine ⟨_, (pss_one (ps_if (PW.pt (pw_or (pt_cmpR op_gt (pv 0) (pe_glob (v := .int 100000) rfl h_LONGEST_SIDE ⟨_, rfl⟩) (nomark _)) (pw_or1 (pt_cmpR op_ge (pe_op op_add (pv 1) (pv 2)) (pv 0) (nomark _))))) (pss_one (ps_raise rfl tkE (pmk_own0 PySem.F.excBase_Exception T.x_OutOfRange T.g_OutOfRange T.k_OutOfRange (raises_own T.b_OutOfRange T.t_OutOfRange) (by exact rfl)))) pss_nil)), ?_⟩
    obtain ⟨l, n, f, rfl, h1, h2⟩ := h
    refine ⟨_, rfl, _, _, rfl, rfl, _, rfl, ite2 (fun c => iteT (h1 (.inl ?_))) (fun c => ?_)⟩
    · simp only [decide_eq_true_eq] at c; omega
    refine ⟨_, rfl, _, rfl, _, _, rfl, rfl, _, rfl, _, _, rfl, rfl, _, rfl, ite2 (fun c2 => h1 (.inr ?_)) (fun c2 => h2 (fun z => ?_))⟩
    · simp only [decide_eq_true_eq] at c2; omega
    · simp only [decide_eq_true_eq] at c c2
      unfold badSide at z
      omega
/-! ### SheetSettings.set_paper -/
def spPaper (K : PySem.W.Frag) (A : Ad) : Sp := fun vs H Q E => ∃ (S dx wt W0 W1 L0 L1 b0 b1 : Addr) (fs : List (Str × V)) (w0 w1 : Si32.Way) (e0 s0 e1 s1 : Int) (m0 m1 : Bool) (p : Si32.Paper),
  vs = [.ref S, .int p.width, .int p.height, .int p.left, .int p.right, .int p.top, .int p.bottom] ∧ H S = some (.ins A.C_SheetSettings dx fs) ∧ fs.lookup ("ways" : Str) = some (V.ref wt) ∧ H wt = some (.tup [.ref W0, .ref W1]) ∧
  WayAt K A.C_WaySettings H W0 L0 b0 w0 e0 s0 m0 ∧ WayAt K A.C_WaySettings H W1 L1 b1 w1 e1 s1 m1 ∧ W0 ≠ W1 ∧ W0 ≠ S ∧ W1 ≠ S ∧
  (Si32.goodPaper p = false → E (.ref A.X_OutOfRange) none H) ∧
  (Si32.goodPaper p = true → ∀ H' : Hp, WayAt K A.C_WaySettings H' W0 L0 b0 w0 p.top ((p.height - (p.top + p.bottom) : Nat) : Int) m0 → WayAt K A.C_WaySettings H' W1 L1 b1 w1 p.left ((p.width - (p.left + p.right) : Nat) : Int) m1 →
    (∀ c o, H c = some o → c ≠ W0 → c ≠ W1 → H' c = some o) → Q .non H')
theorem good_sides (p : Si32.Paper) : Si32.goodPaper p = true ↔ ¬ badSide p.width p.left p.right ∧ ¬ badSide p.height p.top p.bottom := by
  unfold Si32.goodPaper badSide Si32.BIG
  simp only [Bool.and_eq_true, decide_eq_true_eq]
  omega
theorem WayAt.edges {K : PySem.W.Frag} {C : Addr} {H : Hp} {a L bd dx : Addr} {w : Si32.Way} {e s e' s' : Int} {md md' : Bool} {tv : V} (h : WayAt K C H a L bd w e s md) (hT : TitV K H tv w.titles) :
    WayAt K C (upd H a (.ins C dx (F_WaySettings (.int w.most) (.ref L) (.int w.told.length) (.int e') (.int s') (.bl md') tv (.ref bd)))) a L bd w e' s' md' := by
  obtain ⟨⟨dx', tv', h1, h2⟩, h3, kvs, h4, h5⟩ := h
  exact ⟨⟨dx, tv, upd_same, hT.keep fun t xs ht => (upd_ne (ne_of ht h1 (by intro z; cases z))).trans ht⟩, (upd_ne (ne_of h3 h1 (by intro z; cases z))).trans h3, kvs, (upd_ne (ne_of h4 h1 (by intro z; cases z))).trans h4, h5⟩
theorem ok_Paper (T : Txt K mg A) : Ok P w K mg base (L2.CX P w) 2 A.f_SheetSettings_set_paper p_SheetSettings_set_paper (spPaper K A) := by
  obtain ⟨fd, F, B⟩ := T.fn_SheetSettings_set_paper.ex
  have nd := sc_SheetSettings_set_paper.nd
  obtain ⟨_, B_check_side, G_check_side⟩ := (ok_Side (P := P) (w := w) (base := base) T).ex
  refine ⟨fd, B, F.okX sc_SheetSettings_set_paper (fun vs H Q E h => ?_) (fun cdv A' outer s H vs Q E hr h => ?_)⟩
  · obtain ⟨S, dx, wt, W0, W1, L0, L1, b0, b1, fs, w0, w1, e0, s0, e1, s1, m0, m1, p, rfl, _⟩ := h
    rfl
  · have tkE := takes_of (X := cxOf (L2.CX P w) P w K mg base n_SheetSettings_set_paper "SheetSettings.set_paper" (defScope s_SheetSettings_set_paper) A.f_SheetSettings_set_paper cdv A' outer s H E) rfl rfl rfl rfl
    have pX := passes_call tkE (E := E) (fun _ _ _ _ h => h)
    refine ⟨_, 
      (pss_cons (ps_expr (pe_call G_check_side hr rfl T.g_check_side T.k_check_side B_check_side .nil pX (pa_cons (pv 1) (pa_cons (pv 3) (pa_cons (pv 4) pa_nil)))))
      (pss_cons (ps_expr (pe_call G_check_side hr rfl T.g_check_side T.k_check_side B_check_side .nil pX (pa_cons (pv 2) (pa_cons (pv 5) (pa_cons (pv 6) pa_nil)))))
      (pss_cons (ps_set (i := 7) nd rfl (Or.inl rfl) (pe_ix ix_tup (pe_fld (pv 0) rfl) pe_int (fun _ _ => rfl)))
      (pss_cons (ps_fld (pv 7) (pv 5) rfl)
      (pss_cons (ps_fld (pv 7) (pe_op op_sub (pe_op op_sub (pv 2) (pv 5)) (pv 6)) rfl)
      (pss_cons (ps_set (i := 8) nd rfl (Or.inl rfl) (pe_ix ix_tup (pe_fld (pv 0) rfl) pe_int (fun _ _ => rfl)))
      (pss_cons (ps_fld (pv 8) (pv 3) rfl)
      (pss_one (ps_fld (pv 8) (pe_op op_sub (pe_op op_sub (pv 1) (pv 3)) (pv 4)) rfl))))))))), ?_⟩
    obtain ⟨S, dx, wt, W0, W1, L0, L1, b0, b1, fs, w0, w1, e0, s0, e1, s1, m0, m1, p, rfl, hS, lw, hw, a0, a1, n01, n0, n1, er, k⟩ := h
    refine ⟨_, rfl, _, rfl, _, rfl, p.width, p.left, p.right, rfl, fun c => er ?_, fun c => ?_⟩
    · cases q : Si32.goodPaper p with
      | false => rfl
      | true => exact absurd c ((good_sides p).mp q).1
    refine ⟨_, rfl, _, rfl, _, rfl, p.height, p.top, p.bottom, rfl, fun c2 => er ?_, fun c2 => ?_⟩
    · cases q : Si32.goodPaper p with
      | false => rfl
      | true => exact absurd c2 ((good_sides p).mp q).2
    have good := (good_sides p).mpr ⟨c, c2⟩
    unfold badSide at c c2
    obtain ⟨⟨d0, t0, g0, g1⟩, _⟩ := id a0
    obtain ⟨⟨d1, t1, g2, g3⟩, _⟩ := id a1
    refine ⟨_, rfl, S, _, dx, _, _, rfl, hS, T.c_SheetSettings, T.na_SheetSettings_ways, lw, wt, _, 0, .ref W0, rfl, rfl, SqT.of hw, rfl, ?_⟩
    refine ⟨_, rfl, _, rfl, W0, _, d0, _, rfl, g0, T.c_WaySettings, T.na_WaySettings_edge, of_decide_eq_true rfl, ?_⟩
    rw [put_WaySettings_edge]
    refine ⟨_, rfl, _, rfl, _, _, rfl, rfl, _, rfl, _, _, rfl, rfl, _, rfl, W0, _, d0, _, rfl, upd_same, T.c_WaySettings, T.na_WaySettings_space, of_decide_eq_true rfl, ?_⟩
    rw [put_WaySettings_space, upd_upd]
    have hS2 : ∀ (o : HO), upd H W0 o S = H S := fun o => upd_ne (Ne.symm n0)
    have hw2 : ∀ (o : HO), upd H W0 o wt = H wt := fun o => upd_ne (ne_of hw g0 (by intro z; cases z))
    refine ⟨_, rfl, S, _, dx, _, _, rfl, (hS2 _).trans hS, T.c_SheetSettings, T.na_SheetSettings_ways, lw, wt, _, 1, .ref W1, rfl, rfl, SqT.of ((hw2 _).trans hw), rfl, ?_⟩
    refine ⟨_, rfl, _, rfl, W1, _, d1, _, rfl, (upd_ne (Ne.symm n01)).trans g2, T.c_WaySettings, T.na_WaySettings_edge, of_decide_eq_true rfl, ?_⟩
    rw [put_WaySettings_edge]
    refine ⟨_, rfl, _, rfl, _, _, rfl, rfl, _, rfl, _, _, rfl, rfl, _, rfl, W1, _, d1, _, rfl, upd_same, T.c_WaySettings, T.na_WaySettings_space, of_decide_eq_true rfl, ?_⟩
    rw [put_WaySettings_space, upd_upd]
    dsimp only
    rw [show (p.height : Int) - p.top - p.bottom = ((p.height - (p.top + p.bottom) : Nat) : Int) by omega, show (p.width : Int) - p.left - p.right = ((p.width - (p.left + p.right) : Nat) : Int) by omega]
    have b0' := a0.edges (md' := m0) (dx := d0) (e' := p.top) (s' := ((p.height - (p.top + p.bottom) : Nat) : Int)) g1
    have b1' := a1.other (H' := upd H W0 (.ins A.C_WaySettings d0 (F_WaySettings (.int w0.most) (.ref L0) (.int w0.told.length) (.int p.top) (.int ((p.height - (p.top + p.bottom) : Nat) : Int)) (.bl m0) t0 (.ref b0)))) (Ne.symm n01) g0 (fun b o hb hne => (upd_ne hne).trans hb)
    have g3' := g3.keep (H' := upd H W0 (.ins A.C_WaySettings d0 (F_WaySettings (.int w0.most) (.ref L0) (.int w0.told.length) (.int p.top) (.int ((p.height - (p.top + p.bottom) : Nat) : Int)) (.bl m0) t0 (.ref b0)))) fun t xs ht => (upd_ne (ne_of ht g0 (by intro z; cases z))).trans ht
    refine k good _ (b0'.other n01 ((upd_ne (Ne.symm n01)).trans g2) fun b o hb hne => (upd_ne hne).trans hb) (b1'.edges (md' := m1) (dx := d1) g3') fun c o hc h1 h2 => (upd_ne h2).trans ((upd_ne h1).trans hc)
/-! ### SheetSettings.set_scale, set_fit, set_how -/
def spScale (A : Ad) : Sp := fun vs H Q E => ∃ (S dx : Addr) (v0 v1 v2 v3 v4 v5 v6 v7 : V) (p : Nat), vs = [.ref S, .int p] ∧ H S = some (.ins A.C_SheetSettings dx (F_SheetSettings v0 v1 v2 v3 v4 v5 v6 v7)) ∧
  (¬ (10 ≤ p ∧ p ≤ 400) → E (.ref A.X_OutOfRange) none H) ∧ ((10 ≤ p ∧ p ≤ 400) → Q .non (upd H S (.ins A.C_SheetSettings dx (F_SheetSettings v0 v1 (.int p) .non v4 v5 v6 v7))))
theorem ok_Scale (T : Txt K mg A) : Ok P w K mg base (L2.CX P w) 1 A.f_SheetSettings_set_scale p_SheetSettings_set_scale (spScale A) := by
  obtain ⟨fd, F, B⟩ := T.fn_SheetSettings_set_scale.ex
  have nd := sc_SheetSettings_set_scale.nd
  obtain ⟨t1, h_SMALLEST_SCALE⟩ := T.i_SMALLEST_SCALE
  obtain ⟨t2, h_LARGEST_SCALE⟩ := T.i_LARGEST_SCALE
  refine ⟨fd, B, F.okX sc_SheetSettings_set_scale (fun vs H Q E h => ?_) (fun cdv A' outer s H vs Q E hr h => ?_)⟩
  · obtain ⟨S, dx, v0, v1, v2, v3, v4, v5, v6, v7, p, rfl, _⟩ := h
    rfl
  · have tkE := takes_of (X := cxOf (L2.CX P w) P w K mg base n_SheetSettings_set_scale "SheetSettings.set_scale" (defScope s_SheetSettings_set_scale) A.f_SheetSettings_set_scale cdv A' outer s H E) rfl rfl rfl rfl
    refine ⟨_, (pss_cons (ps_if (PW.pt (pw_or (pt_cmpR op_lt (pv 1) (pe_glob (v := .int 10) rfl h_SMALLEST_SCALE ⟨_, rfl⟩) (nomark _)) (pw_or1 (pt_cmpR op_gt (pv 1) (pe_glob (v := .int 400) rfl h_LARGEST_SCALE ⟨_, rfl⟩) (nomark _))))) (pss_one (ps_raise rfl tkE (pmk_own0 PySem.F.excBase_Exception T.x_OutOfRange T.g_OutOfRange T.k_OutOfRange (raises_own T.b_OutOfRange T.t_OutOfRange) (by exact rfl)))) pss_nil)
      (pss_cons (ps_fld (pv 0) (pv 1) rfl)
      (pss_one (ps_fld (pv 0) pe_non rfl)))), ?_⟩
    obtain ⟨S, dx, v0, v1, v2, v3, v4, v5, v6, v7, p, rfl, hS, e1, k⟩ := h
    refine ⟨_, rfl, _, _, rfl, rfl, _, rfl, ite2 (fun c => iteT (e1 ?_)) (fun c => ?_)⟩
    · simp only [decide_eq_true_eq] at c; omega
    refine ⟨_, rfl, _, _, rfl, rfl, _, rfl, ite2 (fun c2 => e1 ?_) (fun c2 => ?_)⟩
    · simp only [decide_eq_true_eq] at c2; omega
    simp only [decide_eq_true_eq] at c c2
    refine ⟨_, rfl, _, rfl, S, _, dx, _, rfl, hS, T.c_SheetSettings, T.na_SheetSettings_scale, of_decide_eq_true rfl, ?_⟩
    rw [put_SheetSettings_scale]
    refine ⟨_, rfl, S, _, dx, _, rfl, upd_same, T.c_SheetSettings, T.na_SheetSettings_fit, of_decide_eq_true rfl, ?_⟩
    rw [put_SheetSettings_fit, upd_upd]
    exact k (by omega)
def spFit (A : Ad) : Sp := fun vs H Q E => ∃ (S dx : Addr) (v0 v1 v2 v3 v4 v5 v6 v7 : V) (a b : Nat), vs = [.ref S, .int a, .int b] ∧ H S = some (.ins A.C_SheetSettings dx (F_SheetSettings v0 v1 v2 v3 v4 v5 v6 v7)) ∧
  (¬ (a ≤ 1000 ∧ b ≤ 1000) → E (.ref A.X_OutOfRange) none H) ∧ ((a ≤ 1000 ∧ b ≤ 1000) → ∀ t, H t = none → Q .non (upd (upd H t (.tup [.int a, .int b])) S (.ins A.C_SheetSettings dx (F_SheetSettings v0 v1 v2 (.ref t) v4 v5 v6 v7))))
theorem ok_Fit (T : Txt K mg A) : Ok P w K mg base (L2.CX P w) 1 A.f_SheetSettings_set_fit p_SheetSettings_set_fit (spFit A) := by
  obtain ⟨fd, F, B⟩ := T.fn_SheetSettings_set_fit.ex
  have nd := sc_SheetSettings_set_fit.nd
  obtain ⟨t1, h_MOST_BANDS⟩ := T.i_MOST_BANDS
  refine ⟨fd, B, F.okX sc_SheetSettings_set_fit (fun vs H Q E h => ?_) (fun cdv A' outer s H vs Q E hr h => ?_)⟩
  · obtain ⟨S, dx, v0, v1, v2, v3, v4, v5, v6, v7, a, b, rfl, _⟩ := h
    rfl
  · have tkE := takes_of (X := cxOf (L2.CX P w) P w K mg base n_SheetSettings_set_fit "SheetSettings.set_fit" (defScope s_SheetSettings_set_fit) A.f_SheetSettings_set_fit cdv A' outer s H E) rfl rfl rfl rfl
    refine ⟨_, (pss_cons (ps_if (PW.pt (pw_or (pt_cmpR op_gt (pv 1) (pe_glob (v := .int 1000) rfl h_MOST_BANDS ⟨_, rfl⟩) (nomark _)) (pw_or1 (pt_cmpR op_gt (pv 2) (pe_glob (v := .int 1000) rfl h_MOST_BANDS ⟨_, rfl⟩) (nomark _))))) (pss_one (ps_raise rfl tkE (pmk_own0 PySem.F.excBase_Exception T.x_OutOfRange T.g_OutOfRange T.k_OutOfRange (raises_own T.b_OutOfRange T.t_OutOfRange) (by exact rfl)))) pss_nil)
      (pss_one (ps_fld (pv 0) (pe_tup (pa_cons (pv 1) (pa_cons (pv 2) pa_nil))) rfl))), ?_⟩
    obtain ⟨S, dx, v0, v1, v2, v3, v4, v5, v6, v7, a, b, rfl, hS, e1, k⟩ := h
    refine ⟨_, rfl, _, _, rfl, rfl, _, rfl, ite2 (fun c => iteT (e1 ?_)) (fun c => ?_)⟩
    · simp only [decide_eq_true_eq] at c; omega
    refine ⟨_, rfl, _, _, rfl, rfl, _, rfl, ite2 (fun c2 => e1 ?_) (fun c2 => ?_)⟩
    · simp only [decide_eq_true_eq] at c2; omega
    simp only [decide_eq_true_eq] at c c2
    refine ⟨_, rfl, _, rfl, by show 2 ≤ sizeLine; decide, fun t ht => ?_⟩
    refine ⟨_, rfl, S, _, dx, _, rfl, (upd_ne (ne_of_none hS ht)).trans hS, T.c_SheetSettings, T.na_SheetSettings_fit, of_decide_eq_true rfl, ?_⟩
    rw [put_SheetSettings_fit]
    exact k (by omega) t ht
theorem eqi (x : Int) : decide (V.int x = V.int 1) = (x == 1) := by
  by_cases h : x = 1
  · rw [h]; rfl
  · rw [decide_eq_false (fun z => h (V.int.inj z))]
    exact (beq_eq_false_iff_ne.mpr h).symm
def spHow (K : PySem.W.Frag) (A : Ad) : Sp := fun vs H Q E => ∃ (S dx wt W0 W1 d0 d1 : Addr) (v1 v2 v3 v4 v5 v6 v7 x0 x1 x2 x3 x4 x5 x6 x7 y0 y1 y2 y3 y4 y5 y6 y7 : V) (o a d f : Int), vs = [.ref S, .int o, .int a, .int d, .int f] ∧ H S = some (.ins A.C_SheetSettings dx (F_SheetSettings (.ref wt) v1 v2 v3 v4 v5 v6 v7)) ∧
  H wt = some (.tup [.ref W0, .ref W1]) ∧ H W0 = some (.ins A.C_WaySettings d0 (F_WaySettings x0 x1 x2 x3 x4 x5 x6 x7)) ∧ H W1 = some (.ins A.C_WaySettings d1 (F_WaySettings y0 y1 y2 y3 y4 y5 y6 y7)) ∧ W0 ≠ W1 ∧ W0 ≠ S ∧ W1 ≠ S ∧
  ((f < -1000000 ∨ 1000000 < f) → E (.ref A.X_OutOfRange) none H) ∧ (¬ (f < -1000000 ∨ 1000000 < f) → Q .non (upd (upd (upd H W0 (.ins A.C_WaySettings d0 (F_WaySettings x0 x1 x2 x3 x4 (.bl (d == 1)) x6 x7))) W1 (.ins A.C_WaySettings d1 (F_WaySettings y0 y1 y2 y3 y4 (.bl (a == 1)) y6 y7))) S (.ins A.C_SheetSettings dx (F_SheetSettings (.ref wt) v1 v2 v3 (.bl (o == 1)) (.int f) v6 v7))))
theorem ok_How (T : Txt K mg A) : Ok P w K mg base (L2.CX P w) 1 A.f_SheetSettings_set_how p_SheetSettings_set_how (spHow K A) := by
  obtain ⟨fd, F, B⟩ := T.fn_SheetSettings_set_how.ex
  have nd := sc_SheetSettings_set_how.nd
  obtain ⟨t1, h_FARTHEST_FIRST_NUMBER⟩ := T.i_FARTHEST_FIRST_NUMBER
  refine ⟨fd, B, F.okX sc_SheetSettings_set_how (fun vs H Q E h => ?_) (fun cdv A' outer s H vs Q E hr h => ?_)⟩
  · obtain ⟨S, dx, wt, W0, W1, d0, d1, v1, v2, v3, v4, v5, v6, v7, x0, x1, x2, x3, x4, x5, x6, x7, y0, y1, y2, y3, y4, y5, y6, y7, o, a, d, f, rfl, _⟩ := h
    rfl
  · have tkE := takes_of (X := cxOf (L2.CX P w) P w K mg base n_SheetSettings_set_how "SheetSettings.set_how" (defScope s_SheetSettings_set_how) A.f_SheetSettings_set_how cdv A' outer s H E) rfl rfl rfl rfl
    refine ⟨_, 
      (pss_cons (ps_if (pt_cmpR op_gt (pe_callB call_abs (by rfl) T.bl_abs (by decide +kernel) (pa_cons (pv 4) pa_nil)) (pe_glob (v := .int 1000000) rfl h_FARTHEST_FIRST_NUMBER ⟨_, rfl⟩) (nomark _)) (pss_one (ps_raise rfl tkE (pmk_own0 PySem.F.excBase_Exception T.x_OutOfRange T.g_OutOfRange T.k_OutOfRange (raises_own T.b_OutOfRange T.t_OutOfRange) (by exact rfl)))) pss_nil)
      (pss_cons (ps_set (i := 5) nd rfl (Or.inl rfl) (pe_ix ix_tup (pe_fld (pv 0) rfl) pe_int (fun _ _ => rfl)))
      (pss_cons (ps_set (i := 6) nd rfl (Or.inl rfl) (pe_ix ix_tup (pe_fld (pv 0) rfl) pe_int (fun _ _ => rfl)))
      (pss_cons (ps_fld (pv 5) (pe_cmpR op_eq (pv 3) pe_int (nomark _)) rfl)
      (pss_cons (ps_fld (pv 6) (pe_cmpR op_eq (pv 2) pe_int (nomark _)) rfl)
      (pss_cons (ps_fld (pv 0) (pe_cmpR op_eq (pv 1) pe_int (nomark _)) rfl)
      (pss_one (ps_fld (pv 0) (pv 4) rfl)))))))), ?_⟩
    obtain ⟨S, dx, wt, W0, W1, d0, d1, v1, v2, v3, v4, v5, v6, v7, x0, x1, x2, x3, x4, x5, x6, x7, y0, y1, y2, y3, y4, y5, y6, y7, o, a, d, f, rfl, hS, hw, h0, h1, n01, n0, n1, e1, k⟩ := h
    refine ⟨_, rfl, f, rfl, _, _, rfl, rfl, _, rfl, ite2 (fun c => e1 ?_) (fun c => ?_)⟩
    · simp only [decide_eq_true_eq] at c; split at c <;> omega
    have ok : ¬ (f < -1000000 ∨ 1000000 < f) := by simp only [decide_eq_true_eq] at c; split at c <;> omega
    refine ⟨_, rfl, S, _, dx, _, _, rfl, hS, T.c_SheetSettings, T.na_SheetSettings_ways, lk_SheetSettings_ways, wt, _, 0, .ref W0, rfl, rfl, SqT.of hw, rfl, ?_⟩
    refine ⟨_, rfl, S, _, dx, _, _, rfl, hS, T.c_SheetSettings, T.na_SheetSettings_ways, lk_SheetSettings_ways, wt, _, 1, .ref W1, rfl, rfl, SqT.of hw, rfl, ?_⟩
    refine ⟨_, rfl, rfl, ?_⟩
    refine ⟨_, rfl, W0, _, d0, _, rfl, h0, T.c_WaySettings, T.na_WaySettings_in_middle, of_decide_eq_true rfl, ?_⟩
    rw [put_WaySettings_in_middle]
    refine ⟨_, rfl, rfl, _, rfl, W1, _, d1, _, rfl, (upd_ne (Ne.symm n01)).trans h1, T.c_WaySettings, T.na_WaySettings_in_middle, of_decide_eq_true rfl, ?_⟩
    rw [put_WaySettings_in_middle]
    refine ⟨_, rfl, rfl, _, rfl, S, _, dx, _, rfl, (upd_ne (Ne.symm n1)).trans ((upd_ne (Ne.symm n0)).trans hS), T.c_SheetSettings, T.na_SheetSettings_beside_first, of_decide_eq_true rfl, ?_⟩
    rw [put_SheetSettings_beside_first]
    refine ⟨_, rfl, _, rfl, S, _, dx, _, rfl, upd_same, T.c_SheetSettings, T.na_SheetSettings_first_number, of_decide_eq_true rfl, ?_⟩
    rw [put_SheetSettings_first_number, upd_upd, eqi, eqi, eqi]
    exact k ok
end
end Sh

namespace Sh
open PySem PySem.Spec PyProof.Rows L2
open PySem.W (Codec)
/-! ### areas four by four -/
def four (a : Si32.Area) : List Nat := [a.row0, a.col0, a.row1, a.col1]
def intl (l : List Nat) : List Int := l.map fun (n : Nat) => (n : Int)
theorem ints_app (a b : List Nat) : intl (a ++ b) = intl a ++ intl b := List.map_append
theorem ints_len (a : List Nat) : (intl a).length = a.length := List.length_map _
theorem areas_flat : ∀ (k : Nat) (l : List Nat), l.length = 4 * k → (Si32Neutral.areasOf (intl l)).flatMap four = l ∧ (Si32Neutral.areasOf (intl l)).length = k
  | 0, [], _ => ⟨rfl, rfl⟩
  | k + 1, a :: b :: c :: d :: r, h => by
    have ih := areas_flat k r (by simp at h; omega)
    have e : Si32Neutral.areasOf (intl (a :: b :: c :: d :: r)) = ⟨a, b, c, d⟩ :: Si32Neutral.areasOf (intl r) := by
      show (⟨((a : Int)).toNat, ((b : Int)).toNat, ((c : Int)).toNat, ((d : Int)).toNat⟩ : Si32.Area) :: _ = _
      simp only [Int.toNat_natCast]
      rfl
    rw [e]
    refine ⟨?_, ?_⟩
    · rw [List.flatMap_cons, ih.1]; rfl
    · rw [List.length_cons, ih.2]
  | 0, _ :: _, h => by simp at h
  | k + 1, [], h => by simp at h
  | k + 1, [_], h => by simp at h; omega
  | k + 1, [_, _], h => by simp at h; omega
  | k + 1, [_, _, _], h => by simp at h; omega
theorem flat_len : ∀ (as : List Si32.Area), (as.flatMap four).length = 4 * as.length
  | [] => rfl
  | a :: r => by rw [List.flatMap_cons, List.length_append, flat_len r, List.length_cons]; show 4 + _ = _; omega
theorem flat_split {as : List Si32.Area} {i : Nat} {a : Si32.Area} (h : as[i]? = some a) : intl (as.flatMap four) = intl ((as.take i).flatMap four) ++ (intl (four a) ++ intl ((as.drop (i + 1)).flatMap four)) := by
  rw [← ints_app, ← ints_app]
  congr 1
  conv => lhs; rw [split_get h]
  rw [List.flatMap_append, List.flatMap_cons]
theorem rg4 (k : Nat) (hk : k ≤ 1000) : RgC 0 ((4 * k : Nat) : Int) 4 k := by
  have e : Builtin.Range.rangeSize 0 ((4 * k : Nat) : Int) 4 = k := by
    unfold Builtin.Range.rangeSize
    rw [if_pos (by decide)]
    split <;> omega
  refine ⟨by decide, by decide, ?_, e⟩
  have fits : ∀ i : Int, -10000 ≤ i → i ≤ 10000 → Builtin.Range.rangeFitsLong i = true := fun i h1 h2 => by
    unfold Builtin.Range.rangeFitsLong
    rw [Bool.and_eq_true]
    exact ⟨decide_eq_true (by omega), decide_eq_true (by omega)⟩
  unfold Builtin.Range.small
  rw [e, if_pos (by decide), fits _ (by omega) (by omega), fits _ (by omega) (by omega), fits _ (by omega) (by omega), fits _ (by omega) (by omega), fits _ (by omega) (by omega)]
  simp
/-- a list of areas in the heap -/
def areaV (a : Si32.Area) : List V := iv (intl (four a))
def AreasAt (H : Hp) (l : Addr) (as : List Si32.Area) : Prop := ∃ ts : List Addr, H l = some (.lst (ts.map V.ref)) ∧ ts.length = as.length ∧ ∀ (j : Nat) t a, ts[j]? = some t → as[j]? = some a → H t = some (.tup (areaV a))
theorem AreasAt.keep {H H' : Hp} {l : Addr} {as : List Si32.Area} (h : AreasAt H l as) (k : ∀ b o, H b = some o → (b = l ∨ ∃ xs, o = .tup xs) → H' b = some o) : AreasAt H' l as := by
  obtain ⟨ts, h1, h2, h3⟩ := h
  exact ⟨ts, k _ _ h1 (.inl rfl), h2, fun j t a q1 q2 => k _ _ (h3 j t a q1 q2) (.inr ⟨_, rfl⟩)⟩
def spAreas (K : PySem.W.Frag) (A : Ad) : Sp := fun vs H Q E => ∃ (S dx wt W0 W1 d0 d1 q : Addr) (fs : List (Str × V)) (x1 x2 x3 x4 x5 x6 x7 y1 y2 y3 y4 y5 y6 y7 : V) (as : List Si32.Area),
  vs = [.ref S, .ref q] ∧ H S = some (.ins A.C_SheetSettings dx fs) ∧ fs.length < 1000 ∧ fs.lookup ("ways" : Str) = some (V.ref wt) ∧ H wt = some (.tup [.ref W0, .ref W1]) ∧
  H W0 = some (.ins A.C_WaySettings d0 (F_WaySettings (.int 4096) x1 x2 x3 x4 x5 x6 x7)) ∧ H W1 = some (.ins A.C_WaySettings d1 (F_WaySettings (.int 256) y1 y2 y3 y4 y5 y6 y7)) ∧
  SqL K H q (iv (intl (as.flatMap four))) ∧ as.length ≤ 1000 ∧
  (as.all Si32.goodArea = false → ∀ H', Same H H' → E (.ref A.X_OutOfRange) none H') ∧
  (as.all Si32.goodArea = true → 32 < as.length → ∀ H', Same H H' → E (.ref A.X_TooMany) none H') ∧
  (as.all Si32.goodArea = true → as.length ≤ 32 → ∀ (H' : Hp) (al : Addr), H al = none → AreasAt H' al as → H' S = some (.ins A.C_SheetSettings dx (putF "areas" (.ref al) fs)) → (∀ b o, H b = some o → b ≠ S → H' b = some o) → Q .non H')
theorem good_area (a : Si32.Area) : Si32.goodArea a = true ↔ ¬ badSpan 4096 a.row0 a.row1 ∧ ¬ badSpan 256 a.col0 a.col1 := by
  unfold Si32.goodArea badSpan Si32.ROWS Si32.COLS
  simp only [Bool.and_eq_true, decide_eq_true_eq]
  omega
section
variable {P : Program} {w : World} {K : PySem.W.Frag} {mg : Str → Option Value} {base : Heap} {A : Ad}
theorem ok_Areas (T : Txt K mg A) : Ok P w K mg base (L2.CX P w) 2 A.f_SheetSettings_set_areas p_SheetSettings_set_areas (spAreas K A) := by
  obtain ⟨fd, F, B⟩ := T.fn_SheetSettings_set_areas.ex
  have nd := sc_SheetSettings_set_areas.nd
  obtain ⟨_, B_WaySettings_check_span, G_WaySettings_check_span⟩ := (ok_Check (P := P) (w := w) (base := base) T).ex
  obtain ⟨t1, h_MOST_AREAS⟩ := T.i_MOST_AREAS
  refine ⟨fd, B, F.okX sc_SheetSettings_set_areas (fun vs H Q E h => ?_) (fun cdv A' outer s H vs Q E hr h => ?_)⟩
  · obtain ⟨S, dx, wt, W0, W1, d0, d1, q, fs, x1, x2, x3, x4, x5, x6, x7, y1, y2, y3, y4, y5, y6, y7, as, rfl, _⟩ := h
    rfl
  · have tkE := takes_of (X := cxOf (L2.CX P w) P w K mg base n_SheetSettings_set_areas "SheetSettings.set_areas" (defScope s_SheetSettings_set_areas) A.f_SheetSettings_set_areas cdv A' outer s H E) rfl rfl rfl rfl
    have pX := passes_call tkE (E := E) (fun _ _ _ _ h => h)
    have pown := passes_of (X := cxOf (L2.CX P w) P w K mg base n_SheetSettings_set_areas "SheetSettings.set_areas" (defScope s_SheetSettings_set_areas) A.f_SheetSettings_set_areas cdv A' outer s H E) rfl
    refine ⟨_, 
      (pss_cons (ps_set (i := 2) nd rfl (Or.inl rfl) (pe_lst pa_nil))
      (pss_cons (ps_for pown rfl (pi_range3 (by rfl) T.bl_range (pa_cons pe_int (pa_cons (pe_callB call_len_seq (by rfl) T.bl_len PySem.boot_len (pa_cons (pv 1) pa_nil)) (pa_cons pe_int pa_nil)))) (pg_name (i := 3) nd rfl (Or.inl rfl)) (pss_cons (ps_set (i := 4) nd rfl (Or.inl rfl) (pe_callTy call_tuple_of (by rfl) T.bl_tuple (by decide +kernel) (pa_cons (pe_slice sl_list (pv 1) (po_some (pv 3)) (po_some (pe_op op_add (pv 3) pe_int))) pa_nil)))
        (pss_cons (ps_expr (pe_meth (pe_ix ix_tup (pe_fld (pv 0) rfl) pe_int (fun _ _ => rfl)) T.c_WaySettings T.m_WaySettings_check_span G_WaySettings_check_span hr B_WaySettings_check_span .nil pX (pa_cons (pe_ix ix_tup (pv 4) pe_int (fun _ _ => rfl)) (pa_cons (pe_ix ix_tup (pv 4) pe_int (fun _ _ => rfl)) pa_nil))))
        (pss_cons (ps_expr (pe_meth (pe_ix ix_tup (pe_fld (pv 0) rfl) pe_int (fun _ _ => rfl)) T.c_WaySettings T.m_WaySettings_check_span G_WaySettings_check_span hr B_WaySettings_check_span .nil pX (pa_cons (pe_ix ix_tup (pv 4) pe_int (fun _ _ => rfl)) (pa_cons (pe_ix ix_tup (pv 4) pe_int (fun _ _ => rfl)) pa_nil))))
        (pss_one (ps_expr (pe_bm PySem.F.plainAttrs_list PySem.F.slot_list_append PySem.F.type_list_append mt_append (pv 2) (pa_cons (pv 4) pa_nil))))))))
      (pss_cons (ps_if (pt_cmpR op_gt (pe_callB call_len_seq (by rfl) T.bl_len PySem.boot_len (pa_cons (pv 2) pa_nil)) (pe_glob (v := .int 32) rfl h_MOST_AREAS ⟨_, rfl⟩) (nomark _)) (pss_one (ps_raise rfl tkE (pmk_own0 PySem.F.excBase_Exception T.x_TooMany T.g_TooMany T.k_TooMany (raises_own T.b_TooMany T.t_TooMany) (by exact rfl)))) pss_nil)
      (pss_one (ps_fld (pv 0) (pv 2) rfl))))), ?_⟩
    obtain ⟨S, dx, wt, W0, W1, d0, d1, q, fs, x1, x2, x3, x4, x5, x6, x7, y1, y2, y3, y4, y5, y6, y7, as, rfl, hS, hfs, lw, hw, h0, h1, hq, hlen, e1, e2, k⟩ := h
    refine ⟨by show 0 ≤ sizeLine; decide, fun al hal => ?_⟩
    have Sa : S ≠ al := ne_of_none hS hal
    have hq1 : SqL K (upd H al (.lst [])) q (iv (intl (as.flatMap four))) := Same.seq (fun b o h => (upd_ne (ne_of_none h hal)).trans h) hq
    refine ⟨_, rfl, q, _, rfl, .inl hq1, 0, _, 4, as.length, rfl, ?_, ?_⟩
    · rw [iv_len, ints_len, flat_len]
      exact rg4 _ hlen
    refine for_rangeC (lo := 0) (c := 4) (n := as.length) (fun i σ H' => ∃ (ts : List Addr) (x y : Option V), σ = [some (.ref S), some (.ref q), some (.ref al), x, y] ∧ Same H H' ∧ H' al = some (.lst (ts.map V.ref)) ∧ ts.length = i ∧ (as.take i).all Si32.goodArea = true ∧
      ∀ (j : Nat) t a, ts[j]? = some t → as[j]? = some a → H' t = some (.tup (areaV a)) ∧ H t = none ∧ t ≠ al) ?_ ?_ ?_
    · exact ⟨[], _, _, rfl, fun b o h => (upd_ne (ne_of_none h hal)).trans h, upd_same, rfl, rfl, fun j t a h => by simp at h⟩
    · rintro i σ H' hi ⟨ts, x, y, rfl, s2, hl2, hn2, ha2, hr2⟩
      have hg := List.getElem?_eq_getElem hi
      have hq2 := Same.seq s2 hq
      have hf := flat_split hg
      refine ⟨_, rfl, _, rfl, _, rfl, _, rfl, _, _, rfl, rfl, _, rfl, q, _, rfl, hq2, fun p hp => ?_⟩
      rw [cut_iv hf (by rw [ints_len, flat_len, List.length_take]; omega) (by rw [ints_len, ints_len, flat_len, List.length_take]; show _ = _ + ((4 : Nat) : Int); omega)]
      have pal : p ≠ al := Ne.symm (ne_of_none hl2 hp)
      refine ⟨p, _, rfl, .inl ⟨SqL.of upd_same, fun t ht => ?_⟩⟩
      have tp : t ≠ p := Ne.symm (ne_of_none upd_same ht)
      have ht' : H' t = none := by rw [upd_ne tp] at ht; exact ht
      have tal : t ≠ al := Ne.symm (ne_of_none hl2 ht')
      have S3 : ∀ b o, H b = some o → upd (upd H' p (.lst (iv (intl (four as[i]))))) t (.tup (areaV as[i])) b = some o := fun b o hb => by
        have := s2 b o hb
        rw [upd_ne (ne_of_none this ht'), upd_ne (ne_of_none this hp)]; exact this
      have tH : H t = none := Same.free s2 ht'
      have pH : H p = none := Same.free s2 hp
      refine ⟨_, rfl, S, _, dx, _, _, rfl, S3 _ _ hS, T.c_SheetSettings, T.na_SheetSettings_ways, lw, wt, _, 0, .ref W0, rfl, rfl, SqT.of (S3 _ _ hw), rfl, W0, d0, _, rfl, S3 _ _ h0, nm_WaySettings_check_span, ?_⟩
      refine ⟨_, rfl, t, _, 0, .int (as[i].row0 : Nat), rfl, rfl, SqT.of upd_same, rfl, _, rfl, t, _, 2, .int (as[i].row1 : Nat), rfl, rfl, SqT.of upd_same, rfl, ?_⟩
      refine ⟨W0, d0, 4096, as[i].row0, as[i].row1, _, _, _, _, _, _, _, rfl, S3 _ _ h0, fun c => e1 ?_ _ S3, fun c => ?_⟩
      · exact List.all_eq_false.mpr ⟨_, List.getElem_mem hi, fun g => ((good_area _).mp g).1 c⟩
      refine ⟨_, rfl, S, _, dx, _, _, rfl, S3 _ _ hS, T.c_SheetSettings, T.na_SheetSettings_ways, lw, wt, _, 1, .ref W1, rfl, rfl, SqT.of (S3 _ _ hw), rfl, W1, d1, _, rfl, S3 _ _ h1, nm_WaySettings_check_span, ?_⟩
      refine ⟨_, rfl, t, _, 1, .int (as[i].col0 : Nat), rfl, rfl, SqT.of upd_same, rfl, _, rfl, t, _, 3, .int (as[i].col1 : Nat), rfl, rfl, SqT.of upd_same, rfl, ?_⟩
      refine ⟨W1, d1, 256, as[i].col0, as[i].col1, _, _, _, _, _, _, _, rfl, S3 _ _ h1, fun c2 => e1 ?_ _ S3, fun c2 => ?_⟩
      · exact List.all_eq_false.mpr ⟨_, List.getElem_mem hi, fun g => ((good_area _).mp g).2 c2⟩
      have hl3 : upd (upd H' p (.lst (iv (intl (four as[i]))))) t (.tup (areaV as[i])) al = some (.lst (ts.map V.ref)) := by
        rw [upd_ne (Ne.symm tal), upd_ne (Ne.symm pal)]; exact hl2
      refine ⟨_, rfl, .inl ⟨rfl, _, SqL.of hl3⟩, _, rfl, al, _, _, rfl, rfl, hl3, by rw [List.length_map, hn2, sizeLine_eq]; omega, ts ++ [t], _, _, rfl, fun b o hb => ?_, by rw [upd_same, List.map_append]; rfl, by rw [List.length_append, hn2]; rfl, ?_, fun j t' a g1 g2 => ?_⟩
      · rw [upd_ne (ne_of_none hb hal)]; exact S3 b o hb
      · rw [take_snoc hg, List.all_append, ha2]
        simp only [List.all_cons, List.all_nil, Bool.and_true, Bool.true_and]
        exact (good_area _).mpr ⟨c, c2⟩
      · rcases Nat.lt_or_ge j ts.length with h | h
        · rw [List.getElem?_append_left h] at g1
          obtain ⟨z1, z2, z3⟩ := hr2 j t' a g1 g2
          exact ⟨by rw [upd_ne z3, upd_ne (ne_of_none z1 ht'), upd_ne (ne_of_none z1 hp)]; exact z1, z2, z3⟩
        · rw [List.getElem?_append_right h] at g1
          have e8 : j - ts.length = 0 := by
            rcases Nat.eq_zero_or_pos (j - ts.length) with h0 | h0
            · exact h0
            · rw [List.getElem?_eq_none_iff.mpr (by simp; omega)] at g1; cases g1
          rw [e8] at g1
          have e9 : t = t' := Option.some.inj g1
          subst e9
          have e10 : j = i := by omega
          subst e10
          rw [hg] at g2
          have e11 := Option.some.inj g2
          subst e11
          exact ⟨by rw [upd_ne tal]; exact upd_same, tH, tal⟩
    · rintro σ H' ⟨ts, x, y, rfl, s2, hl2, hn2, ha2, hr2⟩
      rw [List.take_length] at ha2
      refine ⟨_, rfl, al, _, rfl, .inl (SqL.of hl2), _, _, rfl, rfl, _, rfl, ite2 (fun c => e2 ha2 ?_ _ s2) (fun c => ?_)⟩
      · rw [List.length_map, hn2] at c
        simp only [decide_eq_true_eq] at c
        omega
      rw [List.length_map, hn2] at c
      simp only [decide_eq_true_eq] at c
      refine ⟨_, rfl, _, rfl, S, _, dx, _, rfl, s2 _ _ hS, T.c_SheetSettings, T.na_SheetSettings_areas, hfs, ?_⟩
      refine k ha2 (by omega) _ al hal ⟨ts, (upd_ne (Ne.symm Sa)).trans hl2, hn2, fun j t a g1 g2 => ?_⟩ upd_same fun b o hb hne => (upd_ne hne).trans (s2 b o hb)
      obtain ⟨z1, z2, z3⟩ := hr2 j t a g1 g2
      rw [upd_ne (Ne.symm (ne_of_none hS z2))]
      exact z1
end
end Sh

namespace Sh
open PySem PySem.Spec PyProof.Rows L2
open PySem.W (Codec)
/-! ### how a way's bands lie in the heap -/
def preV (w : Si32.Way) (n : Nat) : List V := (List.range (n + 1)).map fun i => V.int (pre w i : Nat)
structure BndAt (K : PySem.W.Frag) (A : Ad) (H : Hp) (R : Addr) (w : Si32.Way) (ed sp : Nat) (md : Bool) : Prop where
  ex : ∃ dx W L bd sl, H R = some (.ins A.C_WayBands dx (F_WayBands (.ref W) (.ref sl))) ∧ WayAt K A.C_WaySettings H W L bd w ed sp md ∧ H sl = some (.lst (preV w w.most)) ∧ W ≠ R
theorem BndAt.keep {K : PySem.W.Frag} {A : Ad} {H H' : Hp} {R : Addr} {w : Si32.Way} {ed sp : Nat} {md : Bool} (h : BndAt K A H R w ed sp md) (k : ∀ b o, H b = some o → H' b = some o) : BndAt K A H' R w ed sp md := by
  obtain ⟨dx, W, L, bd, sl, h1, h2, h3, h4⟩ := h
  exact ⟨dx, W, L, bd, sl, k _ _ h1, h2.keep fun b o hb _ => k b o hb, k _ _ h3, h4⟩
theorem preV_get (w : Si32.Way) {n i : Nat} (h : i ≤ n) : (preV w n)[i]? = some (V.int (pre w i : Nat)) := by
  unfold preV
  rw [List.getElem?_map, List.getElem?_range (by omega)]
  rfl
section
variable {P : Program} {w : World} {K : PySem.W.Frag} {mg : Str → Option Value} {base : Heap} {A : Ad}
/-! ### WayBands.__init__ -/
def spBndInit (K : PySem.W.Frag) (A : Ad) : Sp := fun vs H Q _ => ∃ (R dx W L bd : Addr) (w : Si32.Way) (ed sp : Int) (md : Bool), vs = [.ref R, .ref W] ∧ H R = some (.ins A.C_WayBands dx []) ∧ W ≠ R ∧ w.most ≤ 5000 ∧ WayAt K A.C_WaySettings H W L bd w ed sp md ∧
  ∀ (H' : Hp) (sl : Addr), H' R = some (.ins A.C_WayBands dx (F_WayBands (.ref W) (.ref sl))) → H sl = none → H' sl = some (.lst (preV w w.most)) → (∀ b o, H b = some o → b ≠ R → H' b = some o) → Q .non H'
theorem ok_BndInit (T : Txt K mg A) : Ok P w K mg base CX0 1 A.f_WayBands__init_ p_WayBands__init_ (spBndInit K A) := by
  obtain ⟨fd, F, B⟩ := T.fn_WayBands__init_.ex
  have nd := sc_WayBands__init_.nd
  refine ⟨fd, B, F.ok sc_WayBands__init_ (fun vs H Q E h => ?_) (fun cdv A' outer s H vs Q E hr h => ⟨_,
      (pss_cons (ps_fld (pv 0) (pv 1) rfl)
      (pss_cons (ps_fld (pv 0) (pe_lst (pa_cons pe_int pa_nil)) rfl)
      (pss_one (ps_for PassesOwn.never rfl (pi_list (pe_fld (pv 1) rfl)) (pg_name (i := 2) nd rfl (Or.inl rfl)) (pss_one (ps_expr (pe_bm PySem.F.plainAttrs_list PySem.F.slot_list_append PySem.F.type_list_append mt_append (pe_fld (pv 0) rfl) (pa_cons (pe_op op_add (pe_ix ix_list (pe_fld (pv 0) rfl) (pe_un un_neg pe_int) (fun _ _ => rfl)) (pv 2)) pa_nil)))))))), ?_⟩)⟩
  · obtain ⟨R, dx, W, L, bd, w, ed, sp, md, rfl, _⟩ := h
    rfl
  · obtain ⟨R, dx, W, L, bd, w, ed, sp, md, rfl, hR, WR, hm, hW, k⟩ := h
    obtain ⟨⟨dw, tv, hp, ht⟩, hL, kvs, hb, hk⟩ := id hW
    refine ⟨_, rfl, _, rfl, R, _, dx, _, rfl, hR, T.c_WayBands, T.na_WayBands_way, by decide, ?_⟩
    rw [nw_WayBands_0]
    refine ⟨by show 1 ≤ sizeLine; decide, fun sl hsl => ?_⟩
    have Rsl : R ≠ sl := ne_of_none upd_same hsl
    have hslH : H sl = none := by rw [upd_ne (Ne.symm Rsl)] at hsl; exact hsl
    refine ⟨_, rfl, R, _, dx, _, rfl, (upd_ne Rsl).trans upd_same, T.c_WayBands, T.na_WayBands_starts, of_decide_eq_true rfl, ?_⟩
    rw [nw_WayBands_1]
    have k0 : ∀ b o, H b = some o → b ≠ R → upd (upd (upd H R (.ins A.C_WayBands dx [("way", .ref W)])) sl (.lst [.int 0])) R (.ins A.C_WayBands dx [("way", .ref W), ("starts", .ref sl)]) b = some o := fun b o hb hn => by
      rw [upd_ne hn, upd_ne (ne_of_none hb hslH), upd_ne hn]; exact hb
    have LR : L ≠ R := ne_of hL hR (by intro z; cases z)
    refine ⟨_, rfl, W, _, dw, _, _, rfl, k0 _ _ hp WR, T.c_WaySettings, T.na_WaySettings_sizes, lk_WaySettings_sizes, L, rfl, ⟨_, SqL.of (k0 _ _ hL LR)⟩, ?_⟩
    refine for_list (xs := szV w) (fun i σ H' => (∃ x, σ = [some (.ref R), some (.ref W), x]) ∧ H' R = some (.ins A.C_WayBands dx (F_WayBands (.ref W) (.ref sl))) ∧ H' sl = some (.lst (preV w i)) ∧ ∀ b o, H b = some o → b ≠ R → H' b = some o) ⟨⟨_, rfl⟩, upd_same, (upd_ne (Ne.symm Rsl)).trans upd_same, k0⟩ ?_ ?_ ?_
    · rintro i σ H' _ ⟨_, _, _, s4⟩
      exact SqL.of (s4 _ _ hL LR)
    · rintro i x σ H' hx ⟨⟨y, rfl⟩, s2, s3, s4⟩
      have hi : i < w.most := by
        have := (List.getElem?_eq_some_iff.mp hx).1
        unfold szV at this
        rw [List.length_map, List.length_range] at this
        exact this
      have ex : x = V.int (w.size i : Nat) := by
        unfold szV at hx
        rw [List.getElem?_map, List.getElem?_range hi] at hx
        exact (Option.some.inj hx).symm
      subst ex
      have elast : preV w i = (List.range i).map (fun j => V.int (pre w j : Nat)) ++ [V.int (pre w i : Nat)] := by
        unfold preV
        rw [List.range_succ, List.map_append]; rfl
      have enext : preV w (i + 1) = preV w i ++ [V.int (pre w (i + 1) : Nat)] := by
        unfold preV
        rw [List.range_succ (n := i + 1), List.map_append]; rfl
      refine ⟨_, rfl, R, _, dx, _, _, rfl, s2, T.c_WayBands, T.na_WayBands_starts, lk_WayBands_starts, .inl ⟨rfl, _, SqL.of s3⟩, ?_⟩
      refine ⟨_, rfl, R, _, dx, _, _, rfl, s2, T.c_WayBands, T.na_WayBands_starts, lk_WayBands_starts, 1, rfl, sl, _, _, .int (pre w i : Nat), rfl, rfl, SqL.of s3, by rw [elast]; exact atI_last _ _, ?_⟩
      refine ⟨_, rfl, _, _, rfl, rfl, sl, _, _, rfl, rfl, s3, ?_, ⟨_, rfl⟩, ?_, ?_, ?_⟩
      · unfold preV; rw [List.length_map, List.length_range, sizeLine_eq]; omega
      · rw [upd_ne Rsl]; exact s2
      · rw [upd_same, enext]
        rfl
      · intro b o hb hn
        rw [upd_ne (ne_of_none hb hslH)]; exact s4 b o hb hn
    · rintro σ H' ⟨_, s2, s3, s4⟩
      have e : (szV w).length = w.most := by unfold szV; rw [List.length_map, List.length_range]
      rw [e] at s3
      exact k H' sl s2 hslH s3 s4
end
end Sh

namespace Sh
open PySem PySem.Spec PyProof.Rows L2
open PySem.W (Codec)
/-- a reading of a test that asks less of less -/
def MonoT (c : TT) : Prop := ∀ σ H Q Q', (∀ b H1, Q b H1 → Q' b H1) → c σ H Q → c σ H Q'
theorem mono_and {t u : TT} (ht : MonoT t) (hu : MonoT u) : MonoT (tAnd t u) := fun σ H Q Q' hq h => ht σ H _ _ (fun c H1 q => by
  cases c with
  | true => exact hu σ H1 Q Q' hq q
  | false => exact hq _ _ q) h
theorem mono_not {t : TT} (ht : MonoT t) : MonoT (tNot t) := fun σ H Q Q' hq h => ht σ H _ _ (fun c H1 q => hq _ _ q) h
/-- a way within what the document lets it be -/
def GW (w : Si32.Way) : Prop := ∃ u, GoodW w w.most u ∧ w.most ≤ 4096 ∧ u ≤ 10000
theorem GW.ord {w : Si32.Way} (g : GW w) : ∀ t, w.titles = some t → t.1 ≤ t.2 := by
  obtain ⟨u, g, _⟩ := g
  exact fun t ht => (g.titles t ht).1
theorem GW.pre {w : Si32.Way} (g : GW w) (i : Nat) : pre w i ≤ 10000 * i := by
  obtain ⟨u, g, _, hu⟩ := g
  exact pre_le g hu i
theorem GW.most {w : Si32.Way} (g : GW w) : w.most ≤ 4096 := by
  obtain ⟨u, g, h, _⟩ := g
  exact h
theorem GW.ag {w : Si32.Way} (g : GW w) (i : Nat) : ag w i ≤ 10000 * i := by
  have h1 := (ag_both w i g.ord).2
  have h2 := ag_le w i g.ord
  have h3 := g.pre (agEnd w i)
  have : 10000 * agEnd w i ≤ 10000 * i := Nat.mul_le_mul_left _ h2.2
  omega
section
variable {P : Program} {w : World} {K : PySem.W.Frag} {mg : Str → Option Value} {base : Heap} {A : Ad}
/-! ### WayBands.again_from, again_end -/
def spAgain (f : Si32.Way → Nat → Nat) (K : PySem.W.Frag) (A : Ad) : Sp := fun vs H Q _ => ∃ (R : Addr) (w : Si32.Way) (ed sp : Nat) (md : Bool) (i : Nat), vs = [.ref R, .int i] ∧ BndAt K A H R w ed sp md ∧ Q (.int (f w i : Nat)) H
theorem min_cast (a b : Nat) : (if (b : Int) < (a : Int) then (b : Int) else (a : Int)) = ((min a b : Nat) : Int) := by
  split <;> omega
theorem ok_AgainFrom (T : Txt K mg A) : Ok P w K mg base CX0 1 A.f_WayBands_again_from p_WayBands_again_from (spAgain agFrom K A) := by
  obtain ⟨fd, F, B⟩ := T.fn_WayBands_again_from.ex
  have nd := sc_WayBands_again_from.nd
  refine ⟨fd, B, F.ok sc_WayBands_again_from (fun vs H Q E h => ?_) (fun cdv A' outer s H vs Q E hr h => ⟨_,
      (pss_cons (ps_set (i := 2) nd rfl (Or.inl rfl) (pe_fld (pe_fld (pv 0) rfl) rfl))
      (pss_cons (ps_if (pt_cmpR op_isN (pv 2) pe_non (nomark _)) (pss_one (ps_ret (pv 1))) pss_nil)
      (pss_one (ps_ret (pe_callB (call_min2 rfl) (by rfl) T.bl_min (by decide +kernel) (pa_cons (pe_ix ix_tup (pv 2) pe_int (fun _ _ => rfl)) (pa_cons (pv 1) pa_nil))))))), ?_⟩)⟩
  · obtain ⟨R, w, ed, sp, md, i, rfl, _⟩ := h
    rfl
  · obtain ⟨R, w, ed, sp, md, i, rfl, ⟨dx, W, L, bd, sl, hR, ⟨⟨dw, tv, hp, ht⟩, hL, kvs, hb, hk⟩, hs, WR⟩, k⟩ := h
    refine ⟨_, rfl, R, _, dx, _, _, rfl, hR, T.c_WayBands, T.na_WayBands_way, lk_WayBands_way, W, _, dw, _, _, rfl, hp, T.c_WaySettings, T.na_WaySettings_titles, lk_WaySettings_titles, _, rfl, rfl, _, rfl, ?_⟩
    revert ht k
    unfold TitV agFrom
    cases w.titles with
    | none =>
      rintro k rfl
      exact iteT ⟨_, rfl, k⟩
    | some q =>
      rintro k ⟨t, rfl, ht⟩
      refine iteF ⟨_, rfl, t, _, 0, .int (q.1 : Nat), rfl, rfl, SqT.of ht, rfl, _, rfl, _, _, rfl, ?_⟩
      rw [min_cast]
      exact k
theorem ok_AgainEnd (T : Txt K mg A) : Ok P w K mg base CX0 1 A.f_WayBands_again_end p_WayBands_again_end (spAgain agEnd K A) := by
  obtain ⟨fd, F, B⟩ := T.fn_WayBands_again_end.ex
  have nd := sc_WayBands_again_end.nd
  refine ⟨fd, B, F.ok sc_WayBands_again_end (fun vs H Q E h => ?_) (fun cdv A' outer s H vs Q E hr h => ⟨_,
      (pss_cons (ps_set (i := 2) nd rfl (Or.inl rfl) (pe_fld (pe_fld (pv 0) rfl) rfl))
      (pss_cons (ps_if (pt_cmpR op_isN (pv 2) pe_non (nomark _)) (pss_one (ps_ret (pv 1))) pss_nil)
      (pss_one (ps_ret (pe_callB (call_min2 rfl) (by rfl) T.bl_min (by decide +kernel) (pa_cons (pe_op op_add (pe_ix ix_tup (pv 2) pe_int (fun _ _ => rfl)) pe_int) (pa_cons (pv 1) pa_nil))))))), ?_⟩)⟩
  · obtain ⟨R, w, ed, sp, md, i, rfl, _⟩ := h
    rfl
  · obtain ⟨R, w, ed, sp, md, i, rfl, ⟨dx, W, L, bd, sl, hR, ⟨⟨dw, tv, hp, ht⟩, hL, kvs, hb, hk⟩, hs, WR⟩, k⟩ := h
    refine ⟨_, rfl, R, _, dx, _, _, rfl, hR, T.c_WayBands, T.na_WayBands_way, lk_WayBands_way, W, _, dw, _, _, rfl, hp, T.c_WaySettings, T.na_WaySettings_titles, lk_WaySettings_titles, _, rfl, rfl, _, rfl, ?_⟩
    revert ht k
    unfold TitV agEnd
    cases w.titles with
    | none =>
      rintro k rfl
      exact iteT ⟨_, rfl, k⟩
    | some q =>
      rintro k ⟨t, rfl, ht⟩
      refine iteF ⟨_, rfl, t, _, 1, .int (q.2 : Nat), rfl, rfl, SqT.of ht, rfl, _, _, rfl, rfl, _, rfl, (q.2 + 1 : Nat), i, rfl, ?_⟩
      rw [min_cast]
      exact k
/-! ### WayBands.count_again, again_size -/
def spCountAgain (K : PySem.W.Frag) (A : Ad) : Sp := fun vs H Q _ => ∃ (R : Addr) (w : Si32.Way) (ed sp : Nat) (md : Bool) (i : Nat), vs = [.ref R, .int i] ∧ BndAt K A H R w ed sp md ∧ GW w ∧ Q (.int ((w.again i).length : Nat)) H
theorem ok_CountAgain (T : Txt K mg A) : Ok P w K mg base CX0 2 A.f_WayBands_count_again p_WayBands_count_again (spCountAgain K A) := by
  obtain ⟨fd, F, B⟩ := T.fn_WayBands_count_again.ex
  have nd := sc_WayBands_count_again.nd
  obtain ⟨_, B_WayBands_again_from, G_WayBands_again_from⟩ := (ok_AgainFrom (P := P) (w := w) (base := base) T).ex
  obtain ⟨_, B_WayBands_again_end, G_WayBands_again_end⟩ := (ok_AgainEnd (P := P) (w := w) (base := base) T).ex
  refine ⟨fd, B, F.ok sc_WayBands_count_again (fun vs H Q E h => ?_) (fun cdv A' outer s H vs Q E hr h => ⟨_,
      (pss_one (ps_ret (pe_op op_sub (pe_meth (pv 0) T.c_WayBands T.m_WayBands_again_end G_WayBands_again_end hr B_WayBands_again_end .nil pass0 (pa_cons (pv 1) pa_nil)) (pe_meth (pv 0) T.c_WayBands T.m_WayBands_again_from G_WayBands_again_from hr B_WayBands_again_from .nil pass0 (pa_cons (pv 1) pa_nil))))), ?_⟩)⟩
  · obtain ⟨R, w, ed, sp, md, i, rfl, _⟩ := h
    rfl
  · obtain ⟨R, w, ed, sp, md, i, rfl, hB, g, k⟩ := h
    obtain ⟨dx, W, L, bd, sl, hR, _⟩ := hB.ex
    refine ⟨_, rfl, R, dx, _, rfl, hR, nm_WayBands_again_end, _, rfl, R, w, ed, sp, md, i, rfl, hB, ?_⟩
    refine ⟨_, rfl, R, dx, _, rfl, hR, nm_WayBands_again_from, _, rfl, R, w, ed, sp, md, i, rfl, hB, _, _, rfl, rfl, ?_⟩
    have h1 := (ag_both w i g.ord).1
    have h2 := ag_le w i g.ord
    dsimp only
    rw [show ((agEnd w i : Nat) : Int) - ((agFrom w i : Nat) : Int) = ((w.again i).length : Nat) by omega]
    exact k
def spAgainSize (K : PySem.W.Frag) (A : Ad) : Sp := fun vs H Q _ => ∃ (R : Addr) (w : Si32.Way) (ed sp : Nat) (md : Bool) (i : Nat), vs = [.ref R, .int i] ∧ BndAt K A H R w ed sp md ∧ GW w ∧ i ≤ w.most ∧ Q (.int (ag w i : Nat)) H
theorem ok_AgainSize (T : Txt K mg A) : Ok P w K mg base CX0 2 A.f_WayBands_again_size p_WayBands_again_size (spAgainSize K A) := by
  obtain ⟨fd, F, B⟩ := T.fn_WayBands_again_size.ex
  have nd := sc_WayBands_again_size.nd
  obtain ⟨_, B_WayBands_again_from, G_WayBands_again_from⟩ := (ok_AgainFrom (P := P) (w := w) (base := base) T).ex
  obtain ⟨_, B_WayBands_again_end, G_WayBands_again_end⟩ := (ok_AgainEnd (P := P) (w := w) (base := base) T).ex
  refine ⟨fd, B, F.ok sc_WayBands_again_size (fun vs H Q E h => ?_) (fun cdv A' outer s H vs Q E hr h => ⟨_,
      (pss_one (ps_ret (pe_op op_sub (pe_ix ix_list (pe_fld (pv 0) rfl) (pe_meth (pv 0) T.c_WayBands T.m_WayBands_again_end G_WayBands_again_end hr B_WayBands_again_end .nil pass0 (pa_cons (pv 1) pa_nil)) (fun _ _ => rfl)) (pe_ix ix_list (pe_fld (pv 0) rfl) (pe_meth (pv 0) T.c_WayBands T.m_WayBands_again_from G_WayBands_again_from hr B_WayBands_again_from .nil pass0 (pa_cons (pv 1) pa_nil)) (fun _ _ => rfl))))), ?_⟩)⟩
  · obtain ⟨R, w, ed, sp, md, i, rfl, _⟩ := h
    rfl
  · obtain ⟨R, w, ed, sp, md, i, rfl, hB, g, hi, k⟩ := h
    obtain ⟨dx, W, L, bd, sl, hR, _, hs, _⟩ := hB.ex
    have h1 := (ag_both w i g.ord).2
    have h2 := ag_le w i g.ord
    refine ⟨_, rfl, R, _, dx, _, _, rfl, hR, T.c_WayBands, T.na_WayBands_starts, lk_WayBands_starts, _, rfl, R, dx, _, rfl, hR, nm_WayBands_again_end, _, rfl, R, w, ed, sp, md, i, rfl, hB, sl, _, _, _, rfl, rfl, SqL.of hs, atI_nat (preV_get w (by omega)), ?_⟩
    refine ⟨_, rfl, R, _, dx, _, _, rfl, hR, T.c_WayBands, T.na_WayBands_starts, lk_WayBands_starts, _, rfl, R, dx, _, rfl, hR, nm_WayBands_again_from, _, rfl, R, w, ed, sp, md, i, rfl, hB, sl, _, _, _, rfl, rfl, SqL.of hs, atI_nat (preV_get w (by omega)), _, _, rfl, rfl, ?_⟩
    dsimp only
    rw [show ((pre w (agEnd w i) : Nat) : Int) - ((pre w (agFrom w i) : Nat) : Int) = ((ag w i : Nat) : Int) by omega]
    exact k
/-! ### WayBands.band_end -/
def spBandEnd (K : PySem.W.Frag) (A : Ad) : Sp := fun vs H Q _ => ∃ (R : Addr) (w : Si32.Way) (ed sp : Nat) (md : Bool) (a b p : Nat), vs = [.ref R, .int a, .int b, .int p] ∧ BndAt K A H R w ed sp md ∧ GW w ∧ a ≤ b ∧ b < w.most ∧ 0 < p ∧ p ≤ 400 ∧
  ∀ e : Nat, a < e → e ≤ b + 1 → (∀ k, a < k → k < e → ¬ stop w sp p a k) → (e ≤ b → stop w sp p a e) → Q (.int e) H
theorem ok_BandEnd (T : Txt K mg A) : Ok P w K mg base CX0 3 A.f_WayBands_band_end p_WayBands_band_end (spBandEnd K A) := by
  obtain ⟨fd, F, B⟩ := T.fn_WayBands_band_end.ex
  have nd := sc_WayBands_band_end.nd
  obtain ⟨_, B_WayBands_again_size, G_WayBands_again_size⟩ := (ok_AgainSize (P := P) (w := w) (base := base) T).ex
  refine ⟨fd, B, F.ok sc_WayBands_band_end (fun vs H Q E h => ?_) (fun cdv A' outer s H vs Q E hr h => ?_)⟩
  · obtain ⟨R, w, ed, sp, md, a, b, p, rfl, _⟩ := h
    rfl
  · have hu := hu_of hr
    refine ⟨_,
      (pss_cons (ps_set (i := 4) nd rfl (Or.inl rfl) (pe_op op_fdivN (pe_op op_mul pe_int (pe_fld (pe_fld (pv 0) rfl) rfl)) (pv 3)))
      (pss_cons (ps_set (i := 5) nd rfl (Or.inl rfl) (pe_op op_sub (pe_op op_add (pe_ix ix_list (pe_fld (pv 0) rfl) (pv 1) (fun _ _ => rfl)) (pv 4)) (pe_meth (pv 0) T.c_WayBands T.m_WayBands_again_size G_WayBands_again_size hr B_WayBands_again_size .nil pass0 (pa_cons (pv 1) pa_nil))))
      (pss_cons (ps_set (i := 6) nd rfl (Or.inl rfl) (pe_fld (pe_fld (pv 0) rfl) rfl))
      (pss_cons (ps_set (i := 7) nd rfl (Or.inl rfl) (pe_op op_add (pv 1) pe_int))
      (pss_cons (ps_while PassesOwn.never (PW.pt (pw_and (pt_cmpR op_le (pv 7) (pv 2) (nomark _)) (pw_and (pt_cmp (pc_dnotin hu (pv 7) (pv 6))) (pw_and1 (pt_cmpR op_le (pe_ix ix_list (pe_fld (pv 0) rfl) (pe_op op_add (pv 7) pe_int) (fun _ _ => rfl)) (pv 5) (nomark _)))))) (pss_one (ps_aug (i := 7) nd rfl (.inl rfl) pe_int ip_add)))
      (pss_one (ps_ret (pv 7)))))))), ?_⟩
    obtain ⟨R, w, ed, sp, md, a, b, p, rfl, hB, g, hab, hb, hp0, hp, k⟩ := h
    obtain ⟨dx, W, L, bd, sl, hR, ⟨⟨dw, tv, hW, ht⟩, hL, kvs, hbd, hkl, hk⟩, hs, WR⟩ := hB.ex
    have hR1 : ∀ {x : Nat}, x ≤ w.most → atI (preV w w.most) (x : Int) = some (V.int (pre w x : Nat)) := fun h => atI_nat (preV_get w h)
    refine ⟨_, rfl, R, _, dx, _, _, rfl, hR, T.c_WayBands, T.na_WayBands_way, lk_WayBands_way, W, _, dw, _, _, rfl, hW, T.c_WaySettings, T.na_WaySettings_space, lk_WaySettings_space, _, _, rfl, rfl, .inl ⟨by decide, by decide⟩, ?_⟩
    refine ⟨_, rfl, _, _, rfl, rfl, ⟨by omega, by omega⟩, ?_⟩
    have e1 : Int.fdiv (100 * (sp : Int)) (p : Int) = ((100 * sp / p : Nat) : Int) := by
      rw [Int.ofNat_fdiv]; rfl
    refine ⟨_, rfl, R, _, dx, _, _, rfl, hR, T.c_WayBands, T.na_WayBands_starts, lk_WayBands_starts, _, rfl, sl, _, _, _, rfl, rfl, SqL.of hs, hR1 (x := a) (by omega), ?_⟩
    refine ⟨_, rfl, _, _, rfl, rfl, ?_⟩
    refine ⟨_, rfl, R, dx, _, rfl, hR, nm_WayBands_again_size, _, rfl, R, w, ed, sp, md, a, rfl, hB, g, by omega, _, _, rfl, rfl, ?_⟩
    refine ⟨_, rfl, R, _, dx, _, _, rfl, hR, T.c_WayBands, T.na_WayBands_way, lk_WayBands_way, W, _, dw, _, _, rfl, hW, T.c_WaySettings, T.na_WaySettings_breaks, lk_WaySettings_breaks, ?_⟩
    refine ⟨_, rfl, _, _, rfl, rfl, ?_⟩
    dsimp only
    rw [e1]
    generalize hf : ((pre w a : Nat) : Int) + ((100 * sp / p : Nat) : Int) - ((ag w a : Nat) : Int) = far
    refine while_by (fun σ H' => H' = H ∧ ∃ e : Nat, σ = [some (.ref R), some (.int a), some (.int b), some (.int p), some (.int ((100 * sp / p : Nat) : Int)), some (.int far), some (.ref bd), some (.int e)] ∧ a < e ∧ e ≤ b + 1 ∧ ∀ k, a < k → k < e → ¬ stop w sp p a k)
      (fun σ _ => match σ with | [_, _, _, _, _, _, _, some (.int e)] => b + 1 - e.toNat | _ => 0) ?_ ?_ ?_
    · exact ⟨rfl, a + 1, rfl, by omega, by omega, fun k h1 h2 => by omega⟩
    · rintro σ H' ⟨rfl, e, rfl, h1, h2, h3⟩
      refine ⟨_, rfl, _, rfl, _, _, rfl, rfl, _, rfl, ite2 (fun c => ?_) (fun c => ?_)⟩
      · simp only [decide_eq_true_eq] at c
        have heb : e ≤ b := by omega
        have hk' := hk e
        refine ⟨_, rfl, _, rfl, bd, _, rfl, DGet.k (k := Sum.inl (e : Int)) hbd, _, rfl, ?_⟩
        cases hc : (valV kvs (Sum.inl (e : Int))).isSome with
        | true =>
          refine iteF (iteF ?_)
          rw [hc] at hk'
          exact ⟨_, rfl, k e h1 h2 h3 fun _ => .inl hk'.symm⟩
        | false =>
          rw [hc] at hk'
          refine iteT ⟨_, rfl, R, _, dx, _, _, rfl, hR, T.c_WayBands, T.na_WayBands_starts, lk_WayBands_starts, _, rfl, _, _, rfl, rfl, sl, _, _, _, rfl, rfl, SqL.of hs, hR1 (x := e + 1) (by omega), _, rfl, _, _, rfl, rfl, _, rfl, ite2 (fun c2 => ?_) (fun c2 => ?_)⟩
          · simp only [decide_eq_true_eq] at c2
            rw [← hf, ← room_iff w sp p a e hp0 (by omega)] at c2
            refine ⟨_, rfl, _, _, rfl, rfl, ⟨rfl, e + 1, rfl, by omega, by omega, fun k' q1 q2 => ?_⟩, ?_⟩
            · rcases Nat.lt_or_ge k' e with q | q
              · exact h3 k' q1 q
              · have : k' = e := by omega
                subst this
                rintro (z | z)
                · rw [z] at hk'; cases hk'
                · rw [c2] at z; cases z
            · show b + 1 - ((e : Int) + 1).toNat < b + 1 - ((e : Int)).toNat
              omega
          · simp only [decide_eq_true_eq] at c2
            rw [← hf, ← room_iff w sp p a e hp0 (by omega)] at c2
            refine ⟨_, rfl, k e h1 h2 h3 fun _ => .inr (by simpa using c2)⟩
      · simp only [decide_eq_true_eq] at c
        refine iteF ⟨_, rfl, k e h1 h2 h3 fun h => absurd h (by omega)⟩
    · exact mono_and (fun σ H Q Q' hq ⟨v, e, u, e2, i, j, e5, e6, k, e7, q⟩ => ⟨v, e, u, e2, i, j, e5, e6, k, e7, hq _ _ q⟩) (mono_and (fun σ H Q Q' hq ⟨v, e, u, e2, i, j, e5, e6, k, e7, q⟩ => ⟨v, e, u, e2, i, j, e5, e6, k, e7, hq _ _ q⟩) (fun σ H Q Q' hq ⟨v, e, R, C, dx, fs, v', e', h, c, na, lk, v2, e2, i, j, e3, e4, p, its, z, u, e5, e6, sq, at', v3, e7, i', j', e8, e9, k, e10, q⟩ => ⟨v, e, R, C, dx, fs, v', e', h, c, na, lk, v2, e2, i, j, e3, e4, p, its, z, u, e5, e6, sq, at', v3, e7, i', j', e8, e9, k, e10, hq _ _ q⟩))
end
end Sh

namespace Sh
open PySem PySem.Spec PyProof.Rows L2
open PySem.W (Codec)
/-! ### bands in the heap -/
def BandsL (H : Hp) (r : Addr) (l : List Si32.Band) : Prop := ∃ ts : List Addr, H r = some (.lst (ts.map V.ref)) ∧ ts.length = l.length ∧ ∀ (j : Nat) t (x : Si32.Band), ts[j]? = some t → l[j]? = some x → H t = some (.tup [.int (x.1 : Nat), .int (x.2 : Nat)])
theorem BandsL.keep {H H' : Hp} {r : Addr} {l : List Si32.Band} (h : BandsL H r l) (k : ∀ b o, H b = some o → (b = r ∨ ∃ xs, o = .tup xs) → H' b = some o) : BandsL H' r l := by
  obtain ⟨ts, h1, h2, h3⟩ := h
  exact ⟨ts, k _ _ h1 (.inl rfl), h2, fun j t x q1 q2 => k _ _ (h3 j t x q1 q2) (.inr ⟨_, rfl⟩)⟩
theorem BandsL.get {H : Hp} {r : Addr} {l : List Si32.Band} {j : Nat} {x : Si32.Band} (h : BandsL H r l) (hx : l[j]? = some x) : ∃ (xs : List V) (t : Addr), H r = some (.lst xs) ∧ xs[j]? = some (.ref t) ∧ xs.length = l.length ∧ H t = some (.tup [.int (x.1 : Nat), .int (x.2 : Nat)]) := by
  obtain ⟨ts, h1, h2, h3⟩ := h
  have hj : j < ts.length := by rw [h2]; exact (List.getElem?_eq_some_iff.mp hx).1
  have ht := List.getElem?_eq_getElem hj
  exact ⟨_, ts[j], h1, by rw [List.getElem?_map, ht]; rfl, by rw [List.length_map, h2], h3 j _ x ht hx⟩
section
variable {P : Program} {w : World} {K : PySem.W.Frag} {mg : Str → Option Value} {base : Heap} {A : Ad}
/-! ### WayBands.find_bands -/
def spFind (K : PySem.W.Frag) (A : Ad) : Sp := fun vs H Q _ => ∃ (R : Addr) (w : Si32.Way) (ed sp : Nat) (md : Bool) (a b p : Nat), vs = [.ref R, .int a, .int b, .int p] ∧ BndAt K A H R w ed sp md ∧ GW w ∧ a ≤ b ∧ b < w.most ∧ 0 < p ∧ p ≤ 400 ∧
  ∀ (H' : Hp) (r : Addr), Same H H' → H r = none → BandsL H' r (w.bands sp p a b) → Q (.ref r) H'
theorem ok_Find (T : Txt K mg A) : Ok P w K mg base CX0 4 A.f_WayBands_find_bands p_WayBands_find_bands (spFind K A) := by
  obtain ⟨fd, F, B⟩ := T.fn_WayBands_find_bands.ex
  have nd := sc_WayBands_find_bands.nd
  obtain ⟨_, B_WayBands_band_end, G_WayBands_band_end⟩ := (ok_BandEnd (P := P) (w := w) (base := base) T).ex
  refine ⟨fd, B, F.ok sc_WayBands_find_bands (fun vs H Q E h => ?_) (fun cdv A' outer s H vs Q E hr h => ⟨_,
      (pss_cons (ps_set (i := 4) nd rfl (Or.inl rfl) (pe_lst pa_nil))
      (pss_cons (ps_while PassesOwn.never (pt_cmpR op_le (pv 1) (pv 2) (nomark _)) (pss_cons (ps_set (i := 5) nd rfl (Or.inl rfl) (pe_meth (pv 0) T.c_WayBands T.m_WayBands_band_end G_WayBands_band_end hr B_WayBands_band_end .nil pass0 (pa_cons (pv 1) (pa_cons (pv 2) (pa_cons (pv 3) pa_nil)))))
        (pss_cons (ps_expr (pe_bm PySem.F.plainAttrs_list PySem.F.slot_list_append PySem.F.type_list_append mt_append (pv 4) (pa_cons (pe_tup (pa_cons (pv 1) (pa_cons (pe_op op_sub (pv 5) pe_int) pa_nil))) pa_nil)))
        (pss_one (ps_set (i := 1) nd rfl (Or.inl rfl) (pv 5))))))
      (pss_one (ps_ret (pv 4))))), ?_⟩)⟩
  · obtain ⟨R, w, ed, sp, md, a, b, p, rfl, _⟩ := h
    rfl
  · obtain ⟨R, w, ed, sp, md, a, b, p, rfl, hB, g, hab, hb, hp0, hp, k⟩ := h
    refine ⟨by show 0 ≤ sizeLine; decide, fun r hr0 => ?_⟩
    have hlen := bands_len w sp p hab
    have hm := g.most
    refine while_by (fun σ H' => ∃ (i : Nat) (x : Option V) (d : List Si32.Band) (ts : List Addr), σ = [some (.ref R), some (.int i), some (.int b), some (.int p), some (.ref r), x] ∧ a ≤ i ∧ i ≤ b + 1 ∧ w.bands sp p a b = d ++ w.bands sp p i b ∧ Same H H' ∧
        H' r = some (.lst (ts.map V.ref)) ∧ ts.length = d.length ∧ ∀ (j : Nat) t (x : Si32.Band), ts[j]? = some t → d[j]? = some x → H' t = some (.tup [.int (x.1 : Nat), .int (x.2 : Nat)]))
      (fun σ _ => match σ with | _ :: some (.int i) :: _ => b + 1 - i.toNat | _ => 0) ?_ ?_ ?_
    · exact ⟨a, none, [], [], rfl, Nat.le_refl _, by omega, rfl, fun b o h => (upd_ne (ne_of_none h hr0)).trans h, upd_same, rfl, fun j t x h => by simp at h⟩
    · rintro σ H1 ⟨i, x, d, ts, rfl, h1, h2, hd, s1, hr1, hl1, ht1⟩
      refine ⟨_, rfl, _, rfl, _, _, rfl, rfl, _, rfl, ite2 (fun c => ?_) (fun c => ?_)⟩
      · simp only [decide_eq_true_eq] at c
        have hib : i ≤ b := by omega
        have hB1 := hB.keep s1
        obtain ⟨dx, W, L, bd, sl, hR, _⟩ := hB1.ex
        refine ⟨_, rfl, R, dx, _, rfl, hR, nm_WayBands_band_end, _, rfl, _, rfl, _, rfl, R, w, ed, sp, md, i, b, p, rfl, hB1, g, hib, hb, hp0, hp, fun e q1 q2 q3 q4 => ?_⟩
        have hbs := bands_step w sp p q1 q2 q3 q4
        refine ⟨_, rfl, .inl ⟨rfl, _, SqL.of hr1⟩, _, rfl, _, rfl, _, _, rfl, rfl, by show 2 ≤ sizeLine; decide, fun t ht => ?_⟩
        have rt : r ≠ t := ne_of_none hr1 ht
        have et : (e : Int) - 1 = ((e - 1 : Nat) : Int) := by omega
        have hdl : d.length < 5000 := by
          have := congrArg List.length hd
          rw [List.length_append] at this
          omega
        refine ⟨r, _, _, rfl, rfl, (upd_ne rt).trans hr1, by rw [List.length_map, hl1, sizeLine_eq]; omega, _, rfl, ⟨e, _, d ++ [(i, e - 1)], ts ++ [t], rfl, by omega, q2, by rw [hd, hbs, List.append_assoc]; rfl, fun b o hb => ?_, by rw [upd_same, List.map_append]; rfl, by rw [List.length_append, List.length_append, hl1]; rfl, fun j t' x' g1 g2 => ?_⟩, ?_⟩
        · have := s1 b o hb
          by_cases hbr : b = r
          · subst hbr; rw [hr0] at hb; cases hb
          · rw [upd_ne hbr, upd_ne (ne_of_none this ht)]; exact this
        · rcases Nat.lt_or_ge j ts.length with h | h
          · rw [List.getElem?_append_left h] at g1
            rw [List.getElem?_append_left (by omega)] at g2
            have z := ht1 j t' x' g1 g2
            rw [upd_ne (ne_of z hr1 (by intro z; cases z)), upd_ne (ne_of_none z ht)]; exact z
          · rw [List.getElem?_append_right h] at g1
            have e8 : j - ts.length = 0 := by
              rcases Nat.eq_zero_or_pos (j - ts.length) with h0 | h0
              · exact h0
              · rw [List.getElem?_eq_none_iff.mpr (by simp; omega)] at g1; cases g1
            rw [e8] at g1
            have e9 : t = t' := Option.some.inj g1
            subst e9
            have e10 : j = d.length := by omega
            subst e10
            rw [List.getElem?_append_right (Nat.le_refl _), Nat.sub_self] at g2
            have e11 : (i, e - 1) = x' := Option.some.inj g2
            subst e11
            rw [upd_ne (Ne.symm rt), upd_same]
            dsimp only
            rw [et]
        · show b + 1 - ((e : Int)).toNat < b + 1 - ((i : Int)).toNat
          omega
      · simp only [decide_eq_true_eq] at c
        rw [bands_nil w sp p (show b < i by omega), List.append_nil] at hd
        exact ⟨_, rfl, k H1 r s1 hr0 ⟨ts, hr1, by rw [hl1, hd], fun j t x q1 q2 => ht1 j t x q1 (by rw [← hd]; exact q2)⟩⟩
    · exact fun σ H Q Q' hq ⟨v, e, u, e2, i, j, e5, e6, k, e7, q⟩ => ⟨v, e, u, e2, i, j, e5, e6, k, e7, hq _ _ q⟩
/-! ### WayBands.has_more_bands -/
def spMore (K : PySem.W.Frag) (A : Ad) : Sp := fun vs H Q _ => ∃ (R : Addr) (w : Si32.Way) (ed sp : Nat) (md : Bool) (a b p m : Nat), vs = [.ref R, .int a, .int b, .int p, .int m] ∧ BndAt K A H R w ed sp md ∧ GW w ∧ a ≤ b ∧ b < w.most ∧ 0 < p ∧ p ≤ 400 ∧
  Q (.bl (!(m == 0 || decide ((w.bands sp p a b).length ≤ m)))) H
theorem ok_More (T : Txt K mg A) : Ok P w K mg base CX0 4 A.f_WayBands_has_more_bands p_WayBands_has_more_bands (spMore K A) := by
  obtain ⟨fd, F, B⟩ := T.fn_WayBands_has_more_bands.ex
  have nd := sc_WayBands_has_more_bands.nd
  obtain ⟨_, B_WayBands_band_end, G_WayBands_band_end⟩ := (ok_BandEnd (P := P) (w := w) (base := base) T).ex
  refine ⟨fd, B, F.ok sc_WayBands_has_more_bands (fun vs H Q E h => ?_) (fun cdv A' outer s H vs Q E hr h => ⟨_,
      (pss_cons (ps_if (pt_cmpR op_eq (pv 4) pe_int (nomark _)) (pss_one (ps_ret pe_bl)) pss_nil)
      (pss_cons (ps_set (i := 5) nd rfl (Or.inl rfl) pe_int)
      (pss_cons (ps_while PassesOwn.never (PW.pt (pw_and (pt_cmpR op_le (pv 1) (pv 2) (nomark _)) (pw_and1 (pt_cmpR op_le (pv 5) (pv 4) (nomark _))))) (pss_cons (ps_set (i := 1) nd rfl (Or.inl rfl) (pe_meth (pv 0) T.c_WayBands T.m_WayBands_band_end G_WayBands_band_end hr B_WayBands_band_end .nil pass0 (pa_cons (pv 1) (pa_cons (pv 2) (pa_cons (pv 3) pa_nil)))))
        (pss_one (ps_aug (i := 5) nd rfl (.inl rfl) pe_int ip_add))))
      (pss_one (ps_ret (pe_cmpR op_gt (pv 5) (pv 4) (nomark _))))))), ?_⟩)⟩
  · obtain ⟨R, w, ed, sp, md, a, b, p, m, rfl, _⟩ := h
    rfl
  · obtain ⟨R, w, ed, sp, md, a, b, p, m, rfl, hB, g, hab, hb, hp0, hp, k⟩ := h
    obtain ⟨dx, W, L, bd, sl, hR, _⟩ := hB.ex
    refine ⟨_, rfl, rfl, _, rfl, ?_⟩
    by_cases hm : m = 0
    · subst hm
      exact iteT k
    · refine if_false_of (decide_eq_false (fun z => hm (by have := V.int.inj z; omega))) ?_
      have em : (m == 0) = false := by rw [beq_eq_false_iff_ne]; exact hm
      rw [em, Bool.false_or] at k
      refine while_by (fun σ H' => H' = H ∧ ∃ (i c : Nat), σ = [some (.ref R), some (.int i), some (.int b), some (.int p), some (.int m), some (.int c)] ∧ a ≤ i ∧ i ≤ b + 1 ∧ (w.bands sp p a b).length = c + (w.bands sp p i b).length ∧ c ≤ m + 1)
        (fun σ _ => match σ with | _ :: some (.int i) :: _ => b + 1 - i.toNat | _ => 0) ⟨rfl, a, 0, rfl, Nat.le_refl _, by omega, by omega, by omega⟩ ?_ ?_
      · rintro σ H1 ⟨rfl, i, c, rfl, h1, h2, hl, hc⟩
        refine ⟨_, rfl, _, rfl, _, _, rfl, rfl, _, rfl, ite2 (fun q => ?_) (fun q => ?_)⟩
        · simp only [decide_eq_true_eq] at q
          have hib : i ≤ b := by omega
          refine ⟨_, rfl, _, rfl, _, _, rfl, rfl, _, rfl, ite2 (fun q2 => ?_) (fun q2 => ?_)⟩
          · simp only [decide_eq_true_eq] at q2
            refine ⟨_, rfl, R, dx, _, rfl, hR, nm_WayBands_band_end, _, rfl, _, rfl, _, rfl, R, w, ed, sp, md, i, b, p, rfl, hB, g, hib, hb, hp0, hp, fun e q1 q3 q4 q5 => ?_⟩
            have hbs := bands_step w sp p q1 q3 q4 q5
            rw [hbs, List.length_cons] at hl
            refine ⟨_, rfl, _, _, rfl, rfl, ⟨rfl, e, c + 1, rfl, by omega, q3, by omega, by omega⟩, ?_⟩
            show b + 1 - ((e : Int)).toNat < b + 1 - ((i : Int)).toNat
            omega
          · simp only [decide_eq_true_eq] at q2
            refine ⟨_, rfl, _, rfl, _, _, rfl, rfl, ?_⟩
            have hpos := bands_pos w sp p hib
            dsimp only
            rw [decide_eq_true (show (m : Int) < (c : Int) by omega)]
            rw [decide_eq_false (show ¬ (w.bands sp p a b).length ≤ m by omega)] at k
            exact k
        · simp only [decide_eq_true_eq] at q
          rw [bands_nil w sp p (show b < i by omega), List.length_nil, Nat.add_zero] at hl
          refine iteF ⟨_, rfl, _, rfl, _, _, rfl, rfl, ?_⟩
          rw [hl] at k
          have : decide ((m : Int) < (c : Int)) = !decide (c ≤ m) := by
            by_cases z : c ≤ m
            · rw [decide_eq_true z, decide_eq_false (by omega)]; rfl
            · rw [decide_eq_false z, decide_eq_true (by omega)]; rfl
          dsimp only
          rw [this]
          exact k
      · exact mono_and (fun σ H Q Q' hq ⟨v, e, u, e2, i, j, e5, e6, k, e7, q⟩ => ⟨v, e, u, e2, i, j, e5, e6, k, e7, hq _ _ q⟩) (fun σ H Q Q' hq ⟨v, e, u, e2, i, j, e5, e6, k, e7, q⟩ => ⟨v, e, u, e2, i, j, e5, e6, k, e7, hq _ _ q⟩)
/-! ### WayBands.page_size, distance -/
def spSize (K : PySem.W.Frag) (A : Ad) : Sp := fun vs H Q _ => ∃ (R t : Addr) (w : Si32.Way) (ed sp : Nat) (md : Bool) (x : Si32.Band) (p : Nat), vs = [.ref R, .ref t, .int p] ∧ BndAt K A H R w ed sp md ∧ GW w ∧ H t = some (.tup [.int (x.1 : Nat), .int (x.2 : Nat)]) ∧ x.1 ≤ x.2 ∧ x.2 < w.most ∧ p ≤ 400 ∧
  Q (.int ((w.extent x * p : Nat) : Int)) H
theorem ok_PSize (T : Txt K mg A) : Ok P w K mg base CX0 3 A.f_WayBands_page_size p_WayBands_page_size (spSize K A) := by
  obtain ⟨fd, F, B⟩ := T.fn_WayBands_page_size.ex
  have nd := sc_WayBands_page_size.nd
  obtain ⟨_, B_WayBands_again_size, G_WayBands_again_size⟩ := (ok_AgainSize (P := P) (w := w) (base := base) T).ex
  refine ⟨fd, B, F.ok sc_WayBands_page_size (fun vs H Q E h => ?_) (fun cdv A' outer s H vs Q E hr h => ⟨_,
      (pss_cons (ps_set (i := 3) nd rfl (Or.inl rfl) (pe_op op_sub (pe_ix ix_list (pe_fld (pv 0) rfl) (pe_op op_add (pe_ix ix_tup (pv 1) pe_int (fun _ _ => rfl)) pe_int) (fun _ _ => rfl)) (pe_ix ix_list (pe_fld (pv 0) rfl) (pe_ix ix_tup (pv 1) pe_int (fun _ _ => rfl)) (fun _ _ => rfl))))
      (pss_one (ps_ret (pe_op op_mul (pe_op op_add (pe_meth (pv 0) T.c_WayBands T.m_WayBands_again_size G_WayBands_again_size hr B_WayBands_again_size .nil pass0 (pa_cons (pe_ix ix_tup (pv 1) pe_int (fun _ _ => rfl)) pa_nil)) (pv 3)) (pv 2))))), ?_⟩)⟩
  · obtain ⟨R, t, w, ed, sp, md, x, p, rfl, _⟩ := h
    rfl
  · obtain ⟨R, t, w, ed, sp, md, x, p, rfl, hB, g, ht, hx, hm, hp, k⟩ := h
    obtain ⟨dx, W, L, bd, sl, hR, _, hs, _⟩ := hB.ex
    have hR1 : ∀ {x : Nat}, x ≤ w.most → atI (preV w w.most) (x : Int) = some (V.int (pre w x : Nat)) := fun h => atI_nat (preV_get w h)
    refine ⟨_, rfl, R, _, dx, _, _, rfl, hR, T.c_WayBands, T.na_WayBands_starts, lk_WayBands_starts, _, rfl, t, _, 1, .int (x.2 : Nat), rfl, rfl, SqT.of ht, rfl, _, _, rfl, rfl, sl, _, _, _, rfl, rfl, SqL.of hs, hR1 (x := x.2 + 1) (by omega), ?_⟩
    refine ⟨_, rfl, R, _, dx, _, _, rfl, hR, T.c_WayBands, T.na_WayBands_starts, lk_WayBands_starts, _, rfl, t, _, 0, .int (x.1 : Nat), rfl, rfl, SqT.of ht, rfl, sl, _, _, _, rfl, rfl, SqL.of hs, hR1 (x := x.1) (by omega), _, _, rfl, rfl, ?_⟩
    refine ⟨_, rfl, R, dx, _, rfl, hR, nm_WayBands_again_size, _, rfl, t, _, 0, .int (x.1 : Nat), rfl, rfl, SqT.of ht, rfl, R, w, ed, sp, md, x.1, rfl, hB, g, by omega, ?_⟩
    have hmono := pre_mono w (show x.1 ≤ x.2 + 1 by omega)
    have hmost := g.most
    have h1 := g.ag x.1
    have h2 := g.pre (x.2 + 1)
    have he := extent_eq w x hx
    refine ⟨_, rfl, _, _, rfl, rfl, _, rfl, _, _, rfl, rfl, .inl ⟨by omega, by omega⟩, ?_⟩
    dsimp only
    rw [show ((ag w x.1 : Nat) : Int) + (((pre w (x.2 + 1) : Nat) : Int) - ((pre w x.1 : Nat) : Int)) = ((w.extent x : Nat) : Int) by omega, ← Int.natCast_mul]
    exact k
def spDist (K : PySem.W.Frag) (A : Ad) : Sp := fun vs H Q _ => ∃ (R t : Addr) (w : Si32.Way) (ed sp : Nat) (md : Bool) (i : Nat) (x : Si32.Band) (p : Nat), vs = [.ref R, .int i, .ref t, .int p] ∧ BndAt K A H R w ed sp md ∧ GW w ∧ H t = some (.tup [.int (x.1 : Nat), .int (x.2 : Nat)]) ∧ x.1 ≤ i ∧ i ≤ x.2 ∧ x.2 < w.most ∧ p ≤ 400 ∧ ed ≤ 100000 ∧ sp ≤ 100000 ∧
  Q (.int ((w.spot ed sp p md x i : Nat) : Int)) H
theorem ok_Dist (T : Txt K mg A) : Ok P w K mg base CX0 4 A.f_WayBands_distance p_WayBands_distance (spDist K A) := by
  obtain ⟨fd, F, B⟩ := T.fn_WayBands_distance.ex
  have nd := sc_WayBands_distance.nd
  obtain ⟨_, B_WayBands_again_size, G_WayBands_again_size⟩ := (ok_AgainSize (P := P) (w := w) (base := base) T).ex
  obtain ⟨_, B_WayBands_page_size, G_WayBands_page_size⟩ := (ok_PSize (P := P) (w := w) (base := base) T).ex
  refine ⟨fd, B, F.ok sc_WayBands_distance (fun vs H Q E h => ?_) (fun cdv A' outer s H vs Q E hr h => ⟨_,
      (pss_cons (ps_set (i := 4) nd rfl (Or.inl rfl) (pe_op op_sub (pe_op op_add (pe_meth (pv 0) T.c_WayBands T.m_WayBands_again_size G_WayBands_again_size (hr.mono (by decide)) B_WayBands_again_size .nil pass0 (pa_cons (pe_ix ix_tup (pv 2) pe_int (fun _ _ => rfl)) pa_nil)) (pe_ix ix_list (pe_fld (pv 0) rfl) (pv 1) (fun _ _ => rfl))) (pe_ix ix_list (pe_fld (pv 0) rfl) (pe_ix ix_tup (pv 2) pe_int (fun _ _ => rfl)) (fun _ _ => rfl))))
      (pss_cons (ps_set (i := 5) nd rfl (Or.inl rfl) (pe_op op_sub (pe_op op_mul pe_int (pe_fld (pe_fld (pv 0) rfl) rfl)) (pe_meth (pv 0) T.c_WayBands T.m_WayBands_page_size G_WayBands_page_size hr B_WayBands_page_size .nil pass0 (pa_cons (pv 2) (pa_cons (pv 3) pa_nil)))))
      (pss_cons (ps_set (i := 6) nd rfl (Or.inl rfl) pe_int)
      (pss_cons (ps_if (PW.pt (pw_and (pt_truth (pe_fld (pe_fld (pv 0) rfl) rfl) (by intro _; rfl)) (pw_and1 (pt_cmpR op_gt (pv 5) pe_int (nomark _))))) (pss_one (ps_set (i := 6) nd rfl (Or.inl rfl) (pe_op op_fdivN (pv 5) pe_int))) pss_nil)
      (pss_one (ps_ret (pe_op op_add (pe_op op_add (pe_op op_mul pe_int (pe_fld (pe_fld (pv 0) rfl) rfl)) (pv 6)) (pe_op op_mul (pv 4) (pv 3))))))))), ?_⟩)⟩
  · obtain ⟨R, t, w, ed, sp, md, i, x, p, rfl, _⟩ := h
    rfl
  · obtain ⟨R, t, w, ed, sp, md, i, x, p, rfl, hB, g, ht, hx1, hx2, hm, hp, hed, hsp, k⟩ := h
    obtain ⟨dx, W, L, bd, sl, hR, ⟨⟨dw, tv, hW, _⟩, _⟩, hs, _⟩ := hB.ex
    have hR1 : ∀ {x : Nat}, x ≤ w.most → atI (preV w w.most) (x : Int) = some (V.int (pre w x : Nat)) := fun h => atI_nat (preV_get w h)
    have hmono := pre_mono w hx1
    have hmono2 := pre_mono w (show x.1 ≤ x.2 + 1 by omega)
    have hmost := g.most
    have h1 := g.ag x.1
    have h2 := g.pre (x.2 + 1)
    have h3 := g.pre i
    have he := extent_eq w x (by omega)
    have ha := ahead_eq w x i hx1 hx2
    refine ⟨_, rfl, R, dx, _, rfl, hR, nm_WayBands_again_size, _, rfl, t, _, 0, .int (x.1 : Nat), rfl, rfl, SqT.of ht, rfl, R, w, ed, sp, md, x.1, rfl, hB, g, by omega, ?_⟩
    refine ⟨_, rfl, R, _, dx, _, _, rfl, hR, T.c_WayBands, T.na_WayBands_starts, lk_WayBands_starts, _, rfl, sl, _, _, _, rfl, rfl, SqL.of hs, hR1 (x := i) (by omega), _, _, rfl, rfl, ?_⟩
    refine ⟨_, rfl, R, _, dx, _, _, rfl, hR, T.c_WayBands, T.na_WayBands_starts, lk_WayBands_starts, _, rfl, t, _, 0, .int (x.1 : Nat), rfl, rfl, SqT.of ht, rfl, sl, _, _, _, rfl, rfl, SqL.of hs, hR1 (x := x.1) (by omega), _, _, rfl, rfl, ?_⟩
    dsimp only
    rw [show ((ag w x.1 : Nat) : Int) + ((pre w i : Nat) : Int) - ((pre w x.1 : Nat) : Int) = ((ag w x.1 + (pre w i - pre w x.1) : Nat) : Int) by omega]
    refine ⟨_, rfl, R, _, dx, _, _, rfl, hR, T.c_WayBands, T.na_WayBands_way, lk_WayBands_way, W, _, dw, _, _, rfl, hW, T.c_WaySettings, T.na_WaySettings_space, lk_WaySettings_space, _, _, rfl, rfl, .inl ⟨by decide, by decide⟩, ?_⟩
    refine ⟨_, rfl, R, dx, _, rfl, hR, nm_WayBands_page_size, _, rfl, _, rfl, R, t, w, ed, sp, md, x, p, rfl, hB, g, ht, by omega, hm, hp, _, _, rfl, rfl, ?_⟩
    refine ⟨_, rfl, R, _, dx, _, _, rfl, hR, T.c_WayBands, T.na_WayBands_way, lk_WayBands_way, W, _, dw, _, _, rfl, hW, T.c_WaySettings, T.na_WaySettings_in_middle, lk_WaySettings_in_middle, md, rfl, ?_⟩
    have fin : ∀ sh : Nat, sh = (if md = true ∧ w.extent x * p ≤ 100 * sp then (100 * sp - w.extent x * p) / 2 else 0) → Q (V.int (100 * (ed : Int) + (sh : Int) + ((ag w x.1 + (pre w i - pre w x.1) : Nat) : Int) * (p : Int))) H := by
      intro sh hsh
      rw [← Int.natCast_mul, show 100 * (ed : Int) + (sh : Int) + (((ag w x.1 + (pre w i - pre w x.1)) * p : Nat) : Int) = ((w.spot ed sp p md x i : Nat) : Int) from ?_]
      · exact k
      · unfold Si32.Way.spot Si32.Way.begin_
        rw [← hsh, ha, Nat.mul_comm p]
        show _ = ((100 * ed + sh + (ag w x.1 + (pre w i - pre w x.1)) * p : Nat) : Int)
        omega
    refine ite2 (fun c => ?_) (fun c => ?_)
    · refine ⟨_, rfl, _, _, rfl, rfl, _, rfl, ite2 (fun c2 => ?_) (fun c2 => ?_)⟩
      · simp only [decide_eq_true_eq] at c2
        refine ⟨_, rfl, _, _, rfl, rfl, ⟨by decide, by decide⟩, ?_⟩
        refine ⟨_, rfl, R, _, dx, _, _, rfl, hR, T.c_WayBands, T.na_WayBands_way, lk_WayBands_way, W, _, dw, _, _, rfl, hW, T.c_WaySettings, T.na_WaySettings_edge, lk_WaySettings_edge, _, _, rfl, rfl, .inl ⟨by decide, by decide⟩, _, rfl, _, _, rfl, rfl, ?_⟩
        refine ⟨_, rfl, _, rfl, _, _, rfl, rfl, .inl ⟨by omega, by omega⟩, _, _, rfl, rfl, ?_⟩
        dsimp only
        have e5 : Int.fdiv (100 * (sp : Int) - ((w.extent x * p : Nat) : Int)) 2 = (((100 * sp - w.extent x * p) / 2 : Nat) : Int) := by
          rw [show 100 * (sp : Int) - ((w.extent x * p : Nat) : Int) = ((100 * sp - w.extent x * p : Nat) : Int) by omega]
          exact (Int.ofNat_fdiv _ 2).symm
        rw [e5]
        refine fin _ ?_
        rw [if_pos ⟨c, by omega⟩]
      · simp only [decide_eq_true_eq] at c2
        refine ⟨_, rfl, R, _, dx, _, _, rfl, hR, T.c_WayBands, T.na_WayBands_way, lk_WayBands_way, W, _, dw, _, _, rfl, hW, T.c_WaySettings, T.na_WaySettings_edge, lk_WaySettings_edge, _, _, rfl, rfl, .inl ⟨by decide, by decide⟩, _, rfl, _, _, rfl, rfl, ?_⟩
        refine ⟨_, rfl, _, rfl, _, _, rfl, rfl, .inl ⟨by omega, by omega⟩, _, _, rfl, rfl, ?_⟩
        refine fin 0 ?_
        split
        · omega
        · rfl
    · refine iteF ⟨_, rfl, R, _, dx, _, _, rfl, hR, T.c_WayBands, T.na_WayBands_way, lk_WayBands_way, W, _, dw, _, _, rfl, hW, T.c_WaySettings, T.na_WaySettings_edge, lk_WaySettings_edge, _, _, rfl, rfl, .inl ⟨by decide, by decide⟩, _, rfl, _, _, rfl, rfl, ?_⟩
      refine ⟨_, rfl, _, rfl, _, _, rfl, rfl, .inl ⟨by omega, by omega⟩, _, _, rfl, rfl, ?_⟩
      refine fin 0 ?_
      rw [if_neg (fun z => c z.1)]
end
end Sh

namespace Sh
open PySem PySem.Spec PyProof.Rows L2
open PySem.W (Codec)
/-! ### an area's pages in the heap -/
def APAt (A : Ad) (H : Hp) (N : Addr → Prop) (x : Addr) (k first : Nat) (rb cb : List Si32.Band) (over : Bool) : Prop := ∃ dx r c, H x = some (.ins A.C_AreaPages dx (F_AreaPages (.int k) (.int first) (.ref r) (.ref c) (.bl over))) ∧ BandsL H r rb ∧ BandsL H c cb ∧ N x ∧ N r ∧ N c
theorem APAt.keep {A : Ad} {H H' : Hp} {N N' : Addr → Prop} {x : Addr} {k first : Nat} {rb cb : List Si32.Band} {over : Bool} (h : APAt A H N x k first rb cb over) (kp : ∀ b o, H b = some o → (N b ∨ ∃ xs, o = .tup xs) → H' b = some o) (kn : ∀ b o, H b = some o → N b → N' b) : APAt A H' N' x k first rb cb over := by
  obtain ⟨dx, r, c, h1, h2, h3, n1, n2, n3⟩ := h
  have hr : ∃ o, H r = some o := by obtain ⟨ts, q, _⟩ := h2; exact ⟨_, q⟩
  have hc : ∃ o, H c = some o := by obtain ⟨ts, q, _⟩ := h3; exact ⟨_, q⟩
  obtain ⟨o1, hr⟩ := hr
  obtain ⟨o2, hc⟩ := hc
  refine ⟨dx, r, c, kp _ _ h1 (.inl n1), h2.keep fun b o hb z => kp _ _ hb ?_, h3.keep fun b o hb z => kp _ _ hb ?_, kn _ _ h1 n1, kn _ _ hr n2, kn _ _ hc n3⟩
  · rcases z with rfl | z
    · exact .inl n2
    · exact .inr z
  · rcases z with rfl | z
    · exact .inl n3
    · exact .inr z
theorem atI_end {xs : List V} {v : V} (h : xs[xs.length - 1]? = some v) : atI xs (-1) = some v := by
  have hl := (List.getElem?_eq_some_iff.mp h).1
  have e := split_get h
  rw [show xs.length - 1 + 1 = xs.length by omega, List.drop_length] at e
  rw [e]
  exact atI_last _ _
theorem fmod_nat (a b : Nat) : Int.fmod (a : Int) (b : Int) = ((a % b : Nat) : Int) := by
  rw [Int.fmod_eq_emod_of_nonneg _ (by omega)]; rfl
section
variable {P : Program} {w : World} {K : PySem.W.Frag} {mg : Str → Option Value} {base : Heap} {A : Ad}
/-! ### AreaPages.__init__, count_pages -/
def spAPInit (A : Ad) : Sp := fun vs H Q _ => ∃ (x dx : Addr) (a b c d e : V), vs = [.ref x, a, b, c, d, e] ∧ H x = some (.ins A.C_AreaPages dx []) ∧ Q .non (upd H x (.ins A.C_AreaPages dx (F_AreaPages a b c d e)))
theorem ok_APInit (T : Txt K mg A) : Ok P w K mg base CX0 1 A.f_AreaPages__init_ p_AreaPages__init_ (spAPInit A) := by
  obtain ⟨fd, F, B⟩ := T.fn_AreaPages__init_.ex
  have nd := sc_AreaPages__init_.nd
  refine ⟨fd, B, F.ok sc_AreaPages__init_ (fun vs H Q E h => ?_) (fun cdv A' outer s H vs Q E hr h => ⟨_,
      (pss_cons (ps_fld (pv 0) (pv 1) rfl)
      (pss_cons (ps_fld (pv 0) (pv 2) rfl)
      (pss_cons (ps_fld (pv 0) (pv 3) rfl)
      (pss_cons (ps_fld (pv 0) (pv 4) rfl)
      (pss_one (ps_fld (pv 0) (pv 5) rfl)))))), ?_⟩)⟩
  · obtain ⟨x, dx, a, b, c, d, e, rfl, _⟩ := h
    rfl
  · obtain ⟨x, dx, a, b, c, d, e, rfl, hx, k⟩ := h
    refine ⟨_, rfl, _, rfl, x, _, dx, _, rfl, hx, T.c_AreaPages, T.na_AreaPages_area_place, of_decide_eq_true rfl, ?_⟩
    rw [nw_AreaPages_0]
    refine ⟨_, rfl, _, rfl, x, _, dx, _, rfl, upd_same, T.c_AreaPages, T.na_AreaPages_first_page, of_decide_eq_true rfl, ?_⟩
    rw [nw_AreaPages_1]
    refine ⟨_, rfl, _, rfl, x, _, dx, _, rfl, upd_same, T.c_AreaPages, T.na_AreaPages_row_bands, of_decide_eq_true rfl, ?_⟩
    rw [nw_AreaPages_2]
    refine ⟨_, rfl, _, rfl, x, _, dx, _, rfl, upd_same, T.c_AreaPages, T.na_AreaPages_column_bands, of_decide_eq_true rfl, ?_⟩
    rw [nw_AreaPages_3]
    refine ⟨_, rfl, _, rfl, x, _, dx, _, rfl, upd_same, T.c_AreaPages, T.na_AreaPages_beside_first, of_decide_eq_true rfl, ?_⟩
    rw [nw_AreaPages_4]
    simp only [upd_upd]
    exact k
def spCount (A : Ad) : Sp := fun vs H Q _ => ∃ (N : Addr → Prop) (x : Addr) (k first : Nat) (rb cb : List Si32.Band) (over : Bool), vs = [.ref x] ∧ APAt A H N x k first rb cb over ∧ rb.length ≤ 5000 ∧ Q (.int ((rb.length * cb.length : Nat) : Int)) H
theorem BandsL.sq {H : Hp} {r : Addr} {l : List Si32.Band} (h : BandsL H r l) : ∃ xs, H r = some (.lst xs) ∧ xs.length = l.length := by
  obtain ⟨ts, h1, h2, _⟩ := h
  exact ⟨_, h1, by rw [List.length_map, h2]⟩
theorem ok_Count (T : Txt K mg A) : Ok P w K mg base CX0 1 A.f_AreaPages_count_pages p_AreaPages_count_pages (spCount A) := by
  obtain ⟨fd, F, B⟩ := T.fn_AreaPages_count_pages.ex
  have nd := sc_AreaPages_count_pages.nd
  refine ⟨fd, B, F.ok sc_AreaPages_count_pages (fun vs H Q E h => ?_) (fun cdv A' outer s H vs Q E hr h => ⟨_,
      (pss_one (ps_ret (pe_op op_mul (pe_callB call_len_seq (by rfl) T.bl_len PySem.boot_len (pa_cons (pe_fld (pv 0) rfl) pa_nil)) (pe_callB call_len_seq (by rfl) T.bl_len PySem.boot_len (pa_cons (pe_fld (pv 0) rfl) pa_nil))))), ?_⟩)⟩
  · obtain ⟨N, x, k, first, rb, cb, over, rfl, _⟩ := h
    rfl
  · obtain ⟨N, x, k', first, rb, cb, over, rfl, ⟨dx, r, c, hx, hb, hc, _⟩, hl, k⟩ := h
    obtain ⟨xs, h1, l1⟩ := hb.sq
    obtain ⟨ys, h2, l2⟩ := hc.sq
    refine ⟨_, rfl, x, _, dx, _, _, rfl, hx, T.c_AreaPages, T.na_AreaPages_row_bands, lk_AreaPages_row_bands, r, _, rfl, .inl (SqL.of h1), ?_⟩
    refine ⟨_, rfl, x, _, dx, _, _, rfl, hx, T.c_AreaPages, T.na_AreaPages_column_bands, lk_AreaPages_column_bands, c, _, rfl, .inl (SqL.of h2), _, _, rfl, rfl, .inl ⟨by omega, by omega⟩, ?_⟩
    dsimp only
    rw [l1, l2, ← Int.natCast_mul]
    exact k
/-! ### AreaPages.row_band_of, column_band_of -/
def spRowBand (A : Ad) : Sp := fun vs H Q _ => ∃ (N : Addr → Prop) (x : Addr) (k first : Nat) (rb cb : List Si32.Band) (over : Bool) (n : Nat), vs = [.ref x, .int n] ∧ APAt A H N x k first rb cb over ∧ rb.length ≤ 5000 ∧ cb.length ≤ 5000 ∧ first ≤ n ∧ n < first + rb.length * cb.length ∧
  ∀ (t : Addr) (y : Si32.Band), rb[if over = true then (n - first) / cb.length else (n - first) % rb.length]? = some y → H t = some (.tup [.int (y.1 : Nat), .int (y.2 : Nat)]) → Q (.ref t) H
theorem ok_RowBand (T : Txt K mg A) : Ok P w K mg base CX0 1 A.f_AreaPages_row_band_of p_AreaPages_row_band_of (spRowBand A) := by
  obtain ⟨fd, F, B⟩ := T.fn_AreaPages_row_band_of.ex
  have nd := sc_AreaPages_row_band_of.nd
  refine ⟨fd, B, F.ok sc_AreaPages_row_band_of (fun vs H Q E h => ?_) (fun cdv A' outer s H vs Q E hr h => ⟨_,
      (pss_cons (ps_set (i := 2) nd rfl (Or.inl rfl) (pe_op op_sub (pv 1) (pe_fld (pv 0) rfl)))
      (pss_cons (ps_if (pt_truth (pe_fld (pv 0) rfl) (by intro _; rfl)) (pss_one (ps_ret (pe_ix ix_list (pe_fld (pv 0) rfl) (pe_op op_fdivN (pv 2) (pe_callB call_len_seq (by rfl) T.bl_len PySem.boot_len (pa_cons (pe_fld (pv 0) rfl) pa_nil))) (fun _ _ => rfl)))) pss_nil)
      (pss_one (ps_ret (pe_ix ix_list (pe_fld (pv 0) rfl) (pe_op op_modN (pv 2) (pe_callB call_len_seq (by rfl) T.bl_len PySem.boot_len (pa_cons (pe_fld (pv 0) rfl) pa_nil))) (fun _ _ => rfl)))))), ?_⟩)⟩
  · obtain ⟨N, x, k', first, rb, cb, over, n, rfl, _⟩ := h
    rfl
  · obtain ⟨N, x, k', first, rb, cb, over, n, rfl, ⟨dx, r, c, hx, hb, hc, _⟩, hl1, hl2, h1, h2, k⟩ := h
    obtain ⟨p1, p2, p3, p4, p5, p6⟩ := page_ix (r := rb.length) (c := cb.length) (n := n - first) (by omega)
    have en : (n : Int) - (first : Int) = ((n - first : Nat) : Int) := by omega
    refine ⟨_, rfl, _, rfl, x, _, dx, _, _, rfl, hx, T.c_AreaPages, T.na_AreaPages_first_page, lk_AreaPages_first_page, _, _, rfl, rfl, ?_⟩
    refine ⟨_, rfl, x, _, dx, _, _, rfl, hx, T.c_AreaPages, T.na_AreaPages_beside_first, lk_AreaPages_beside_first, over, rfl, ?_⟩
    obtain ⟨ys, q1, q2⟩ := hc.sq
    cases over with
    | true =>
      refine iteT ?_
      have hy := List.getElem?_eq_getElem p3
      obtain ⟨xs, t, z1, z2, z3, z4⟩ := hb.get hy
      refine ⟨_, rfl, x, _, dx, _, _, rfl, hx, T.c_AreaPages, T.na_AreaPages_row_bands, lk_AreaPages_row_bands, _, rfl, _, rfl, x, _, dx, _, _, rfl, hx, T.c_AreaPages, T.na_AreaPages_column_bands, lk_AreaPages_column_bands, c, _, rfl, .inl (SqL.of q1), _, _, rfl, rfl, ⟨by omega, by omega⟩, ?_⟩
      refine ⟨r, _, _, .ref t, rfl, rfl, SqL.of z1, at_of (j := (n - first) / cb.length) ?_ z2, k t _ (by rw [if_pos rfl]; exact hy) z4⟩
      rw [en, q2, ← Int.ofNat_fdiv]
    | false =>
      refine iteF ?_
      have hy := List.getElem?_eq_getElem p5
      obtain ⟨xs, t, z1, z2, z3, z4⟩ := hb.get hy
      refine ⟨_, rfl, x, _, dx, _, _, rfl, hx, T.c_AreaPages, T.na_AreaPages_row_bands, lk_AreaPages_row_bands, _, rfl, _, rfl, x, _, dx, _, _, rfl, hx, T.c_AreaPages, T.na_AreaPages_row_bands, lk_AreaPages_row_bands, r, _, rfl, .inl (SqL.of z1), _, _, rfl, rfl, by omega, ?_⟩
      refine ⟨r, _, _, .ref t, rfl, rfl, SqL.of z1, at_of (j := (n - first) % rb.length) ?_ z2, k t _ (by rw [if_neg Bool.false_ne_true]; exact hy) z4⟩
      rw [en, z3, fmod_nat]
def spColBand (A : Ad) : Sp := fun vs H Q _ => ∃ (N : Addr → Prop) (x : Addr) (k first : Nat) (rb cb : List Si32.Band) (over : Bool) (n : Nat), vs = [.ref x, .int n] ∧ APAt A H N x k first rb cb over ∧ rb.length ≤ 5000 ∧ cb.length ≤ 5000 ∧ first ≤ n ∧ n < first + rb.length * cb.length ∧
  ∀ (t : Addr) (y : Si32.Band), cb[if over = true then (n - first) % cb.length else (n - first) / rb.length]? = some y → H t = some (.tup [.int (y.1 : Nat), .int (y.2 : Nat)]) → Q (.ref t) H
theorem ok_ColBand (T : Txt K mg A) : Ok P w K mg base CX0 1 A.f_AreaPages_column_band_of p_AreaPages_column_band_of (spColBand A) := by
  obtain ⟨fd, F, B⟩ := T.fn_AreaPages_column_band_of.ex
  have nd := sc_AreaPages_column_band_of.nd
  refine ⟨fd, B, F.ok sc_AreaPages_column_band_of (fun vs H Q E h => ?_) (fun cdv A' outer s H vs Q E hr h => ⟨_,
      (pss_cons (ps_set (i := 2) nd rfl (Or.inl rfl) (pe_op op_sub (pv 1) (pe_fld (pv 0) rfl)))
      (pss_cons (ps_if (pt_truth (pe_fld (pv 0) rfl) (by intro _; rfl)) (pss_one (ps_ret (pe_ix ix_list (pe_fld (pv 0) rfl) (pe_op op_modN (pv 2) (pe_callB call_len_seq (by rfl) T.bl_len PySem.boot_len (pa_cons (pe_fld (pv 0) rfl) pa_nil))) (fun _ _ => rfl)))) pss_nil)
      (pss_one (ps_ret (pe_ix ix_list (pe_fld (pv 0) rfl) (pe_op op_fdivN (pv 2) (pe_callB call_len_seq (by rfl) T.bl_len PySem.boot_len (pa_cons (pe_fld (pv 0) rfl) pa_nil))) (fun _ _ => rfl)))))), ?_⟩)⟩
  · obtain ⟨N, x, k', first, rb, cb, over, n, rfl, _⟩ := h
    rfl
  · obtain ⟨N, x, k', first, rb, cb, over, n, rfl, ⟨dx, r, c, hx, hb, hc, _⟩, hl1, hl2, h1, h2, k⟩ := h
    obtain ⟨p1, p2, p3, p4, p5, p6⟩ := page_ix (r := rb.length) (c := cb.length) (n := n - first) (by omega)
    have en : (n : Int) - (first : Int) = ((n - first : Nat) : Int) := by omega
    refine ⟨_, rfl, _, rfl, x, _, dx, _, _, rfl, hx, T.c_AreaPages, T.na_AreaPages_first_page, lk_AreaPages_first_page, _, _, rfl, rfl, ?_⟩
    refine ⟨_, rfl, x, _, dx, _, _, rfl, hx, T.c_AreaPages, T.na_AreaPages_beside_first, lk_AreaPages_beside_first, over, rfl, ?_⟩
    obtain ⟨ys, q1, q2⟩ := hb.sq
    cases over with
    | true =>
      refine iteT ?_
      have hy := List.getElem?_eq_getElem p4
      obtain ⟨xs, t, z1, z2, z3, z4⟩ := hc.get hy
      refine ⟨_, rfl, x, _, dx, _, _, rfl, hx, T.c_AreaPages, T.na_AreaPages_column_bands, lk_AreaPages_column_bands, _, rfl, _, rfl, x, _, dx, _, _, rfl, hx, T.c_AreaPages, T.na_AreaPages_column_bands, lk_AreaPages_column_bands, c, _, rfl, .inl (SqL.of z1), _, _, rfl, rfl, by omega, ?_⟩
      refine ⟨c, _, _, .ref t, rfl, rfl, SqL.of z1, at_of (j := (n - first) % cb.length) ?_ z2, k t _ (by rw [if_pos rfl]; exact hy) z4⟩
      rw [en, z3, fmod_nat]
    | false =>
      refine iteF ?_
      have hy := List.getElem?_eq_getElem p6
      obtain ⟨xs, t, z1, z2, z3, z4⟩ := hc.get hy
      refine ⟨_, rfl, x, _, dx, _, _, rfl, hx, T.c_AreaPages, T.na_AreaPages_column_bands, lk_AreaPages_column_bands, _, rfl, _, rfl, x, _, dx, _, _, rfl, hx, T.c_AreaPages, T.na_AreaPages_row_bands, lk_AreaPages_row_bands, r, _, rfl, .inl (SqL.of q1), _, _, rfl, rfl, ⟨by omega, by omega⟩, ?_⟩
      refine ⟨c, _, _, .ref t, rfl, rfl, SqL.of z1, at_of (j := (n - first) / rb.length) ?_ z2, k t _ (by rw [if_neg Bool.false_ne_true]; exact hy) z4⟩
      rw [en, q2, ← Int.ofNat_fdiv]
/-! ### is_within, band_place -/
def spWithin : Sp := fun vs H Q _ => ∃ (r : Addr) (l : List Si32.Band) (a b i : Nat), vs = [.int i, .ref r] ∧ BandsL H r l ∧ chain a l b ∧ a ≤ b ∧ Q (.bl (decide (a ≤ i ∧ i ≤ b))) H
theorem ok_Within (T : Txt K mg A) : Ok P w K mg base CX0 1 A.f_is_within p_is_within spWithin := by
  obtain ⟨fd, F, B⟩ := T.fn_is_within.ex
  have nd := sc_is_within.nd
  refine ⟨fd, B, F.ok sc_is_within (fun vs H Q E h => ?_) (fun cdv A' outer s H vs Q E hr h => ⟨_,
      (pss_one (ps_ret (pe_chain op_le op_le (pe_ix ix_tup (pe_ix ix_list (pv 1) pe_int (fun _ _ => rfl)) pe_int (fun _ _ => rfl)) (pv 0) (pe_ix ix_tup (pe_ix ix_list (pv 1) (pe_un un_neg pe_int) (fun _ _ => rfl)) pe_int (fun _ _ => rfl))))), ?_⟩)⟩
  · obtain ⟨r, l, a, b, i, rfl, _⟩ := h
    rfl
  · obtain ⟨r, l, a, b, i, rfl, hl, hc, hab, k⟩ := h
    obtain ⟨x, rest, e1, e2⟩ := chain_first hc hab
    obtain ⟨y, e3, e4⟩ := chain_last hc hab
    have h0 : l[0]? = some x := by rw [e1]; rfl
    obtain ⟨xs, t, z1, z2, z3, z4⟩ := hl.get h0
    obtain ⟨xs', u, y1, y2, y3, y4⟩ := hl.get e3
    rw [z1] at y1
    have exs : xs = xs' := by injection y1 with y1; injection y1
    subst exs
    refine ⟨_, rfl, r, _, 0, .ref t, rfl, rfl, SqL.of z1, atI_nat (j := 0) z2, t, _, 0, .int (x.1 : Nat), rfl, rfl, SqT.of z4, rfl, _, rfl, _, _, rfl, rfl, _, rfl, ite2 (fun c => ?_) (fun c => ?_)⟩
    · refine ⟨_, rfl, 1, rfl, r, _, _, .ref u, rfl, rfl, SqL.of z1, atI_end (by rw [y3]; exact y2), u, _, 1, .int (y.2 : Nat), rfl, rfl, SqT.of y4, rfl, _, _, rfl, rfl, ?_⟩
      dsimp only
      simp only [decide_eq_true_eq] at c
      have : decide ((i : Int) ≤ ((y.2 : Nat) : Int)) = decide (a ≤ i ∧ i ≤ b) := by
        rw [decide_eq_decide]; omega
      rw [this]
      exact k
    · simp only [decide_eq_true_eq] at c
      have : decide (a ≤ i ∧ i ≤ b) = false := decide_eq_false (by omega)
      rw [this] at k
      exact k
def spPlace : Sp := fun vs H Q _ => ∃ (r : Addr) (l : List Si32.Band) (a b i : Nat), vs = [.int i, .ref r] ∧ BandsL H r l ∧ chain a l b ∧ a ≤ i ∧ i ≤ b ∧ Q (.int ((bIx l i : Nat) : Int)) H
theorem ok_Place (T : Txt K mg A) : Ok P w K mg base CX0 1 A.f_band_place p_band_place spPlace := by
  obtain ⟨fd, F, B⟩ := T.fn_band_place.ex
  have nd := sc_band_place.nd
  refine ⟨fd, B, F.ok sc_band_place (fun vs H Q E h => ?_) (fun cdv A' outer s H vs Q E hr h => ⟨_,
      (pss_cons (ps_set (i := 2) nd rfl (Or.inl rfl) pe_int)
      (pss_cons (ps_while PassesOwn.never (pt_cmpR op_lt (pe_ix ix_tup (pe_ix ix_list (pv 1) (pv 2) (fun _ _ => rfl)) pe_int (fun _ _ => rfl)) (pv 0) (nomark _)) (pss_one (ps_aug (i := 2) nd rfl (.inl rfl) pe_int ip_add)))
      (pss_one (ps_ret (pv 2))))), ?_⟩)⟩
  · obtain ⟨r, l, a, b, i, rfl, _⟩ := h
    rfl
  · obtain ⟨r, l, a, b, i, rfl, hl, hc, hai, hib, k⟩ := h
    obtain ⟨x, e1, e2, e3, _⟩ := bandAt_in hc hai hib
    refine while_by (fun σ H' => H' = H ∧ ∃ f : Nat, σ = [some (.int i), some (.ref r), some (.int f)] ∧ f ≤ bIx l i) (fun σ _ => match σ with | [_, _, some (.int f)] => bIx l i - f.toNat | _ => 0) ⟨rfl, 0, rfl, Nat.zero_le _⟩ ?_ ?_
    · rintro σ H1 ⟨rfl, f, rfl, hf⟩
      have hbl := (List.getElem?_eq_some_iff.mp e1).1
      have hy := List.getElem?_eq_getElem (show f < l.length by omega)
      obtain ⟨xs, t, z1, z2, z3, z4⟩ := hl.get hy
      refine ⟨_, rfl, _, rfl, r, _, f, .ref t, rfl, rfl, SqL.of z1, atI_nat z2, t, _, 1, .int ((l[f].2 : Nat) : Int), rfl, rfl, SqT.of z4, rfl, _, rfl, _, _, rfl, rfl, _, rfl, ite2 (fun c => ?_) (fun c => ?_)⟩
      · simp only [decide_eq_true_eq] at c
        have hne : f ≠ bIx l i := by
          intro z
          subst z
          rw [e1] at hy
          have := Option.some.inj hy
          rw [← this] at c
          omega
        refine ⟨_, rfl, _, _, rfl, rfl, ⟨rfl, f + 1, rfl, by omega⟩, ?_⟩
        show bIx l i - ((f : Int) + 1).toNat < bIx l i - ((f : Int)).toNat
        omega
      · simp only [decide_eq_true_eq] at c
        have : f = bIx l i := by
          rcases Nat.lt_or_ge f (bIx l i) with h | h
          · have := bIx_lt h hy
            omega
          · omega
        refine ⟨_, rfl, ?_⟩
        rw [this]
        exact k
    · exact fun σ H Q Q' hq ⟨v, e, v2, e2, p, xs, z, u, e3, e4, sq, at1, p', xs', z', u', e5, e6, sq', at2, v3, e7, i', j', e8, e9, k, e10, q⟩ => ⟨v, e, v2, e2, p, xs, z, u, e3, e4, sq, at1, p', xs', z', u', e5, e6, sq', at2, v3, e7, i', j', e8, e9, k, e10, hq _ _ q⟩
/-! ### AreaPages.has_cell, page_of -/
def spHas (A : Ad) : Sp := fun vs H Q _ => ∃ (N : Addr → Prop) (x : Addr) (k first : Nat) (rb cb : List Si32.Band) (over : Bool) (row col r0 r1 c0 c1 : Nat), vs = [.ref x, .int row, .int col] ∧ APAt A H N x k first rb cb over ∧ chain r0 rb r1 ∧ r0 ≤ r1 ∧ chain c0 cb c1 ∧ c0 ≤ c1 ∧
  Q (.bl (decide (r0 ≤ row ∧ row ≤ r1) && decide (c0 ≤ col ∧ col ≤ c1))) H
theorem ok_Has (T : Txt K mg A) : Ok P w K mg base CX0 2 A.f_AreaPages_has_cell p_AreaPages_has_cell (spHas A) := by
  obtain ⟨fd, F, B⟩ := T.fn_AreaPages_has_cell.ex
  have nd := sc_AreaPages_has_cell.nd
  obtain ⟨_, B_is_within, G_is_within⟩ := (ok_Within (P := P) (w := w) (base := base) T).ex
  refine ⟨fd, B, F.ok sc_AreaPages_has_cell (fun vs H Q E h => ?_) (fun cdv A' outer s H vs Q E hr h => ⟨_,
      (pss_one (ps_ret (pe_and (pe_call G_is_within hr rfl T.g_is_within T.k_is_within B_is_within .nil pass0 (pa_cons (pv 1) (pa_cons (pe_fld (pv 0) rfl) pa_nil))) (pe_one (pe_call G_is_within hr rfl T.g_is_within T.k_is_within B_is_within .nil pass0 (pa_cons (pv 2) (pa_cons (pe_fld (pv 0) rfl) pa_nil))))))), ?_⟩)⟩
  · obtain ⟨N, x, k', first, rb, cb, over, row, col, r0, r1, c0, c1, rfl, _⟩ := h
    rfl
  · obtain ⟨N, x, k', first, rb, cb, over, row, col, r0, r1, c0, c1, rfl, ⟨dx, r, c, hx, hb, hc, _⟩, q1, q2, q3, q4, k⟩ := h
    refine ⟨_, rfl, _, rfl, x, _, dx, _, _, rfl, hx, T.c_AreaPages, T.na_AreaPages_row_bands, lk_AreaPages_row_bands, r, rb, r0, r1, row, rfl, hb, q1, q2, _, rfl, ?_⟩
    cases e : decide (r0 ≤ row ∧ row ≤ r1) with
    | true =>
      rw [e, Bool.true_and] at k
      exact iteT ⟨_, rfl, _, rfl, x, _, dx, _, _, rfl, hx, T.c_AreaPages, T.na_AreaPages_column_bands, lk_AreaPages_column_bands, c, cb, c0, c1, col, rfl, hc, q3, q4, k⟩
    | false =>
      rw [e, Bool.false_and] at k
      exact iteF k
def spPageOf (A : Ad) : Sp := fun vs H Q _ => ∃ (N : Addr → Prop) (x : Addr) (k first : Nat) (rb cb : List Si32.Band) (over : Bool) (row col r0 r1 c0 c1 : Nat), vs = [.ref x, .int row, .int col] ∧ APAt A H N x k first rb cb over ∧ chain r0 rb r1 ∧ r0 ≤ row ∧ row ≤ r1 ∧ chain c0 cb c1 ∧ c0 ≤ col ∧ col ≤ c1 ∧ rb.length ≤ 5000 ∧ cb.length ≤ 5000 ∧
  Q (.int ((first + (if over = true then bIx rb row * cb.length + bIx cb col else bIx cb col * rb.length + bIx rb row) : Nat) : Int)) H
theorem ok_PageOf (T : Txt K mg A) : Ok P w K mg base CX0 2 A.f_AreaPages_page_of p_AreaPages_page_of (spPageOf A) := by
  obtain ⟨fd, F, B⟩ := T.fn_AreaPages_page_of.ex
  have nd := sc_AreaPages_page_of.nd
  obtain ⟨_, B_band_place, G_band_place⟩ := (ok_Place (P := P) (w := w) (base := base) T).ex
  refine ⟨fd, B, F.ok sc_AreaPages_page_of (fun vs H Q E h => ?_) (fun cdv A' outer s H vs Q E hr h => ⟨_,
      (pss_cons (ps_set (i := 3) nd rfl (Or.inl rfl) (pe_call G_band_place hr rfl T.g_band_place T.k_band_place B_band_place .nil pass0 (pa_cons (pv 1) (pa_cons (pe_fld (pv 0) rfl) pa_nil))))
      (pss_cons (ps_set (i := 4) nd rfl (Or.inl rfl) (pe_call G_band_place hr rfl T.g_band_place T.k_band_place B_band_place .nil pass0 (pa_cons (pv 2) (pa_cons (pe_fld (pv 0) rfl) pa_nil))))
      (pss_cons (ps_if (pt_truth (pe_fld (pv 0) rfl) (by intro _; rfl)) (pss_one (ps_ret (pe_op op_add (pe_op op_add (pe_fld (pv 0) rfl) (pe_op op_mul (pv 3) (pe_callB call_len_seq (by rfl) T.bl_len PySem.boot_len (pa_cons (pe_fld (pv 0) rfl) pa_nil)))) (pv 4)))) pss_nil)
      (pss_one (ps_ret (pe_op op_add (pe_op op_add (pe_fld (pv 0) rfl) (pe_op op_mul (pv 4) (pe_callB call_len_seq (by rfl) T.bl_len PySem.boot_len (pa_cons (pe_fld (pv 0) rfl) pa_nil)))) (pv 3))))))), ?_⟩)⟩
  · obtain ⟨N, x, k', first, rb, cb, over, row, col, r0, r1, c0, c1, rfl, _⟩ := h
    rfl
  · obtain ⟨N, x, k', first, rb, cb, over, row, col, r0, r1, c0, c1, rfl, ⟨dx, r, c, hx, hb, hc, _⟩, q1, q2, q3, q4, q5, q6, l1, l2, k⟩ := h
    obtain ⟨_, e1, _⟩ := bandAt_in q1 q2 q3
    obtain ⟨_, e2, _⟩ := bandAt_in q4 q5 q6
    have b1 := (List.getElem?_eq_some_iff.mp e1).1
    have b2 := (List.getElem?_eq_some_iff.mp e2).1
    obtain ⟨xs, z1, z2⟩ := hb.sq
    obtain ⟨ys, y1, y2⟩ := hc.sq
    refine ⟨_, rfl, _, rfl, x, _, dx, _, _, rfl, hx, T.c_AreaPages, T.na_AreaPages_row_bands, lk_AreaPages_row_bands, r, rb, r0, r1, row, rfl, hb, q1, q2, q3, ?_⟩
    refine ⟨_, rfl, _, rfl, x, _, dx, _, _, rfl, hx, T.c_AreaPages, T.na_AreaPages_column_bands, lk_AreaPages_column_bands, c, cb, c0, c1, col, rfl, hc, q4, q5, q6, ?_⟩
    refine ⟨_, rfl, x, _, dx, _, _, rfl, hx, T.c_AreaPages, T.na_AreaPages_beside_first, lk_AreaPages_beside_first, over, rfl, ?_⟩
    cases over with
    | true =>
      refine iteT ⟨_, rfl, x, _, dx, _, _, rfl, hx, T.c_AreaPages, T.na_AreaPages_first_page, lk_AreaPages_first_page, _, rfl, _, rfl, x, _, dx, _, _, rfl, hx, T.c_AreaPages, T.na_AreaPages_column_bands, lk_AreaPages_column_bands, c, _, rfl, .inl (SqL.of y1), _, _, rfl, rfl, .inl ⟨by omega, by omega⟩, _, _, rfl, rfl, _, rfl, _, _, rfl, rfl, ?_⟩
      dsimp only
      rw [if_pos rfl] at k
      rw [y2, ← Int.natCast_mul, show (first : Int) + ((bIx rb row * cb.length : Nat) : Int) + ((bIx cb col : Nat) : Int) = ((first + (bIx rb row * cb.length + bIx cb col) : Nat) : Int) by omega]
      exact k
    | false =>
      refine iteF ⟨_, rfl, x, _, dx, _, _, rfl, hx, T.c_AreaPages, T.na_AreaPages_first_page, lk_AreaPages_first_page, _, rfl, _, rfl, x, _, dx, _, _, rfl, hx, T.c_AreaPages, T.na_AreaPages_row_bands, lk_AreaPages_row_bands, r, _, rfl, .inl (SqL.of z1), _, _, rfl, rfl, .inl ⟨by omega, by omega⟩, _, _, rfl, rfl, _, rfl, _, _, rfl, rfl, ?_⟩
      dsimp only
      rw [if_neg Bool.false_ne_true] at k
      rw [z2, ← Int.natCast_mul, show (first : Int) + ((bIx cb col * rb.length : Nat) : Int) + ((bIx rb row : Nat) : Int) = ((first + (bIx cb col * rb.length + bIx rb row) : Nat) : Int) by omega]
      exact k
end
end Sh

namespace Sh
open PySem PySem.Spec PyProof.Rows L2
open PySem.W (Codec)
/-! ### numbers in digits -/
def bv (l : List Nat) : List V := iv (intl l)
theorem bv_app (a b : List Nat) : bv (a ++ b) = bv a ++ bv b := by unfold bv; rw [ints_app, iv_app]
theorem bv_len (a : List Nat) : (bv a).length = a.length := by unfold bv; rw [iv_len, ints_len]
theorem bv_get (a : List Nat) (i : Nat) : (bv a)[i]? = (a[i]?).map fun (n : Nat) => V.int (n : Int) := by
  unfold bv iv intl
  rw [List.getElem?_map, List.getElem?_map]
  cases a[i]? <;> rfl
theorem signs_int (z : Int) : (PySem.Str.ofString (toString z)).cps.toList = Si32.int z := by
  rw [PySem.Str.ofString_eq_toList]
  show (toString z).toList.map Char.toNat = _
  unfold Si32.int Si32.dec
  cases z with
  | ofNat n =>
    rw [if_neg (show ¬ (Int.ofNat n < 0) from Int.not_lt.mpr (Int.natCast_nonneg n))]
    show (Nat.repr n).toList.map Char.toNat = _
    rw [Nat.toList_repr]
    rfl
  | negSucc n =>
    rw [if_pos (by omega)]
    show ("-" ++ Nat.repr (n + 1)).toList.map Char.toNat = _
    rw [String.toList_append, List.map_append, Nat.toList_repr]
    rfl
theorem digs_len : ∀ (k n : Nat), n < 10 ^ (k + 1) → (Nat.toDigits 10 n).length ≤ k + 1
  | 0, n, h => by rw [Nat.toDigits_of_lt_base (by omega)]; exact Nat.le_refl _
  | k + 1, n, h => by
    by_cases h1 : n < 10
    · rw [Nat.toDigits_of_lt_base h1]; show 1 ≤ _; omega
    · have hm : n % 10 < 10 := Nat.mod_lt n (by decide)
      have t : Nat.toDigits 10 (n / 10) ++ Nat.toDigits 10 (n % 10) = Nat.toDigits 10 (10 * (n / 10) + n % 10) := Nat.toDigits_append_toDigits (by decide) (by omega) hm
      rw [Nat.div_add_mod] at t
      rw [← t, List.length_append, Nat.toDigits_of_lt_base hm]
      have := digs_len k (n / 10) (Nat.div_lt_of_lt_mul (by rw [Nat.mul_comm, ← Nat.pow_succ]; exact h))
      show _ + 1 ≤ _
      omega
theorem int_len {z : Int} (h : z.natAbs < 10 ^ 10) : (Si32.int z).length ≤ 11 := by
  have := digs_len 9 z.natAbs h
  unfold Si32.int Si32.dec
  split
  · rw [List.length_cons, List.length_map]; omega
  · rw [List.length_map]; omega
theorem int_nat (n : Nat) : Si32.int (n : Int) = Si32.dec n := by
  unfold Si32.int
  rw [if_neg (by omega)]
  rfl
theorem log_small {n k : Nat} (hk : 1 ≤ k) (h : n < 2 ^ k) : n.log2 < k := by
  by_cases h0 : n = 0
  · subst h0; rw [Nat.log2_zero]; omega
  · exact (Nat.log2_lt h0).mpr h
theorem lc_str {x : Str} {g : TG} {tt : TT} {te : TE} {vs : List Nat} {σ : L2.St} {H1 : Hp} {D : Addr} {Qd : Hp → Prop} (Pv : Nat → Hp → Prop) (h0 : Pv 0 (upd H1 D (.lst [])))
    (hs : ∀ i c H, x.cps[i]? = some c → Pv i H → g (.str ⟨#[c]⟩) (wipe σ vs) H fun σ2 H2 => wipe σ2 vs = wipe σ vs ∧ tt σ2 H2 fun b H3 =>
      if b = true then te σ2 H3 fun y H4 => ∃ acc, H4 D = some (.lst acc) ∧ acc.length < sizeLine ∧ Pv (i + 1) (upd H4 D (.lst (acc ++ [y]))) else Pv (i + 1) H3) (hd : ∀ H, Pv x.cps.size H → Qd H) :
    ∃ W : Nat → Nat → Hp → Prop, (∃ m, W 0 m (upd H1 D (.lst []))) ∧ ∀ i m H, W i m H →
      ((Its x).stop i H ∧ Qd H) ∨ ((Its x).go i H ∧ ∃ Nx : Hp → Prop, (∀ H', Nx H' → ∃ m', m' < m ∧ W (i + 1) m' H') ∧ ∀ y H', (Its x).yld i H y H' → g y (wipe σ vs) H' fun σ2 H2 => wipe σ2 vs = wipe σ vs ∧ tt σ2 H2 fun b H3 =>
        if b = true then te σ2 H3 fun y H4 => ∃ acc, H4 D = some (.lst acc) ∧ acc.length < sizeLine ∧ Nx (upd H4 D (.lst (acc ++ [y]))) else Nx H3) := by
  refine ⟨fun i m H => m = x.cps.size - i ∧ i ≤ x.cps.size ∧ Pv i H, ⟨x.cps.size, by simp, Nat.zero_le _, h0⟩, ?_⟩
  rintro i m H ⟨rfl, hi, p⟩
  by_cases hlt : i < x.cps.size
  · refine .inr ⟨hlt, Pv (i + 1), fun H' p' => ⟨x.cps.size - (i + 1), by omega, rfl, hlt, p'⟩, fun y H' h => ?_⟩
    obtain ⟨e, c, hc, ey⟩ := h
    subst e ey
    exact hs i c _ hc p
  · have : i = x.cps.size := by omega
    subst this
    exact .inl ⟨Nat.le_refl _, hd _ p⟩
section
variable {P : Program} {w : World} {K : PySem.W.Frag} {mg : Str → Option Value} {base : Heap} {A : Ad}
def spDigits : Sp := fun vs H Q _ => ∃ z : Int, vs = [.int z] ∧ z.natAbs < 10 ^ 10 ∧ ∀ (H' : Hp) (r : Addr), Same H H' → H r = none → H' r = some (.lst (bv (Si32.int z))) → Q (.ref r) H'
theorem ok_Digits (T : Txt K mg A) : Ok P w K mg base CX0 1 A.f_digits_of p_digits_of spDigits := by
  obtain ⟨fd, F, B⟩ := T.fn_digits_of.ex
  have nd := sc_digits_of.nd
  refine ⟨fd, B, F.ok sc_digits_of (fun vs H Q E h => ?_) (fun cdv A' outer s H vs Q E hr h => ⟨_,
      (pss_one (ps_ret (pe_lc (own := [("digit", 1)]) (g := gName 1) (by rfl) nd (pi_str (pe_callTy call_str_int (by rfl) T.bl_str (by decide +kernel) (pa_cons (pv 0) pa_nil))) (blkOk_by (own := [("digit", 1)]) (N := n_digits_of) (sc := defScope s_digits_of) (by decide +kernel)) (fun _ _ _ _ _ => pg_name (i := 1) nd rfl (Or.inl rfl)) (fun _ _ _ _ _ => pts_nil) (fun _ _ _ _ _ => (pe_callB call_ord (by rfl) T.bl_ord (by decide +kernel) (pa_cons (pv 1) pa_nil)))))), ?_⟩)⟩
  · obtain ⟨z, rfl, _⟩ := h
    rfl
  · obtain ⟨z, rfl, hz, k⟩ := h
    have hsig := signs_int z
    generalize hx : PySem.Str.ofString (toString z) = x at hsig
    refine ⟨_, rfl, z, rfl, Nat.lt_trans (log_small (k := 64) (by decide) (Nat.lt_trans hz (by decide))) (by decide), x, by rw [← hx], fun D hD => ?_⟩
    refine lc_str (fun i H' => (∀ b o, H b = some o → H' b = some o) ∧ H' D = some (.lst (bv ((Si32.int z).take i)))) ⟨fun b o hb => (upd_ne (ne_of_none hb hD)).trans hb, upd_same⟩ ?_ ?_
    · rintro i c H' hc ⟨s1, s2⟩
      have hc' : (Si32.int z)[i]? = some c := by
        rw [← hsig, Array.getElem?_toList]; exact hc
      have hlen := int_len hz
      refine ⟨rfl, _, rfl, ⟨#[c]⟩, rfl, rfl, _, s2, ?_, fun b o hb => (upd_ne (ne_of_none hb hD)).trans (s1 b o hb), ?_⟩
      · rw [bv_len, List.length_take, sizeLine_eq]; omega
      · rw [upd_same, take_snoc hc', bv_app]; rfl
    · rintro H' ⟨s1, s2⟩
      refine k H' D s1 hD ?_
      rw [s2, List.take_of_length_le]
      rw [← hsig, Array.length_toList]
      exact Nat.le_refl _
end
end Sh

namespace Sh
open PySem PySem.Spec PyProof.Rows L2
open PySem.W (Codec)
theorem bv_snoc (l : List Nat) (n : Nat) : bv l ++ [V.int (n : Int)] = bv (l ++ [n]) := by
  rw [bv_app]; rfl
theorem ordAmp : ((PySem.Str.ofString "&").cps.getD 0 0) = 38 := by decide +kernel
theorem ordL : ((PySem.Str.ofString "L").cps.getD 0 0) = 76 := by decide +kernel
theorem ordC : ((PySem.Str.ofString "C").cps.getD 0 0) = 67 := by decide +kernel
theorem ordR : ((PySem.Str.ofString "R").cps.getD 0 0) = 82 := by decide +kernel
theorem ordP : ((PySem.Str.ofString "P").cps.getD 0 0) = 80 := by decide +kernel
theorem ordN : ((PySem.Str.ofString "N").cps.getD 0 0) = 78 := by decide +kernel
theorem ordA : ((PySem.Str.ofString "A").cps.getD 0 0) = 65 := by decide +kernel
def sidesK : List (Key × V) := [(Sum.inl (76 : Nat), .int 0), (Sum.inl (67 : Nat), .int 1), (Sum.inl (82 : Nat), .int 2)]
def numsK (pg : Int) (ps ar : Nat) : List (Key × V) := [(Sum.inl (80 : Nat), .int pg), (Sum.inl (78 : Nat), .int ps), (Sum.inl (65 : Nat), .int ar)]
theorem merge3 {a b c : Nat} {x y z : V} (h1 : a ≠ b) (h2 : a ≠ c) (h3 : b ≠ c) : mergeK [] [(Sum.inl (a : Int), x), (Sum.inl (b : Int), y), (Sum.inl (c : Int), z)] = ([(Sum.inl (a : Int), x), (Sum.inl (b : Int), y), (Sum.inl (c : Int), z)] : List (Key × V)) := by
  have ne : ∀ {m n : Nat}, m ≠ n → ¬ ((Sum.inl (m : Int) : Key) = Sum.inl (n : Int)) := fun h e => h (by have := Sum.inl.inj e; omega)
  unfold mergeK
  simp only [List.foldl_cons, List.foldl_nil, putK, List.any_nil, List.any_cons, List.nil_append, List.cons_append, decide_eq_false (ne h1), decide_eq_false (ne h2), decide_eq_false (ne h3), Bool.or_false, Bool.false_eq_true, if_false]
theorem valV3 {a b c k : Nat} {x y z : V} : valV ([(Sum.inl (a : Int), x), (Sum.inl (b : Int), y), (Sum.inl (c : Int), z)] : List (Key × V)) (Sum.inl (k : Int)) = if k = a then some x else if k = b then some y else if k = c then some z else none := by
  have ne : ∀ {m n : Nat}, ¬ n = m → ¬ ((Sum.inl (m : Int) : Key) = Sum.inl (n : Int)) := fun h e => h (by have := Sum.inl.inj e; omega)
  by_cases h1 : k = a
  · rw [if_pos h1]; exact valV_pos (p := (Sum.inl (a : Int), x)) (by rw [h1])
  rw [if_neg h1, valV_neg (p := (Sum.inl (a : Int), x)) (ne h1)]
  by_cases h2 : k = b
  · rw [if_pos h2]; exact valV_pos (p := (Sum.inl (b : Int), y)) (by rw [h2])
  rw [if_neg h2, valV_neg (p := (Sum.inl (b : Int), y)) (ne h2)]
  by_cases h3 : k = c
  · rw [if_pos h3]; exact valV_pos (p := (Sum.inl (c : Int), z)) (by rw [h3])
  rw [if_neg h3, valV_neg (p := (Sum.inl (c : Int), z)) (ne h3)]
  rfl
/-! ### the three parts in the heap -/
def lsel (l0 l1 l2 : Addr) (a : Nat) : Addr := if a = 0 then l0 else if a = 1 then l1 else l2
def psel (x : Si32.Parts) (a : Nat) : List Nat := if a = 0 then x.left else if a = 1 then x.middle else x.right
structure TxAt (H : Hp) (l0 l1 l2 : Addr) (x : Si32.Parts) : Prop where
  h0 : H l0 = some (.lst (bv x.left))
  h1 : H l1 = some (.lst (bv x.middle))
  h2 : H l2 = some (.lst (bv x.right))
  n01 : l0 ≠ l1
  n02 : l0 ≠ l2
  n12 : l1 ≠ l2
theorem TxAt.get {H : Hp} {l0 l1 l2 : Addr} {x : Si32.Parts} (h : TxAt H l0 l1 l2 x) (a : Nat) : H (lsel l0 l1 l2 a) = some (.lst (bv (psel x a))) := by
  unfold lsel psel
  split
  · exact h.h0
  · split
    · exact h.h1
    · exact h.h2
theorem TxAt.add {H : Hp} {l0 l1 l2 : Addr} {x : Si32.Parts} (h : TxAt H l0 l1 l2 x) (a : Nat) (b : List Nat) : TxAt (upd H (lsel l0 l1 l2 a) (.lst (bv (psel x a ++ b)))) l0 l1 l2 (x.add a b) := by
  unfold lsel psel Si32.Parts.add
  by_cases e0 : a = 0
  · simp only [if_pos e0]
    exact ⟨upd_same, (upd_ne (Ne.symm h.n01)).trans h.h1, (upd_ne (Ne.symm h.n02)).trans h.h2, h.n01, h.n02, h.n12⟩
  · simp only [if_neg e0]
    by_cases e1 : a = 1
    · simp only [if_pos e1]
      exact ⟨(upd_ne h.n01).trans h.h0, upd_same, (upd_ne (Ne.symm h.n12)).trans h.h2, h.n01, h.n02, h.n12⟩
    · simp only [if_neg e1]
      exact ⟨(upd_ne h.n02).trans h.h0, (upd_ne h.n12).trans h.h1, upd_same, h.n01, h.n02, h.n12⟩
theorem TxAt.keep {H H' : Hp} {l0 l1 l2 : Addr} {x : Si32.Parts} (h : TxAt H l0 l1 l2 x) (k : ∀ b o, H b = some o → H' b = some o) : TxAt H' l0 l1 l2 x := ⟨k _ _ h.h0, k _ _ h.h1, k _ _ h.h2, h.n01, h.n02, h.n12⟩
theorem psel_add (x : Si32.Parts) (a c : Nat) (b : List Nat) : (psel (x.add a b) c).length ≤ (psel x c).length + b.length := by
  unfold psel Si32.Parts.add
  by_cases e0 : a = 0
  · simp only [if_pos e0]
    split
    · simp
    · split <;> simp
  · simp only [if_neg e0]
    by_cases e1 : a = 1
    · simp only [if_pos e1]
      split
      · simp
      · split <;> simp
    · simp only [if_neg e1]
      split
      · simp
      · split <;> simp
section
variable {P : Program} {w : World} {K : PySem.W.Frag} {mg : Str → Option Value} {base : Heap} {A : Ad}
def spWrite (K : PySem.W.Frag) (A : Ad) : Sp := fun vs H Q E => ∃ (q : Addr) (b : List Nat) (pg : Int) (ps ar : Nat), vs = [.ref q, .int pg, .int ps, .int ar] ∧ SqL K H q (bv b) ∧ b.length ≤ 1000 ∧ pg.natAbs < 10 ^ 10 ∧ ps < 10 ^ 10 ∧ ar < 10 ^ 10 ∧
  (Si32.parts pg ps ar b = none → ∀ H', Same H H' → E (.ref A.X_CannotBeTold) none H') ∧
  ∀ x, Si32.parts pg ps ar b = some x → ∀ (H' : Hp) (pl l0 l1 l2 : Addr), Same H H' → H' pl = some (.lst [.ref l0, .ref l1, .ref l2]) → TxAt H' l0 l1 l2 x → H pl = none → H l0 = none → H l1 = none → H l2 = none → (∀ a, (psel x a).length ≤ 11 * b.length) → Q (.ref pl) H'
/-- what stands in the heap within the loop -/
structure Wr (H H' : Hp) (d1 d2 pl l0 l1 l2 : Addr) (pg : Int) (ps ar : Nat) (x : Si32.Parts) : Prop where
  same : Same H H'
  hd1 : H' d1 = some (.dK sidesK)
  hd2 : H' d2 = some (.dK (numsK pg ps ar))
  hpl : H' pl = some (.lst [.ref l0, .ref l1, .ref l2])
  tx : TxAt H' l0 l1 l2 x
  f0 : H l0 = none
  f1 : H l1 = none
  f2 : H l2 = none
  fp : H pl = none
  p0 : pl ≠ l0
  p1 : pl ≠ l1
  p2 : pl ≠ l2
theorem lsel_ne {l0 l1 l2 c : Addr} (h0 : c ≠ l0) (h1 : c ≠ l1) (h2 : c ≠ l2) (a : Nat) : c ≠ lsel l0 l1 l2 a := by
  unfold lsel
  split
  · exact h0
  · split
    · exact h1
    · exact h2
theorem Wr.add {H H' : Hp} {d1 d2 pl l0 l1 l2 : Addr} {pg : Int} {ps ar : Nat} {x : Si32.Parts} (h : Wr H H' d1 d2 pl l0 l1 l2 pg ps ar x) (a : Nat) (b : List Nat) : Wr H (upd H' (lsel l0 l1 l2 a) (.lst (bv (psel x a ++ b)))) d1 d2 pl l0 l1 l2 pg ps ar (x.add a b) := by
  have hg := h.tx.get a
  refine ⟨fun c o hc => ?_, ?_, ?_, ?_, h.tx.add a b, h.f0, h.f1, h.f2, h.fp, h.p0, h.p1, h.p2⟩
  · rw [upd_ne (lsel_ne (ne_of_none hc h.f0) (ne_of_none hc h.f1) (ne_of_none hc h.f2) a)]
    exact h.same c o hc
  · rw [upd_ne (ne_of h.hd1 hg (by intro z; cases z))]; exact h.hd1
  · rw [upd_ne (ne_of h.hd2 hg (by intro z; cases z))]; exact h.hd2
  · rw [upd_ne (lsel_ne h.p0 h.p1 h.p2 a)]; exact h.hpl
theorem Wr.keep {H H' H2 : Hp} {d1 d2 pl l0 l1 l2 : Addr} {pg : Int} {ps ar : Nat} {x : Si32.Parts} (h : Wr H H' d1 d2 pl l0 l1 l2 pg ps ar x) (k : Same H' H2) : Wr H H2 d1 d2 pl l0 l1 l2 pg ps ar x :=
  ⟨h.same.trans k, k _ _ h.hd1, k _ _ h.hd2, k _ _ h.hpl, h.tx.keep k, h.f0, h.f1, h.f2, h.fp, h.p0, h.p1, h.p2⟩
theorem wr_start {H : Hp} {d1 d2 l0 l1 l2 pl : Addr} {k1 k2 : List (Key × V)} {pg : Int} {ps ar : Nat} (e1 : k1 = sidesK) (e2 : k2 = numsK pg ps ar) (hd1 : H d1 = none) (hd2 : upd (upd H d1 (.dK [])) d1 (.dK k1) d2 = none)
    (hl0 : upd (upd (upd (upd H d1 (.dK [])) d1 (.dK k1)) d2 (.dK [])) d2 (.dK k2) l0 = none) (hl1 : upd (upd (upd (upd (upd H d1 (.dK [])) d1 (.dK k1)) d2 (.dK [])) d2 (.dK k2)) l0 (.lst []) l1 = none)
    (hl2 : upd (upd (upd (upd (upd (upd H d1 (.dK [])) d1 (.dK k1)) d2 (.dK [])) d2 (.dK k2)) l0 (.lst [])) l1 (.lst []) l2 = none)
    (hpl : upd (upd (upd (upd (upd (upd (upd H d1 (.dK [])) d1 (.dK k1)) d2 (.dK [])) d2 (.dK k2)) l0 (.lst [])) l1 (.lst [])) l2 (.lst []) pl = none) :
    Wr H (upd (upd (upd (upd (upd (upd (upd (upd H d1 (.dK [])) d1 (.dK k1)) d2 (.dK [])) d2 (.dK k2)) l0 (.lst [])) l1 (.lst [])) l2 (.lst [])) pl (.lst [.ref l0, .ref l1, .ref l2])) d1 d2 pl l0 l1 l2 pg ps ar ⟨[], [], []⟩ := by
  subst e1 e2
  simp only [upd_upd] at *
  have a1 : ∀ {b o}, H b = some o → upd H d1 (.dK sidesK) b = some o := fun h => (upd_ne (ne_of_none h hd1)).trans h
  have a2 : ∀ {b o}, upd H d1 (.dK sidesK) b = some o → upd (upd H d1 (.dK sidesK)) d2 (.dK (numsK pg ps ar)) b = some o := fun h => (upd_ne (ne_of_none h hd2)).trans h
  have a3 : ∀ {b o}, upd (upd H d1 (.dK sidesK)) d2 (.dK (numsK pg ps ar)) b = some o → upd (upd (upd H d1 (.dK sidesK)) d2 (.dK (numsK pg ps ar))) l0 (.lst []) b = some o := fun h => (upd_ne (ne_of_none h hl0)).trans h
  have a4 : ∀ {b o}, upd (upd (upd H d1 (.dK sidesK)) d2 (.dK (numsK pg ps ar))) l0 (.lst []) b = some o → upd (upd (upd (upd H d1 (.dK sidesK)) d2 (.dK (numsK pg ps ar))) l0 (.lst [])) l1 (.lst []) b = some o := fun h => (upd_ne (ne_of_none h hl1)).trans h
  have a5 : ∀ {b o}, upd (upd (upd (upd H d1 (.dK sidesK)) d2 (.dK (numsK pg ps ar))) l0 (.lst [])) l1 (.lst []) b = some o → upd (upd (upd (upd (upd H d1 (.dK sidesK)) d2 (.dK (numsK pg ps ar))) l0 (.lst [])) l1 (.lst [])) l2 (.lst []) b = some o := fun h => (upd_ne (ne_of_none h hl2)).trans h
  have a6 : ∀ {b o}, upd (upd (upd (upd (upd H d1 (.dK sidesK)) d2 (.dK (numsK pg ps ar))) l0 (.lst [])) l1 (.lst [])) l2 (.lst []) b = some o → upd (upd (upd (upd (upd (upd H d1 (.dK sidesK)) d2 (.dK (numsK pg ps ar))) l0 (.lst [])) l1 (.lst [])) l2 (.lst [])) pl (.lst [.ref l0, .ref l1, .ref l2]) b = some o := fun h => (upd_ne (ne_of_none h hpl)).trans h
  have fr : ∀ {b}, (∀ o, H b = some o → False) → H b = none := fun {b} h => by
    cases e : H b with
    | none => rfl
    | some o => exact (h o e).elim
  refine ⟨fun b o h => a6 (a5 (a4 (a3 (a2 (a1 h))))), a6 (a5 (a4 (a3 (a2 upd_same)))), a6 (a5 (a4 (a3 upd_same))), upd_same, ⟨a6 (a5 (a4 upd_same)), a6 (a5 upd_same), a6 upd_same, ne_of_none upd_same hl1, ne_of_none (a4 upd_same) hl2, ne_of_none upd_same hl2⟩,
    fr fun o h => ?_, fr fun o h => ?_, fr fun o h => ?_, fr fun o h => ?_, Ne.symm (ne_of_none (a5 (a4 upd_same)) hpl), Ne.symm (ne_of_none (a5 upd_same) hpl), Ne.symm (ne_of_none upd_same hpl)⟩
  · rw [a2 (a1 h)] at hl0; cases hl0
  · rw [a3 (a2 (a1 h))] at hl1; cases hl1
  · rw [a4 (a3 (a2 (a1 h)))] at hl2; cases hl2
  · rw [a5 (a4 (a3 (a2 (a1 h))))] at hpl; cases hpl
theorem ok_Write (T : Txt K mg A) : Ok P w K mg base (L2.CX P w) 2 A.f_write_text p_write_text (spWrite K A) := by
  obtain ⟨fd, F, B⟩ := T.fn_write_text.ex
  have nd := sc_write_text.nd
  obtain ⟨_, B_digits_of, G_digits_of⟩ := (ok_Digits (P := P) (w := w) (base := base) T).ex
  refine ⟨fd, B, F.okX sc_write_text (fun vs H Q E h => ?_) (fun cdv A' outer s H vs Q E hr h => ?_)⟩
  · obtain ⟨q, b, pg, ps, ar, rfl, _⟩ := h
    rfl
  · have tkE := takes_of (X := cxOf (L2.CX P w) P w K mg base n_write_text "write_text" (defScope s_write_text) A.f_write_text cdv A' outer s H E) rfl rfl rfl rfl
    have pown := passes_of (X := cxOf (L2.CX P w) P w K mg base n_write_text "write_text" (defScope s_write_text) A.f_write_text cdv A' outer s H E) rfl
    have hu := hu_of hr
    refine ⟨_,
      (pss_cons (ps_set (i := 4) nd rfl (Or.inl rfl) (pe_callB call_ord (by rfl) T.bl_ord (by decide +kernel) (pa_cons pe_str pa_nil)))
      (pss_cons (ps_set (i := 5) nd rfl (Or.inl rfl) (pe_disp (pps_cons (pe_callB call_ord (by rfl) T.bl_ord (by decide +kernel) (pa_cons pe_str pa_nil)) pe_int (pps_cons (pe_callB call_ord (by rfl) T.bl_ord (by decide +kernel) (pa_cons pe_str pa_nil)) pe_int (pps_cons (pe_callB call_ord (by rfl) T.bl_ord (by decide +kernel) (pa_cons pe_str pa_nil)) pe_int pps_nil))) (by rfl) (by rfl) (fun z => by cases z) (by decide)))
      (pss_cons (ps_set (i := 6) nd rfl (Or.inl rfl) (pe_disp (pps_cons (pe_callB call_ord (by rfl) T.bl_ord (by decide +kernel) (pa_cons pe_str pa_nil)) (pv 1) (pps_cons (pe_callB call_ord (by rfl) T.bl_ord (by decide +kernel) (pa_cons pe_str pa_nil)) (pv 2) (pps_cons (pe_callB call_ord (by rfl) T.bl_ord (by decide +kernel) (pa_cons pe_str pa_nil)) (pv 3) pps_nil))) (by rfl) (by rfl) (fun z => by cases z) (by decide)))
      (pss_cons (ps_set (i := 7) nd rfl (Or.inl rfl) (pe_lst (pa_cons (pe_lst pa_nil) (pa_cons (pe_lst pa_nil) (pa_cons (pe_lst pa_nil) pa_nil)))))
      (pss_cons (ps_set (i := 8) nd rfl (Or.inl rfl) (pe_ix ix_list (pv 7) pe_int (fun _ _ => rfl)))
      (pss_cons (ps_set (i := 9) nd rfl (Or.inl rfl) pe_bl)
      (pss_cons (ps_for pown rfl (pi_list (pv 0)) (pg_name (i := 10) nd rfl (Or.inl rfl)) (pss_cons (ps_if (PW.pt (pw_and (pt_not (pt_truth (pv 9) (by intro _; rfl))) (pw_and1 (pt_cmpR op_eq (pv 10) (pv 4) (nomark _))))) (pss_cons (ps_set (i := 9) nd rfl (Or.inl rfl) pe_bl)
          (pss_one ps_continue)) pss_nil)
        (pss_cons (ps_if (PW.pt (pw_or (pt_not (pt_truth (pv 9) (by intro _; rfl))) (pw_or1 (pt_cmpR op_eq (pv 10) (pv 4) (nomark _))))) (pss_one (ps_expr (pe_bm PySem.F.plainAttrs_list PySem.F.slot_list_append PySem.F.type_list_append mt_append (pv 8) (pa_cons (pv 10) pa_nil)))) (pss_one (ps_if (pt_cmp (pc_din hu (pv 10) (pv 5))) (pss_one (ps_set (i := 8) nd rfl (Or.inl rfl) (pe_ix ix_list (pv 7) (pe_dget hu (pv 5) (pv 10) (fun _ _ => rfl)) (fun _ _ => rfl)))) (pss_one (ps_if (pt_cmp (pc_din hu (pv 10) (pv 6))) (pss_one (ps_expr (pe_bm PySem.F.plainAttrs_list PySem.F.slot_list_extend PySem.F.type_list_extend mt_extend (pv 8) (pa_cons (pe_call G_digits_of hr rfl T.g_digits_of T.k_digits_of B_digits_of .nil pass0 (pa_cons (pe_dget hu (pv 6) (pv 10) (fun _ _ => rfl)) pa_nil)) pa_nil)))) (pss_one (ps_raise rfl tkE (pmk_own0 PySem.F.excBase_Exception T.x_CannotBeTold T.g_CannotBeTold T.k_CannotBeTold (raises_own T.b_CannotBeTold T.t_CannotBeTold) (by exact rfl)))))))))
        (pss_one (ps_set (i := 9) nd rfl (Or.inl rfl) pe_bl)))))
      (pss_cons (ps_if (pt_truth (pv 9) (by intro _; rfl)) (pss_one (ps_raise rfl tkE (pmk_own0 PySem.F.excBase_Exception T.x_CannotBeTold T.g_CannotBeTold T.k_CannotBeTold (raises_own T.b_CannotBeTold T.t_CannotBeTold) (by exact rfl)))) pss_nil)
      (pss_one (ps_ret (pv 7))))))))))), ?_⟩
    obtain ⟨q, b, pg, ps, ar, rfl, hq, hlen, hpg, hps, har, e1_, k⟩ := h
    refine ⟨_, rfl, rfl, fun d1 hd1 => ?_⟩
    refine ⟨_, rfl, rfl, _, rfl, rfl, _, rfl, rfl, upd_same, [(Sum.inl (((PySem.Str.ofString "L").cps.getD 0 0 : Nat) : Int), .int 0), (Sum.inl (((PySem.Str.ofString "C").cps.getD 0 0 : Nat) : Int), .int 1), (Sum.inl (((PySem.Str.ofString "R").cps.getD 0 0 : Nat) : Int), .int 2)], rfl, by show 3 ≤ 15; decide, fun d2 hd2 => ?_⟩
    refine ⟨_, rfl, rfl, _, rfl, _, rfl, rfl, _, rfl, _, rfl, rfl, _, rfl, upd_same, [(Sum.inl (((PySem.Str.ofString "P").cps.getD 0 0 : Nat) : Int), .int pg), (Sum.inl (((PySem.Str.ofString "N").cps.getD 0 0 : Nat) : Int), .int ps), (Sum.inl (((PySem.Str.ofString "A").cps.getD 0 0 : Nat) : Int), .int ar)], rfl, by show 3 ≤ 15; decide, ?_⟩
    refine ⟨by show 0 ≤ sizeLine; decide, fun l0 hl0 => ⟨by show 0 ≤ sizeLine; decide, fun l1 hl1 => ⟨by show 0 ≤ sizeLine; decide, fun l2 hl2 => ⟨by show 3 ≤ sizeLine; decide, fun pl hpl => ?_⟩⟩⟩⟩
    have W0 := wr_start (pg := pg) (ps := ps) (ar := ar) (by rw [ordL, ordC, ordR]; exact merge3 (by decide) (by decide) (by decide)) (by rw [ordP, ordN, ordA]; exact merge3 (by decide) (by decide) (by decide)) hd1 hd2 hl0 hl1 hl2 hpl
    refine ⟨_, rfl, pl, _, 1, .ref l1, rfl, rfl, SqL.of upd_same, rfl, ?_⟩
    refine ⟨_, rfl, q, rfl, ⟨_, Same.seq W0.same hq⟩, ?_⟩
    refine for_list (xs := bv b) (fun i σ H' => ∃ (at_ : Nat) (x : Si32.Parts) (beh : Bool) (y : Option V), σ = [some (.ref q), some (.int pg), some (.int ps), some (.int ar), some (.int (38 : Nat)), some (.ref d1), some (.ref d2), some (.ref pl), some (.ref (lsel l0 l1 l2 at_)), some (.bl beh), y] ∧ at_ ≤ 2 ∧
      Wr H H' d1 d2 pl l0 l1 l2 pg ps ar x ∧ Si32.partsFrom pg ps ar at_ x (if beh = true then 38 :: b.drop i else b.drop i) = Si32.parts pg ps ar b ∧ ∀ a, (psel x a).length ≤ 11 * i) ?_ ?_ ?_ ?_
    · refine ⟨1, ⟨[], [], []⟩, false, none, by rw [ordAmp]; rfl, by decide, W0, rfl, fun a => ?_⟩
      unfold psel
      split
      · exact Nat.le_refl _
      · split <;> exact Nat.le_refl _
    · rintro i σ H' _ ⟨at_, x, beh, y, _, _, h, _⟩
      exact Same.seq h.same hq
    · rintro i v σ H' hv ⟨at_, x, beh, y, rfl, ha, h, hp, hln⟩
      obtain ⟨c, hc, rfl⟩ := map_get (l := b) (i := i) (x := v) (by rw [bv_get] at hv; rw [List.getElem?_map]; exact hv)
      have hi : i < b.length := (List.getElem?_eq_some_iff.mp hc).1
      have hd : b.drop i = c :: b.drop (i + 1) := by
        rw [List.drop_eq_getElem_cons hi, (List.getElem?_eq_some_iff.mp hc).2]
      rw [hd] at hp
      have hlx : ∀ (z : Si32.Parts) (l : List Nat), l.length ≤ 11 → ∀ a, (psel (x.add at_ l) a).length ≤ 11 * (i + 1) := fun z l hl a => by
        have := psel_add x at_ a l
        have := hln a
        omega
      have hs0 : ∀ a, (psel x a).length ≤ 11 * (i + 1) := fun a => by have := hln a; omega
      refine ⟨_, rfl, beh, rfl, ?_⟩
      cases beh with
      | false =>
        rw [if_neg Bool.false_ne_true] at hp
        refine iteT ⟨_, rfl, _, rfl, rfl, _, rfl, ?_⟩
        by_cases h38 : c = 38
        · subst h38
          refine if_true_of (decide_eq_true rfl) ?_
          exact ⟨at_, x, true, _, rfl, ha, h, hp, hs0⟩
        · refine if_false_of (decide_eq_false (fun z => h38 (by have := V.int.inj z; omega))) ?_
          refine ⟨_, rfl, false, rfl, iteT ?_⟩
          rw [parts_plain _ _ _ _ _ _ _ h38] at hp
          refine ⟨_, rfl, .inl ⟨rfl, _, SqL.of (h.tx.get at_)⟩, _, rfl, _, _, _, rfl, rfl, h.tx.get at_, by rw [bv_len, sizeLine_eq]; have := hln at_; omega, ?_⟩
          rw [bv_snoc]
          exact ⟨at_, _, false, _, rfl, ha, h.add at_ [c], hp, hlx x [c] (by show 1 ≤ 11; decide)⟩
      | true =>
        rw [if_pos rfl] at hp
        refine iteF ?_
        refine ⟨_, rfl, true, rfl, iteF ⟨_, rfl, _, rfl, rfl, _, rfl, ?_⟩⟩
        by_cases h38 : c = 38
        · subst h38
          refine if_true_of (decide_eq_true rfl) ?_
          rw [parts_and] at hp
          refine ⟨_, rfl, .inl ⟨rfl, _, SqL.of (h.tx.get at_)⟩, _, rfl, _, _, _, rfl, rfl, h.tx.get at_, by rw [bv_len, sizeLine_eq]; have := hln at_; omega, ?_⟩
          rw [bv_snoc]
          exact ⟨at_, _, false, _, rfl, ha, h.add at_ [38], hp, hlx x [38] (by decide)⟩
        · refine if_false_of (decide_eq_false (fun z => h38 (by have := V.int.inj z; omega))) ?_
          refine ⟨_, rfl, _, rfl, d1, _, rfl, DGet.k (k := Sum.inl (c : Int)) h.hd1, _, rfl, ?_⟩
          have hside : (∃ n : Nat, n ≤ 2 ∧ valV sidesK (Sum.inl (c : Int)) = some (.int (n : Int)) ∧ Si32.partsFrom pg ps ar n x (b.drop (i + 1)) = Si32.parts pg ps ar b) ∨ (valV sidesK (Sum.inl (c : Int)) = none ∧ c ≠ 76 ∧ c ≠ 67 ∧ c ≠ 82) := by
            by_cases e1 : c = 76
            · subst e1; rw [parts_L] at hp; exact .inl ⟨0, by decide, rfl, hp⟩
            by_cases e2 : c = 67
            · subst e2; rw [parts_C] at hp; exact .inl ⟨1, by decide, rfl, hp⟩
            by_cases e3 : c = 82
            · subst e3; rw [parts_R] at hp; exact .inl ⟨2, by decide, rfl, hp⟩
            exact .inr ⟨valV3.trans (by rw [if_neg e1, if_neg e2, if_neg e3]), e1, e2, e3⟩
          rcases hside with ⟨n, hn, hv', hp2⟩ | ⟨hv', e1, e2, e3⟩
          · refine if_true_of (by rw [hv']; rfl) ?_
            refine ⟨_, rfl, _, rfl, _, rfl, d1, .int (n : Int), rfl, by rw [← hv']; exact DGet.k (k := Sum.inl (c : Int)) h.hd1, pl, _, n, .ref (lsel l0 l1 l2 n), rfl, rfl, SqL.of h.hpl, ?_, n, x, false, _, rfl, hn, h, hp2, hs0⟩
            have : n = 0 ∨ n = 1 ∨ n = 2 := by omega
            rcases this with rfl | rfl | rfl <;> rfl
          · refine if_false_of (by rw [hv']; rfl) ?_
            have hnum : (∃ z : Int, z.natAbs < 10 ^ 10 ∧ valV (numsK pg ps ar) (Sum.inl (c : Int)) = some (.int z) ∧ Si32.partsFrom pg ps ar at_ (x.add at_ (Si32.int z)) (b.drop (i + 1)) = Si32.parts pg ps ar b) ∨ (valV (numsK pg ps ar) (Sum.inl (c : Int)) = none ∧ Si32.parts pg ps ar b = none) := by
              by_cases e4 : c = 80
              · subst e4; rw [parts_P] at hp; exact .inl ⟨pg, hpg, rfl, hp⟩
              by_cases e5 : c = 78
              · subst e5; rw [parts_N, ← int_nat] at hp; exact .inl ⟨ps, by omega, rfl, hp⟩
              by_cases e6 : c = 65
              · subst e6; rw [parts_A, ← int_nat] at hp; exact .inl ⟨ar, by omega, rfl, hp⟩
              rw [parts_bad _ _ _ _ _ _ _ e1 e2 e3 e4 e5 e6 h38] at hp
              exact .inr ⟨valV3.trans (by rw [if_neg e4, if_neg e5, if_neg e6]), hp.symm⟩
            refine ⟨_, rfl, _, rfl, d2, _, rfl, DGet.k (k := Sum.inl (c : Int)) h.hd2, _, rfl, ?_⟩
            rcases hnum with ⟨z, hz, hv2, hp2⟩ | ⟨hv2, hp2⟩
            · refine if_true_of (by rw [hv2]; rfl) ?_
              refine ⟨_, rfl, .inl ⟨rfl, _, SqL.of (h.tx.get at_)⟩, _, rfl, _, rfl, d2, .int z, rfl, by rw [← hv2]; exact DGet.k (k := Sum.inl (c : Int)) h.hd2, z, rfl, hz, fun H2 r s2 hr2 hrl => ?_⟩
              have h2 := h.keep s2
              have hl := int_len hz
              refine ⟨_, r, _, _, rfl, rfl, h2.tx.get at_, hrl, by rw [bv_len, bv_len, sizeLine_eq]; have := hln at_; omega, ?_⟩
              rw [← bv_app]
              exact ⟨at_, _, false, _, rfl, ha, h2.add at_ _, hp2, hlx x _ (by omega)⟩
            · refine if_false_of (by rw [hv2]; rfl) ?_
              exact e1_ hp2 H' h.same
    · rintro σ H' ⟨at_, x, beh, y, rfl, ha, h, hp, hln⟩
      rw [bv_len, List.drop_length] at hp
      refine ⟨_, rfl, beh, rfl, ?_⟩
      cases beh with
      | true =>
        rw [if_pos rfl, parts_amp] at hp
        exact iteT (e1_ hp.symm H' h.same)
      | false =>
        rw [if_neg Bool.false_ne_true, parts_nil] at hp
        refine iteF ⟨_, rfl, k x hp.symm H' pl l0 l1 l2 h.same h.hpl h.tx h.fp h.f0 h.f1 h.f2 fun a => ?_⟩
        have := hln a
        rw [bv_len] at this
        exact this
end
end Sh
namespace Sh
open PySem PySem.Spec PyProof.Rows L2
open PySem.W (Codec)
section
variable {P : Program} {w : World} {K : PySem.W.Frag} {mg : Str → Option Value} {base : Heap} {A : Ad}
/-! ### check_text -/
def spCheckText (K : PySem.W.Frag) (A : Ad) : Sp := fun vs H Q E => ∃ (q : Addr) (b : List Nat), vs = [.ref q] ∧ SqL K H q (bv b) ∧ b.length ≤ 1000 ∧
  (Si32.goodText b = false → ∀ H', Same H H' → E (.ref A.X_CannotBeTold) none H') ∧ (Si32.goodText b = true → ∀ H', Same H H' → Q .non H')
theorem ok_CheckText (T : Txt K mg A) : Ok P w K mg base (L2.CX P w) 3 A.f_check_text p_check_text (spCheckText K A) := by
  obtain ⟨fd, F, B⟩ := T.fn_check_text.ex
  have nd := sc_check_text.nd
  obtain ⟨_, B_write_text, G_write_text⟩ := (ok_Write (P := P) (w := w) (base := base) T).ex
  obtain ⟨t1, h_LONGEST_TEXT⟩ := T.i_LONGEST_TEXT
  refine ⟨fd, B, F.okX sc_check_text (fun vs H Q E h => ?_) (fun cdv A' outer s H vs Q E hr h => ?_)⟩
  · obtain ⟨q, b, rfl, _⟩ := h
    rfl
  · have tkE := takes_of (X := cxOf (L2.CX P w) P w K mg base n_check_text "check_text" (defScope s_check_text) A.f_check_text cdv A' outer s H E) rfl rfl rfl rfl
    have pX := passes_call tkE (E := E) (fun _ _ _ _ h => h)
    refine ⟨_,
      (pss_cons (ps_if (pt_cmpR op_gt (pe_callB call_len_seq (by rfl) T.bl_len PySem.boot_len (pa_cons (pv 0) pa_nil)) (pe_glob (v := .int 255) rfl h_LONGEST_TEXT ⟨_, rfl⟩) (nomark _)) (pss_one (ps_raise rfl tkE (pmk_own0 PySem.F.excBase_Exception T.x_CannotBeTold T.g_CannotBeTold T.k_CannotBeTold (raises_own T.b_CannotBeTold T.t_CannotBeTold) (by exact rfl)))) pss_nil)
      (pss_one (ps_expr (pe_call G_write_text hr rfl T.g_write_text T.k_write_text B_write_text .nil pX (pa_cons (pv 0) (pa_cons pe_int (pa_cons pe_int (pa_cons pe_int pa_nil)))))))), ?_⟩
    obtain ⟨q, b, rfl, hq, hlen, e1, k⟩ := h
    have hg := goodText_eq b 0 0 0
    refine ⟨_, rfl, q, _, rfl, .inl hq, _, _, rfl, rfl, _, rfl, ite2 (fun c => e1 ?_ H (Same.refl H)) (fun c => ?_)⟩
    · rw [bv_len] at c
      simp only [decide_eq_true_eq] at c
      rw [hg, decide_eq_false (by omega)]
      rfl
    · rw [bv_len] at c
      simp only [decide_eq_true_eq] at c
      rw [decide_eq_true (show b.length ≤ 255 by omega), Bool.true_and] at hg
      refine ⟨_, rfl, q, b, 0, 0, 0, rfl, hq, hlen, by decide, by decide, by decide, fun h H' s1 => e1 (by rw [hg, h]; rfl) H' s1, fun x h H' pl l0 l1 l2 s1 _ _ _ _ _ _ _ => k (by rw [hg, h]; rfl) H' s1⟩
end
end Sh

namespace Sh
open PySem PySem.Spec PyProof.Rows L2
open PySem.W (Codec)
/-- a def that may raise, called where it doesn't -/
theorem passF {P : Program} {w : World} {X : Cx} : Passes (L2.CX P w) X E0 := fun _ _ _ _ _ _ _ ⟨_, _, _, _, _, _, _, _, _, _, _, _, h⟩ => h.elim
/-! ### the settings in the heap -/
structure Ads where
  S : Addr
  wt : Addr
  W0 : Addr
  W1 : Addr
  L0 : Addr
  L1 : Addr
  b0 : Addr
  b1 : Addr
  al : Addr
  hd : Addr
  ft : Addr
  dx : Addr
/-- what is changed in its place -/
def Ads.M (q : Ads) (b : Addr) : Prop := b = q.S ∨ b = q.W0 ∨ b = q.W1 ∨ b = q.L0 ∨ b = q.L1
def ScaleAt (H : Hp) (sv fv : V) : Si32.Scale → Prop
  | .told p => sv = .int (p : Nat) ∧ fv = .non
  | .fit a b => ∃ t, fv = .ref t ∧ H t = some (.tup [.int (a : Nat), .int (b : Nat)])
theorem ScaleAt.keep {H H' : Hp} {sv fv : V} {c : Si32.Scale} (h : ScaleAt H sv fv c) (k : ∀ t xs, H t = some (.tup xs) → H' t = some (.tup xs)) : ScaleAt H' sv fv c := by
  cases c with
  | told p => exact h
  | fit a b =>
    obtain ⟨t, e, h⟩ := h
    exact ⟨t, e, k _ _ h⟩
structure SetA (K : PySem.W.Frag) (A : Ad) (H : Hp) (q : Ads) (s : Si32.St) : Prop where
  hS : ∃ sv fv, H q.S = some (.ins A.C_SheetSettings q.dx (F_SheetSettings (.ref q.wt) (.ref q.al) sv fv (.bl s.over) (.int s.first) (.ref q.hd) (.ref q.ft))) ∧ ScaleAt H sv fv s.scale
  hw : H q.wt = some (.tup [.ref q.W0, .ref q.W1])
  a0 : WayAt K A.C_WaySettings H q.W0 q.L0 q.b0 s.rows (s.paper.top : Nat) (s.tall : Nat) s.down
  a1 : WayAt K A.C_WaySettings H q.W1 q.L1 q.b1 s.cols (s.paper.left : Nat) (s.wide : Nat) s.across
  ar : AreasAt H q.al s.areas
  hh : H q.hd = some (.lst (bv s.head))
  hf : H q.ft = some (.lst (bv s.foot))
  n01 : q.W0 ≠ q.W1
  n0 : q.W0 ≠ q.S
  n1 : q.W1 ≠ q.S
  nL : q.L0 ≠ q.L1
  ma : ¬ q.M q.al
  mh : ¬ q.M q.hd
  mf : ¬ q.M q.ft
theorem SetA.keep {K : PySem.W.Frag} {A : Ad} {H H' : Hp} {q : Ads} {s : Si32.St} (h : SetA K A H q s) (k : ∀ b o, H b = some o → H' b = some o) : SetA K A H' q s := by
  obtain ⟨sv, fv, h1, h2⟩ := h.hS
  exact ⟨⟨sv, fv, k _ _ h1, h2.keep fun t xs z => k _ _ z⟩, k _ _ h.hw, h.a0.keep fun b o z _ => k b o z, h.a1.keep fun b o z _ => k b o z, h.ar.keep fun b o z _ => k b o z, k _ _ h.hh, k _ _ h.hf, h.n01, h.n0, h.n1, h.nL, h.ma, h.mh, h.mf⟩
/-- something else in the heap is changed, no tuple, none of what the settings hold -/
theorem SetA.other {K : PySem.W.Frag} {A : Ad} {H H' : Hp} {q : Ads} {s : Si32.St} (h : SetA K A H q s) (k : ∀ b o, H b = some o → (q.M b ∨ b = q.al ∨ b = q.hd ∨ b = q.ft ∨ (∃ xs, o = .tup xs) ∨ (∃ kvs, o = .dK kvs)) → H' b = some o) : SetA K A H' q s := by
  obtain ⟨sv, fv, h1, h2⟩ := h.hS
  have kt : ∀ t xs, H t = some (.tup xs) → H' t = some (.tup xs) := fun t xs z => k _ _ z (.inr (.inr (.inr (.inr (.inl ⟨_, rfl⟩)))))
  have kw : ∀ {a L bd : Addr} {w : Si32.Way} {e z : Int} {md : Bool}, WayAt K A.C_WaySettings H a L bd w e z md → q.M a → q.M L → WayAt K A.C_WaySettings H' a L bd w e z md := fun {a L bd w e z md} hw ma mL => by
    have hb : ∃ kvs, H bd = some (.dK kvs) := by obtain ⟨_, _, kvs, z, _⟩ := hw; exact ⟨_, z⟩
    obtain ⟨kvs, hb⟩ := hb
    refine hw.keep fun b o zz c => ?_
    rcases c with rfl | rfl | rfl | ⟨xs, rfl⟩
    · exact k _ _ zz (.inl ma)
    · exact k _ _ zz (.inl mL)
    · rw [hb] at zz
      have e := Option.some.inj zz
      exact k _ _ (by rw [hb]; exact congrArg some e) (.inr (.inr (.inr (.inr (.inr ⟨kvs, e.symm⟩)))))
    · exact kt _ _ zz
  refine ⟨⟨sv, fv, k _ _ h1 (.inl (.inl rfl)), h2.keep kt⟩, kt _ _ h.hw, kw h.a0 (.inr (.inl rfl)) (.inr (.inr (.inr (.inl rfl)))), kw h.a1 (.inr (.inr (.inl rfl))) (.inr (.inr (.inr (.inr rfl)))), h.ar.keep fun b o z c => ?_, k _ _ h.hh (.inr (.inr (.inl rfl))), k _ _ h.hf (.inr (.inr (.inr (.inl rfl)))), h.n01, h.n0, h.n1, h.nL, h.ma, h.mh, h.mf⟩
  rcases c with rfl | ⟨xs, rfl⟩
  · exact k _ _ z (.inr (.inl rfl))
  · exact kt _ _ z
theorem fresh_of_same {H H' : Hp} (s : Same H H') {b : Addr} (h : H' b = none) : H b = none := s.free h
section
variable {P : Program} {w : World} {K : PySem.W.Frag} {mg : Str → Option Value} {base : Heap} {A : Ad}
/-! ### SheetSettings.set_heads -/
def spHeads (K : PySem.W.Frag) (A : Ad) : Sp := fun vs H Q E => ∃ (S dx h f : Addr) (v0 v1 v2 v3 v4 v5 v6 v7 : V) (hb fb : List Nat), vs = [.ref S, .ref h, .ref f] ∧ H S = some (.ins A.C_SheetSettings dx (F_SheetSettings v0 v1 v2 v3 v4 v5 v6 v7)) ∧ H h = some (.lst (bv hb)) ∧ H f = some (.lst (bv fb)) ∧ hb.length ≤ 1000 ∧ fb.length ≤ 1000 ∧
  ((Si32.goodText hb && Si32.goodText fb) = false → ∀ H', Same H H' → E (.ref A.X_CannotBeTold) none H') ∧
  ((Si32.goodText hb && Si32.goodText fb) = true → ∀ H', Same H H' → Q .non (upd H' S (.ins A.C_SheetSettings dx (F_SheetSettings v0 v1 v2 v3 v4 v5 (.ref h) (.ref f)))))
theorem ok_Heads (T : Txt K mg A) : Ok P w K mg base (L2.CX P w) 4 A.f_SheetSettings_set_heads p_SheetSettings_set_heads (spHeads K A) := by
  obtain ⟨fd, F, B⟩ := T.fn_SheetSettings_set_heads.ex
  have nd := sc_SheetSettings_set_heads.nd
  obtain ⟨_, B_check_text, G_check_text⟩ := (ok_CheckText (P := P) (w := w) (base := base) T).ex
  refine ⟨fd, B, F.okX sc_SheetSettings_set_heads (fun vs H Q E h => ?_) (fun cdv A' outer s H vs Q E hr h => ?_)⟩
  · obtain ⟨S, dx, h, f, v0, v1, v2, v3, v4, v5, v6, v7, hb, fb, rfl, _⟩ := h
    rfl
  · have tkE := takes_of (X := cxOf (L2.CX P w) P w K mg base n_SheetSettings_set_heads "SheetSettings.set_heads" (defScope s_SheetSettings_set_heads) A.f_SheetSettings_set_heads cdv A' outer s H E) rfl rfl rfl rfl
    have pX := passes_call tkE (E := E) (fun _ _ _ _ h => h)
    refine ⟨_,
      (pss_cons (ps_expr (pe_call G_check_text hr rfl T.g_check_text T.k_check_text B_check_text .nil pX (pa_cons (pv 1) pa_nil)))
      (pss_cons (ps_expr (pe_call G_check_text hr rfl T.g_check_text T.k_check_text B_check_text .nil pX (pa_cons (pv 2) pa_nil)))
      (pss_cons (ps_fld (pv 0) (pv 1) rfl)
      (pss_one (ps_fld (pv 0) (pv 2) rfl))))), ?_⟩
    obtain ⟨S, dx, h, f, v0, v1, v2, v3, v4, v5, v6, v7, hb, fb, rfl, hS, hh, hf, l1, l2, e1, k⟩ := h
    refine ⟨_, rfl, h, hb, rfl, SqL.of hh, l1, fun g H1 s1 => e1 (by rw [g]; rfl) H1 s1, fun g H1 s1 => ?_⟩
    rw [g, Bool.true_and] at e1 k
    refine ⟨_, rfl, f, fb, rfl, SqL.of (s1 _ _ hf), l2, fun g2 H2 s2 => e1 g2 H2 (s1.trans s2), fun g2 H2 s2 => ?_⟩
    refine ⟨_, rfl, _, rfl, S, _, dx, _, rfl, s2 _ _ (s1 _ _ hS), T.c_SheetSettings, T.na_SheetSettings_head, of_decide_eq_true rfl, ?_⟩
    rw [put_SheetSettings_head]
    refine ⟨_, rfl, _, rfl, S, _, dx, _, rfl, upd_same, T.c_SheetSettings, T.na_SheetSettings_foot, of_decide_eq_true rfl, ?_⟩
    rw [put_SheetSettings_foot, upd_upd]
    exact k g2 H2 (s1.trans s2)
/-! ### SheetSettings.begin, __init__ -/
def BeginF (fs : List (Str × V)) : Prop := fs = [] ∨ ∃ v0 v1 v2 v3 v4 v5 v6 v7, fs = F_SheetSettings v0 v1 v2 v3 v4 v5 v6 v7
theorem BeginF.facts {fs : List (Str × V)} (h : BeginF fs) : fs.length ≤ 8 ∧ (∀ v, (putF "ways" v fs).lookup ("set_paper" : Str) = none) ∧ fs.lookup ("begin" : Str) = none ∧
    ∀ v0 v1 v2 v3 v4 v5 v6 v7, putF "foot" v7 (putF "head" v6 (putF "first_number" v5 (putF "beside_first" v4 (putF "fit" v3 (putF "scale" v2 (putF "areas" v1 (putF "ways" v0 fs))))))) = F_SheetSettings v0 v1 v2 v3 v4 v5 v6 v7 := by
  rcases h with rfl | ⟨u0, u1, u2, u3, u4, u5, u6, u7, rfl⟩
  · refine ⟨by decide, fun v => ?_, rfl, fun v0 v1 v2 v3 v4 v5 v6 v7 => ?_⟩
    · show (putF "ways" v []).lookup _ = none
      rw [lookup_putF, if_neg (by decide +kernel)]
      rfl
    · rw [nw_SheetSettings_0, nw_SheetSettings_1, nw_SheetSettings_2, nw_SheetSettings_3, nw_SheetSettings_4, nw_SheetSettings_5, nw_SheetSettings_6, nw_SheetSettings_7]
      rfl
  · refine ⟨Nat.le_refl 8, fun v => ?_, nm_SheetSettings_begin, fun v0 v1 v2 v3 v4 v5 v6 v7 => ?_⟩
    · rw [put_SheetSettings_ways]
      exact nm_SheetSettings_set_paper
    · rw [put_SheetSettings_ways, put_SheetSettings_areas, put_SheetSettings_scale, put_SheetSettings_fit, put_SheetSettings_beside_first, put_SheetSettings_first_number, put_SheetSettings_head, put_SheetSettings_foot]
def spBegin (K : PySem.W.Frag) (A : Ad) : Sp := fun vs H Q _ => ∃ (S dx : Addr) (fs : List (Str × V)), vs = [.ref S] ∧ H S = some (.ins A.C_SheetSettings dx fs) ∧ BeginF fs ∧
  ∀ (H' : Hp) (q : Ads), SetA K A H' q Si32.init → q.S = S → (∀ b, q.M b → b = S ∨ H b = none) → H q.al = none → H q.hd = none → H q.ft = none → (∀ b o, H b = some o → b ≠ S → H' b = some o) → Q .non H'
theorem ok_Begin (T : Txt K mg A) : Ok P w K mg base CX0 3 A.f_SheetSettings_begin p_SheetSettings_begin (spBegin K A) := by
  obtain ⟨fd, F, B⟩ := T.fn_SheetSettings_begin.ex
  have nd := sc_SheetSettings_begin.nd
  obtain ⟨_, B_WaySettings__init_, G_WaySettings__init_⟩ := (ok_WayInit (P := P) (w := w) (base := base) T).ex
  obtain ⟨_, B_SheetSettings_set_paper, G_SheetSettings_set_paper⟩ := (ok_Paper (P := P) (w := w) (base := base) T).ex
  refine ⟨fd, B, F.ok sc_SheetSettings_begin (fun vs H Q E h => ?_) (fun cdv A' outer s H vs Q E hr h => ⟨_,
      (pss_cons (ps_fld (pv 0) (pe_tup (pa_cons (pe_make T.mk_WaySettings G_WaySettings__init_ hr rfl T.g_WaySettings B_WaySettings__init_ .nil pass0 (pa_cons pe_int (pa_cons pe_int pa_nil))) (pa_cons (pe_make T.mk_WaySettings G_WaySettings__init_ hr rfl T.g_WaySettings B_WaySettings__init_ .nil pass0 (pa_cons pe_int (pa_cons pe_int pa_nil))) pa_nil))) rfl)
      (pss_cons (ps_expr (pe_meth (pv 0) T.c_SheetSettings T.m_SheetSettings_set_paper G_SheetSettings_set_paper hr B_SheetSettings_set_paper .nil passF (pa_cons pe_int (pa_cons pe_int (pa_cons pe_int (pa_cons pe_int (pa_cons pe_int (pa_cons pe_int pa_nil))))))))
      (pss_cons (ps_fld (pv 0) (pe_lst pa_nil) rfl)
      (pss_cons (ps_fld (pv 0) pe_int rfl)
      (pss_cons (ps_fld (pv 0) pe_non rfl)
      (pss_cons (ps_fld (pv 0) pe_bl rfl)
      (pss_cons (ps_fld (pv 0) pe_int rfl)
      (pss_cons (ps_fld (pv 0) (pe_lst pa_nil) rfl)
      (pss_one (ps_fld (pv 0) (pe_lst pa_nil) rfl)))))))))), ?_⟩)⟩
  · obtain ⟨S, dx, fs, rfl, _⟩ := h
    rfl
  · obtain ⟨S, dx, fs, rfl, hS, hfs, k⟩ := h
    obtain ⟨f1, f2, _, f4⟩ := hfs.facts
    refine fun W0 dw0 g1 g2 g3 => ⟨W0, dw0, 4096, 20, rfl, upd_same, by decide, fun H1 L0 b0 A0 u1 u2 k1 => ⟨rfl, fun W1 dw1 g4 g5 g6 => ⟨W1, dw1, 256, 64, rfl, upd_same, by decide, fun H2 L1 b1 A1 u3 u4 k2 => ⟨rfl, by show 2 ≤ sizeLine; decide, fun wt hwt => ?_⟩⟩⟩⟩
    -- what stood in the heap
    have a1 : ∀ b o, H b = some o → H1 b = some o := fun b o hb => k1 b o (by rw [upd_ne (ne_of_none hb g1), upd_ne (ne_of_none hb g2)]; exact hb) (ne_of_none hb g1)
    have a2 : ∀ b o, H1 b = some o → H2 b = some o := fun b o hb => k2 b o (by rw [upd_ne (ne_of_none hb g4), upd_ne (ne_of_none hb g5)]; exact hb) (ne_of_none hb g4)
    have fr : ∀ {b}, H1 b = none → H b = none := fun {b} h => by
      cases e : H b with
      | none => rfl
      | some o => rw [a1 b o e] at h; cases h
    have fr2 : ∀ {b}, H2 b = none → H1 b = none := fun {b} h => by
      cases e : H1 b with
      | none => rfl
      | some o => rw [a2 b o e] at h; cases h
    have mine : ∀ {G : Hp} {x d b : Addr} {C : Addr}, (∀ b o, G b = some o → b ≠ x ∧ b ≠ d) → upd (upd G d (.own x)) x (.ins C d []) b = none → G b = none := fun {G x d b C} _ h => by
      by_cases e1 : b = x
      · subst e1; rw [upd_same] at h; cases h
      · rw [upd_ne e1] at h
        by_cases e2 : b = d
        · subst e2; rw [upd_same] at h; cases h
        · rw [upd_ne e2] at h; exact h
    have u1' : H L0 = none := mine (fun b o hb => ⟨ne_of_none hb g1, ne_of_none hb g2⟩) u1
    have u3' : H1 L1 = none := mine (fun b o hb => ⟨ne_of_none hb g4, ne_of_none hb g5⟩) u3
    obtain ⟨⟨d0, t0, z0, _⟩, zL0, kv0, zb0, _⟩ := id A0
    obtain ⟨⟨d1, t1, z1, _⟩, zL1, kv1, zb1, _⟩ := id A1
    have n01 : W0 ≠ W1 := ne_of_none z0 g4
    have S0 : S ≠ W0 := ne_of_none hS g1
    have S1 : S ≠ W1 := ne_of_none (a1 _ _ hS) g4
    have nL : L0 ≠ L1 := ne_of_none zL0 u3'
    have hS2 : H2 S = _ := a2 _ _ (a1 _ _ hS)
    have Swt : S ≠ wt := ne_of_none hS2 hwt
    refine ⟨_, rfl, S, _, dx, _, rfl, (upd_ne Swt).trans hS2, T.c_SheetSettings, T.na_SheetSettings_ways, by omega, ?_⟩
    have a3 : ∀ b o, H2 b = some o → b ≠ S → upd (upd H2 wt (.tup [.ref W0, .ref W1])) S (.ins A.C_SheetSettings dx (putF "ways" (.ref wt) fs)) b = some o := fun b o hb hn => by
      rw [upd_ne hn, upd_ne (ne_of_none hb hwt)]; exact hb
    have A0' := (A0.keep (H' := H2) fun b o hb _ => a2 b o hb).keep (H' := upd (upd H2 wt (.tup [.ref W0, .ref W1])) S (.ins A.C_SheetSettings dx (putF "ways" (.ref wt) fs))) fun b o hb c => a3 b o hb (by
      rcases c with rfl | rfl | rfl | ⟨xs, rfl⟩
      · exact Ne.symm S0
      · exact ne_of (a2 _ _ zL0) hS2 (by intro z; cases z)
      · exact ne_of (a2 _ _ zb0) hS2 (by intro z; cases z)
      · exact ne_of hb hS2 (by intro z; cases z))
    have A1' := A1.keep (H' := upd (upd H2 wt (.tup [.ref W0, .ref W1])) S (.ins A.C_SheetSettings dx (putF "ways" (.ref wt) fs))) fun b o hb c => a3 b o hb (by
      rcases c with rfl | rfl | rfl | ⟨xs, rfl⟩
      · exact Ne.symm S1
      · exact ne_of zL1 hS2 (by intro z; cases z)
      · exact ne_of zb1 hS2 (by intro z; cases z)
      · exact ne_of hb hS2 (by intro z; cases z))
    refine ⟨_, rfl, S, dx, _, rfl, upd_same, f2 _, S, dx, wt, W0, W1, L0, L1, b0, b1, _, _, _, 0, 0, 0, 0, false, false, ⟨595, 842, 50, 50, 50, 50⟩, rfl, upd_same, by rw [lookup_putF, if_pos rfl], (upd_ne (Ne.symm Swt)).trans upd_same, A0', A1', n01, Ne.symm S0, Ne.symm S1, fun z => absurd z (by decide), fun _ H4 B0 B1 k4 => ?_⟩
    have hS4 : H4 S = some (.ins A.C_SheetSettings dx (putF "ways" (.ref wt) fs)) := k4 _ _ upd_same S0 S1
    have hwt4 : H4 wt = some (.tup [.ref W0, .ref W1]) := k4 wt _ ((upd_ne (Ne.symm Swt)).trans upd_same) (Ne.symm (ne_of_none (a2 _ _ z0) hwt)) (Ne.symm (ne_of_none z1 hwt))
    have all4 : ∀ b o, H b = some o → b ≠ S → H4 b = some o := fun b o hb hn => k4 b o (a3 b o (a2 _ _ (a1 _ _ hb)) hn) (ne_of_none hb g1) (ne_of_none (a1 _ _ hb) g4)
    have l1 := length_putF "ways" (.ref wt) fs
    refine ⟨by show 0 ≤ sizeLine; decide, fun al hal => ?_⟩
    have Sal : S ≠ al := ne_of_none hS4 hal
    refine ⟨_, rfl, S, _, dx, _, rfl, (upd_ne Sal).trans hS4, T.c_SheetSettings, T.na_SheetSettings_areas, by omega, ?_⟩
    have l2 := length_putF "areas" (.ref al) (putF "ways" (.ref wt) fs)
    refine ⟨_, rfl, S, _, dx, _, rfl, upd_same, T.c_SheetSettings, T.na_SheetSettings_scale, by omega, ?_⟩
    have l3 := length_putF "scale" (.int 100) (putF "areas" (.ref al) (putF "ways" (.ref wt) fs))
    refine ⟨_, rfl, S, _, dx, _, rfl, upd_same, T.c_SheetSettings, T.na_SheetSettings_fit, by omega, ?_⟩
    have l4 := length_putF "fit" .non (putF "scale" (.int 100) (putF "areas" (.ref al) (putF "ways" (.ref wt) fs)))
    refine ⟨_, rfl, S, _, dx, _, rfl, upd_same, T.c_SheetSettings, T.na_SheetSettings_beside_first, by omega, ?_⟩
    have l5 := length_putF "beside_first" (.bl false) (putF "fit" .non (putF "scale" (.int 100) (putF "areas" (.ref al) (putF "ways" (.ref wt) fs))))
    refine ⟨_, rfl, S, _, dx, _, rfl, upd_same, T.c_SheetSettings, T.na_SheetSettings_first_number, by omega, ?_⟩
    have l6 := length_putF "first_number" (.int 1) (putF "beside_first" (.bl false) (putF "fit" .non (putF "scale" (.int 100) (putF "areas" (.ref al) (putF "ways" (.ref wt) fs)))))
    refine ⟨by show 0 ≤ sizeLine; decide, fun hd hhd => ?_⟩
    have Shd : S ≠ hd := ne_of_none upd_same hhd
    refine ⟨_, rfl, S, _, dx, _, rfl, (upd_ne Shd).trans upd_same, T.c_SheetSettings, T.na_SheetSettings_head, by omega, ?_⟩
    have l7 := length_putF "head" (.ref hd) (putF "first_number" (.int 1) (putF "beside_first" (.bl false) (putF "fit" .non (putF "scale" (.int 100) (putF "areas" (.ref al) (putF "ways" (.ref wt) fs))))))
    refine ⟨by show 0 ≤ sizeLine; decide, fun ft hft => ?_⟩
    have Sft : S ≠ ft := ne_of_none upd_same hft
    refine ⟨_, rfl, S, _, dx, _, rfl, (upd_ne Sft).trans upd_same, T.c_SheetSettings, T.na_SheetSettings_foot, by omega, ?_⟩
    rw [f4]
    simp only [upd_upd] at hhd hft ⊢
    have hd4 : H4 hd = none ∧ hd ≠ al := by
      rw [upd_ne (Ne.symm Shd)] at hhd
      by_cases e : hd = al
      · rw [e, upd_same] at hhd; cases hhd
      · rw [upd_ne e] at hhd; exact ⟨hhd, e⟩
    have ft4 : H4 ft = none ∧ ft ≠ al ∧ ft ≠ hd := by
      rw [upd_ne (Ne.symm Sft)] at hft
      by_cases e : ft = hd
      · rw [e, upd_same] at hft; cases hft
      · rw [upd_ne e, upd_ne (Ne.symm Sft)] at hft
        by_cases e2 : ft = al
        · rw [e2, upd_same] at hft; cases hft
        · rw [upd_ne e2] at hft; exact ⟨hft, e2, e⟩
    have fin : ∀ b o, H4 b = some o → b ≠ S → upd (upd (upd (upd (upd (upd H4 al (.lst [])) S (.ins A.C_SheetSettings dx (putF "first_number" (.int 1) (putF "beside_first" (.bl false) (putF "fit" .non (putF "scale" (.int 100) (putF "areas" (.ref al) (putF "ways" (.ref wt) fs)))))))) hd (.lst [])) S (.ins A.C_SheetSettings dx (putF "head" (.ref hd) (putF "first_number" (.int 1) (putF "beside_first" (.bl false) (putF "fit" .non (putF "scale" (.int 100) (putF "areas" (.ref al) (putF "ways" (.ref wt) fs))))))))) ft (.lst [])) S (.ins A.C_SheetSettings dx (F_SheetSettings (.ref wt) (.ref al) (.int 100) .non (.bl false) (.int 1) (.ref hd) (.ref ft))) b = some o := fun b o hb hn => by
      rw [upd_ne hn, upd_ne (ne_of_none hb ft4.1), upd_ne hn, upd_ne (ne_of_none hb hd4.1), upd_ne hn, upd_ne (ne_of_none hb hal)]; exact hb
    have old : ∀ {b}, (H4 b = none) → H b = none := fun {b} h => by
      cases e : H b with
      | none => rfl
      | some o =>
        by_cases hn : b = S
        · subst hn; rw [hS4] at h; cases h
        · rw [all4 b o e hn] at h; cases h
    obtain ⟨⟨_, _, y0, _⟩, yL0, _, yb0, _⟩ := id B0
    obtain ⟨⟨_, _, y1, _⟩, yL1, _, yb1, _⟩ := id B1
    have keepW : ∀ {a L bd : Addr} {w' : Si32.Way} {e z : Int} {md : Bool}, WayAt K A.C_WaySettings H4 a L bd w' e z md → a ≠ S → WayAt K A.C_WaySettings _ a L bd w' e z md := fun {a L bd w' e z md} hw hn => hw.keep fun b o hb c => fin b o hb (by
      obtain ⟨_, hl, _, hbd, _⟩ := hw
      rcases c with rfl | rfl | rfl | ⟨xs, rfl⟩
      · exact hn
      · exact ne_of hl hS4 (by intro z; cases z)
      · exact ne_of hbd hS4 (by intro z; cases z)
      · exact ne_of hb hS4 (by intro z; cases z))
    have nM : ∀ {b}, H4 b = none → ¬ (b = S ∨ b = W0 ∨ b = W1 ∨ b = L0 ∨ b = L1) := fun {b} h c => by
      rcases c with rfl | rfl | rfl | rfl | rfl
      · rw [hS4] at h; cases h
      · rw [y0] at h; cases h
      · rw [y1] at h; cases h
      · rw [yL0] at h; cases h
      · rw [yL1] at h; cases h
    refine k _ ⟨S, wt, W0, W1, L0, L1, b0, b1, al, hd, ft, dx⟩ ⟨⟨.int 100, .non, upd_same, rfl, rfl⟩, fin _ _ hwt4 (Ne.symm Swt), keepW B0 (Ne.symm S0), keepW B1 (Ne.symm S1), ⟨[], ?_, rfl, fun j t a h => by simp at h⟩, ?_, ?_, n01, Ne.symm S0, Ne.symm S1, nL, nM hal, nM hd4.1, nM ft4.1⟩ rfl ?_ (old hal) (old hd4.1) (old ft4.1) fun b o hb hn => fin b o (all4 b o hb hn) hn
    · rw [upd_ne (Ne.symm Sal), upd_ne (Ne.symm ft4.2.1), upd_ne (Ne.symm Sal), upd_ne (Ne.symm hd4.2), upd_ne (Ne.symm Sal)]; exact upd_same
    · rw [upd_ne (Ne.symm Shd), upd_ne (Ne.symm ft4.2.2), upd_ne (Ne.symm Shd)]; exact upd_same
    · rw [upd_ne (Ne.symm Sft)]; exact upd_same
    · rintro b (rfl | rfl | rfl | rfl | rfl)
      · exact .inl rfl
      · exact .inr g1
      · exact .inr (fr g4)
      · exact .inr u1'
      · exact .inr (fr u3')
def spSSInit (K : PySem.W.Frag) (A : Ad) : Sp := fun vs H Q _ => ∃ (S dx : Addr), vs = [.ref S] ∧ H S = some (.ins A.C_SheetSettings dx []) ∧
  ∀ (H' : Hp) (q : Ads), SetA K A H' q Si32.init → q.S = S → (∀ b, q.M b → b = S ∨ H b = none) → H q.al = none → H q.hd = none → H q.ft = none → (∀ b o, H b = some o → b ≠ S → H' b = some o) → Q .non H'
theorem ok_SSInit (T : Txt K mg A) : Ok P w K mg base CX0 4 A.f_SheetSettings__init_ p_SheetSettings__init_ (spSSInit K A) := by
  obtain ⟨fd, F, B⟩ := T.fn_SheetSettings__init_.ex
  have nd := sc_SheetSettings__init_.nd
  obtain ⟨_, B_SheetSettings_begin, G_SheetSettings_begin⟩ := (ok_Begin (P := P) (w := w) (base := base) T).ex
  refine ⟨fd, B, F.ok sc_SheetSettings__init_ (fun vs H Q E h => ?_) (fun cdv A' outer s H vs Q E hr h => ⟨_,
      (pss_one (ps_expr (pe_meth0 (pv 0) T.c_SheetSettings T.m_SheetSettings_begin G_SheetSettings_begin hr B_SheetSettings_begin .nil pass0))), ?_⟩)⟩
  · obtain ⟨S, dx, rfl, _⟩ := h
    rfl
  · obtain ⟨S, dx, rfl, hS, k⟩ := h
    exact ⟨_, rfl, S, dx, _, rfl, hS, rfl, S, dx, [], rfl, hS, .inl rfl, fun H' q h1 h2 h3 h4 h5 h6 h7 => k H' q h1 h2 h3 h4 h5 h6 h7⟩
end
end Sh

namespace Sh
open PySem PySem.Spec PyProof.Rows L2
open PySem.W (Codec)
theorem Good.gw0 {s : Si32.St} (g : Good s) : GW s.rows ∧ s.rows.most = 4096 := by
  have h := g.rows.most
  refine ⟨⟨20, by rw [h]; exact g.rows, by omega, by decide⟩, h⟩
theorem Good.gw1 {s : Si32.St} (g : Good s) : GW s.cols ∧ s.cols.most = 256 := by
  have h := g.cols.most
  refine ⟨⟨64, by rw [h]; exact g.cols, by omega, by decide⟩, h⟩
theorem Good.area {s : Si32.St} (g : Good s) {j : Nat} {a : Si32.Area} (h : s.areas[j]? = some a) : a.row0 ≤ a.row1 ∧ a.row1 < 4096 ∧ a.col0 ≤ a.col1 ∧ a.col1 < 256 := by
  have := List.all_eq_true.mp g.areas a (List.mem_of_getElem? h)
  have := (good_area a).mp this
  unfold badSpan at this
  omega
theorem Good.percent {s : Si32.St} (g : Good s) : 10 ≤ s.percent ∧ s.percent ≤ 400 := by
  have h := g.scale
  unfold Si32.St.percent
  revert h
  cases s.scale with
  | told p =>
    intro h
    unfold Si32.goodScale Si32.LEAST at h
    simpa using h
  | fit w h =>
    intro _
    show 10 ≤ ((List.find? (s.fits w h) _).getD 10) ∧ ((List.find? (s.fits w h) _).getD 10) ≤ 400
    cases e : List.find? (s.fits w h) ((List.range 91).map fun i => 100 - i) with
    | none => exact ⟨by show 10 ≤ 10; decide, by show 10 ≤ 400; decide⟩
    | some x =>
      have hm := List.mem_of_find?_eq_some e
      rw [List.mem_map] at hm
      obtain ⟨i, hi, rfl⟩ := hm
      rw [List.mem_range] at hi
      show 10 ≤ 100 - i ∧ 100 - i ≤ 400
      omega
theorem areaV_eq (a : Si32.Area) : areaV a = [.int (a.row0 : Nat), .int (a.col0 : Nat), .int (a.row1 : Nat), .int (a.col1 : Nat)] := rfl
theorem AreasAt.get {H : Hp} {l : Addr} {as : List Si32.Area} (h : AreasAt H l as) : ∃ xs : List V, H l = some (.lst xs) ∧ xs.length = as.length ∧ ∀ (j : Nat) v, xs[j]? = some v → ∃ t a, v = .ref t ∧ as[j]? = some a ∧ H t = some (.tup (areaV a)) := by
  obtain ⟨ts, h1, h2, h3⟩ := h
  refine ⟨_, h1, by rw [List.length_map, h2], fun j v hv => ?_⟩
  rw [List.getElem?_map] at hv
  cases e : ts[j]? with
  | none => rw [e] at hv; cases hv
  | some t =>
    rw [e] at hv
    have hj : j < as.length := by rw [← h2]; exact (List.getElem?_eq_some_iff.mp e).1
    have ha := List.getElem?_eq_getElem hj
    exact ⟨t, _, (Option.some.inj hv).symm, ha, h3 j t _ e ha⟩
section
variable {P : Program} {w : World} {K : PySem.W.Frag} {mg : Str → Option Value} {base : Heap} {A : Ad}
/-! ### SheetPages.fits, find_fitting_scale -/
structure SelfAt (K : PySem.W.Frag) (A : Ad) (H : Hp) (p : Addr) (q : Ads) (s : Si32.St) : Prop where
  ex : ∃ dx fs R0 R1, H p = some (.ins A.C_SheetPages dx fs) ∧ fs.lookup ("settings" : Str) = some (V.ref q.S) ∧ fs.lookup ("rows" : Str) = some (V.ref R0) ∧ fs.lookup ("columns" : Str) = some (V.ref R1) ∧ fs.lookup ("fits" : Str) = none ∧
    BndAt K A H R0 s.rows s.paper.top s.tall s.down ∧ BndAt K A H R1 s.cols s.paper.left s.wide s.across
def spFits (K : PySem.W.Frag) (A : Ad) : Sp := fun vs H Q _ => ∃ (p : Addr) (q : Ads) (s : Si32.St) (a b n : Nat), vs = [.ref p, .int n] ∧ SelfAt K A H p q s ∧ SetA K A H q s ∧ Good s ∧ s.scale = .fit a b ∧ 0 < n ∧ n ≤ 400 ∧ Q (.bl (s.fits a b n)) H
theorem ok_Fits (T : Txt K mg A) : Ok P w K mg base CX0 5 A.f_SheetPages_fits p_SheetPages_fits (spFits K A) := by
  obtain ⟨fd, F, B⟩ := T.fn_SheetPages_fits.ex
  have nd := sc_SheetPages_fits.nd
  obtain ⟨_, B_WayBands_has_more_bands, G_WayBands_has_more_bands⟩ := (ok_More (P := P) (w := w) (base := base) T).ex
  refine ⟨fd, B, F.ok sc_SheetPages_fits (fun vs H Q E h => ?_) (fun cdv A' outer s H vs Q E hr h => ⟨_,
      (pss_cons (ps_set (i := 2) nd rfl (Or.inl rfl) (pe_ix ix_tup (pe_fld (pe_fld (pv 0) rfl) rfl) pe_int (fun _ _ => rfl)))
      (pss_cons (ps_set (i := 3) nd rfl (Or.inl rfl) (pe_ix ix_tup (pe_fld (pe_fld (pv 0) rfl) rfl) pe_int (fun _ _ => rfl)))
      (pss_cons (ps_for PassesOwn.never rfl (pi_list (pe_fld (pe_fld (pv 0) rfl) rfl)) (pg_name (i := 4) nd rfl (Or.inl rfl)) (pss_cons (ps_if (pt_truth (pe_meth (pe_fld (pv 0) rfl) T.c_WayBands T.m_WayBands_has_more_bands G_WayBands_has_more_bands hr B_WayBands_has_more_bands .nil pass0 (pa_cons (pe_ix ix_tup (pv 4) pe_int (fun _ _ => rfl)) (pa_cons (pe_ix ix_tup (pv 4) pe_int (fun _ _ => rfl)) (pa_cons (pv 1) (pa_cons (pv 3) pa_nil))))) (by intro _; rfl)) (pss_one (ps_ret pe_bl)) pss_nil)
        (pss_one (ps_if (pt_truth (pe_meth (pe_fld (pv 0) rfl) T.c_WayBands T.m_WayBands_has_more_bands G_WayBands_has_more_bands hr B_WayBands_has_more_bands .nil pass0 (pa_cons (pe_ix ix_tup (pv 4) pe_int (fun _ _ => rfl)) (pa_cons (pe_ix ix_tup (pv 4) pe_int (fun _ _ => rfl)) (pa_cons (pv 1) (pa_cons (pv 2) pa_nil))))) (by intro _; rfl)) (pss_one (ps_ret pe_bl)) pss_nil))))
      (pss_one (ps_ret pe_bl))))), ?_⟩)⟩
  · obtain ⟨p, q, s, a, b, n, rfl, _⟩ := h
    rfl
  · obtain ⟨p, q, s, a, b, n, rfl, ⟨dx, fs, R0, R1, hp, e1, e2, e3, _, hB0, hB1⟩, hset, g, hsc, hn0, hn1, k⟩ := h
    obtain ⟨sv, fv, hS, hfit⟩ := hset.hS
    rw [hsc] at hfit
    obtain ⟨ft, rfl, hft⟩ := hfit
    refine ⟨_, rfl, p, _, dx, _, _, rfl, hp, T.c_SheetPages, T.na_SheetPages_settings, e1, q.S, _, q.dx, _, _, rfl, hS, T.c_SheetSettings, T.na_SheetSettings_fit, lk_SheetSettings_fit, ft, _, 0, .int (a : Nat), rfl, rfl, SqT.of hft, rfl, ?_⟩
    refine ⟨_, rfl, p, _, dx, _, _, rfl, hp, T.c_SheetPages, T.na_SheetPages_settings, e1, q.S, _, q.dx, _, _, rfl, hS, T.c_SheetSettings, T.na_SheetSettings_fit, lk_SheetSettings_fit, ft, _, 1, .int (b : Nat), rfl, rfl, SqT.of hft, rfl, ?_⟩
    obtain ⟨xs, hl, hxl, hx⟩ := hset.ar.get
    refine ⟨_, rfl, p, _, dx, _, _, rfl, hp, T.c_SheetPages, T.na_SheetPages_settings, e1, q.S, _, q.dx, _, _, rfl, hS, T.c_SheetSettings, T.na_SheetSettings_areas, lk_SheetSettings_areas, q.al, rfl, ⟨_, SqL.of hl⟩, ?_⟩
    obtain ⟨d0, W0, L0, c0, sl0, hR0, _⟩ := hB0.ex
    obtain ⟨d1, W1, L1, c1, sl1, hR1, _⟩ := hB1.ex
    refine for_list (xs := xs) (fun i σ H' => H' = H ∧ (∃ x, σ = [some (.ref p), some (.int n), some (.int (a : Nat)), some (.int (b : Nat)), x]) ∧ (s.areas.take i).all (fun x => (a == 0 || decide ((s.colBands n x).length ≤ a)) && (b == 0 || decide ((s.rowBands n x).length ≤ b))) = true) ⟨rfl, ⟨_, rfl⟩, rfl⟩ ?_ ?_ ?_
    · rintro i σ H' _ ⟨rfl, _⟩
      exact SqL.of hl
    · rintro i v σ H' hv ⟨rfl, ⟨y, rfl⟩, hall⟩
      obtain ⟨t, x, rfl, hxa, ht⟩ := hx i v hv
      obtain ⟨r1, r2, r3, r4⟩ := g.area hxa
      rw [areaV_eq] at ht
      have kf : ((a == 0 || decide ((s.colBands n x).length ≤ a)) && (b == 0 || decide ((s.rowBands n x).length ≤ b))) = false → s.fits a b n = false := fun h => by
        unfold Si32.St.fits
        rw [List.all_eq_false]
        exact ⟨x, List.mem_of_getElem? hxa, by rw [h]; simp⟩
      refine ⟨_, rfl, p, _, dx, _, _, rfl, hp, T.c_SheetPages, T.na_SheetPages_rows, e2, R0, d0, _, rfl, hR0, nm_WayBands_has_more_bands, _, rfl, t, _, 0, .int (x.row0 : Nat), rfl, rfl, SqT.of ht, rfl, _, rfl, t, _, 2, .int (x.row1 : Nat), rfl, rfl, SqT.of ht, rfl, _, rfl, _, rfl, R0, s.rows, s.paper.top, s.tall, s.down, x.row0, x.row1, n, b, rfl, hB0, g.gw0.1, r1, by rw [g.gw0.2]; exact r2, hn0, hn1, _, rfl, ?_⟩
      cases eb : (b == 0 || decide ((s.rowBands n x).length ≤ b)) with
      | false =>
        have := kf (by rw [eb, Bool.and_false])
        rw [this] at k
        exact if_true_of (by show (!(b == 0 || decide ((s.rowBands n x).length ≤ b))) = true; rw [eb]; rfl) k
      | true =>
        refine if_false_of (by show (!(b == 0 || decide ((s.rowBands n x).length ≤ b))) = false; rw [eb]; rfl) ?_
        refine ⟨_, rfl, p, _, dx, _, _, rfl, hp, T.c_SheetPages, T.na_SheetPages_columns, e3, R1, d1, _, rfl, hR1, nm_WayBands_has_more_bands, _, rfl, t, _, 1, .int (x.col0 : Nat), rfl, rfl, SqT.of ht, rfl, _, rfl, t, _, 3, .int (x.col1 : Nat), rfl, rfl, SqT.of ht, rfl, _, rfl, _, rfl, R1, s.cols, s.paper.left, s.wide, s.across, x.col0, x.col1, n, a, rfl, hB1, g.gw1.1, r3, by rw [g.gw1.2]; exact r4, hn0, hn1, _, rfl, ?_⟩
        cases ea : (a == 0 || decide ((s.colBands n x).length ≤ a)) with
        | false =>
          have := kf (by rw [ea, Bool.false_and])
          rw [this] at k
          exact if_true_of (by show (!(a == 0 || decide ((s.colBands n x).length ≤ a))) = true; rw [ea]; rfl) k
        | true =>
          refine if_false_of (by show (!(a == 0 || decide ((s.colBands n x).length ≤ a))) = false; rw [ea]; rfl) ?_
          refine ⟨rfl, ⟨_, rfl⟩, ?_⟩
          rw [take_snoc hxa, List.all_append, hall]
          simp only [List.all_cons, List.all_nil, Bool.and_true, Bool.true_and]
          rw [ea, eb]; rfl
    · rintro σ H' ⟨rfl, ⟨y, rfl⟩, hall⟩
      rw [hxl, List.take_length] at hall
      have : s.fits a b n = true := hall
      rw [this] at k
      exact k
def spFitting (K : PySem.W.Frag) (A : Ad) : Sp := fun vs H Q _ => ∃ (p : Addr) (q : Ads) (s : Si32.St) (a b : Nat), vs = [.ref p] ∧ SelfAt K A H p q s ∧ SetA K A H q s ∧ Good s ∧ s.scale = .fit a b ∧ Q (.int (s.percent : Nat)) H
theorem ok_Fitting (T : Txt K mg A) : Ok P w K mg base CX0 6 A.f_SheetPages_find_fitting_scale p_SheetPages_find_fitting_scale (spFitting K A) := by
  obtain ⟨fd, F, B⟩ := T.fn_SheetPages_find_fitting_scale.ex
  have nd := sc_SheetPages_find_fitting_scale.nd
  obtain ⟨_, B_SheetPages_fits, G_SheetPages_fits⟩ := (ok_Fits (P := P) (w := w) (base := base) T).ex
  obtain ⟨t1, h_LARGEST_FITTING⟩ := T.i_LARGEST_FITTING
  obtain ⟨t2, h_SMALLEST_FITTING⟩ := T.i_SMALLEST_FITTING
  refine ⟨fd, B, F.ok sc_SheetPages_find_fitting_scale (fun vs H Q E h => ?_) (fun cdv A' outer s H vs Q E hr h => ⟨_,
      (pss_cons (ps_set (i := 1) nd rfl (Or.inl rfl) (pe_glob (v := .int 100) rfl h_LARGEST_FITTING ⟨_, rfl⟩))
      (pss_cons (ps_while PassesOwn.never (PW.pt (pw_and (pt_cmpR op_gt (pv 1) (pe_glob (v := .int 10) rfl h_SMALLEST_FITTING ⟨_, rfl⟩) (nomark _)) (pw_and1 (pt_not (pt_truth (pe_meth (pv 0) T.c_SheetPages T.m_SheetPages_fits G_SheetPages_fits hr B_SheetPages_fits .nil pass0 (pa_cons (pv 1) pa_nil)) (by intro _; rfl)))))) (pss_one (ps_aug (i := 1) nd rfl (.inl rfl) pe_int ip_sub)))
      (pss_one (ps_ret (pv 1))))), ?_⟩)⟩
  · obtain ⟨p, q, s, a, b, rfl, _⟩ := h
    rfl
  · obtain ⟨p, q, s, a, b, rfl, hself, hset, g, hsc, k⟩ := h
    obtain ⟨dx, fs, R0, R1, hp, e1, e2, e3, e4, _⟩ := hself.ex
    have hpc : s.percent = (((List.range 91).map fun i => 100 - i).find? (s.fits a b)).getD 10 := by
      unfold Si32.St.percent
      rw [hsc]; rfl
    refine while_by (fun σ H' => H' = H ∧ ∃ j : Nat, j ≤ 90 ∧ σ = [some (.ref p), some (.int ((100 - j : Nat) : Int))] ∧ ∀ m, m < j → s.fits a b (100 - m) = false) (fun σ _ => match σ with | [_, some (.int z)] => z.toNat | _ => 0) ⟨rfl, 0, by decide, rfl, fun m h => by omega⟩ ?_ ?_
    · rintro σ H1 ⟨rfl, j, hj, rfl, hf⟩
      refine ⟨_, rfl, _, _, rfl, rfl, _, rfl, ite2 (fun c => ?_) (fun c => ?_)⟩
      · simp only [decide_eq_true_eq] at c
        refine ⟨_, rfl, p, dx, _, rfl, hp, e4, _, rfl, p, q, s, a, b, 100 - j, rfl, hself, hset, g, hsc, by omega, by omega, _, rfl, ?_⟩
        cases hfit : s.fits a b (100 - j) with
        | false =>
          refine iteT ⟨_, rfl, _, _, rfl, rfl, ⟨rfl, j + 1, by omega, ?_, fun m hm => ?_⟩, ?_⟩
          · show [some (V.ref p), some (V.int (((100 - j : Nat) : Int) - 1))] = _
            rw [show (((100 - j : Nat) : Int)) - 1 = ((100 - (j + 1) : Nat) : Int) by omega]
          · rcases Nat.lt_or_ge m j with h | h
            · exact hf m h
            · rw [show m = j by omega]; exact hfit
          · show ((((100 - j : Nat) : Int)) - 1).toNat < (((100 - j : Nat) : Int)).toNat
            omega
        | true =>
          refine iteF ⟨_, rfl, ?_⟩
          rw [hpc, find_scale (s.fits a b) j hj hf (.inl hfit)] at k
          exact k
      · simp only [decide_eq_true_eq] at c
        have : j = 90 := by omega
        subst this
        refine iteF ⟨_, rfl, ?_⟩
        rw [hpc, find_scale (s.fits a b) 90 hj hf (.inr rfl)] at k
        exact k
    · exact mono_and (fun σ H Q Q' hq ⟨v, e, i, j, e5, e6, k, e7, q⟩ => ⟨v, e, i, j, e5, e6, k, e7, hq _ _ q⟩) (mono_not fun σ H Q Q' hq ⟨v, e, p, dx, fs, e2, h, nm, v2, e3, p', q, s, a, b, n, e4, h1, h2, h3, h4, h5, h6, kk, tr, z⟩ => ⟨v, e, p, dx, fs, e2, h, nm, v2, e3, p', q, s, a, b, n, e4, h1, h2, h3, h4, h5, h6, kk, tr, hq _ _ z⟩)
end
end Sh

namespace Sh
open PySem PySem.Spec PyProof.Rows L2
open PySem.W (Codec)
/-! ### all pages in the heap -/
def BndN (K : PySem.W.Frag) (A : Ad) (H : Hp) (N : Addr → Prop) (R : Addr) (w : Si32.Way) (ed sp : Nat) (md : Bool) : Prop := ∃ dx W L bd sl, H R = some (.ins A.C_WayBands dx (F_WayBands (.ref W) (.ref sl))) ∧ WayAt K A.C_WaySettings H W L bd w ed sp md ∧ H sl = some (.lst (preV w w.most)) ∧ W ≠ R ∧ N R ∧ N W ∧ N L ∧ N bd ∧ N sl
theorem BndN.bnd {K : PySem.W.Frag} {A : Ad} {H : Hp} {N : Addr → Prop} {R : Addr} {w : Si32.Way} {ed sp : Nat} {md : Bool} (h : BndN K A H N R w ed sp md) : BndAt K A H R w ed sp md := by
  obtain ⟨dx, W, L, bd, sl, h1, h2, h3, h4, _⟩ := h
  exact ⟨dx, W, L, bd, sl, h1, h2, h3, h4⟩
theorem BndN.keep {K : PySem.W.Frag} {A : Ad} {H H' : Hp} {N N' : Addr → Prop} {R : Addr} {w : Si32.Way} {ed sp : Nat} {md : Bool} (h : BndN K A H N R w ed sp md) (k : ∀ b o, H b = some o → (N b ∨ ∃ xs, o = .tup xs) → H' b = some o) (kn : ∀ b o, H b = some o → N b → N' b) : BndN K A H' N' R w ed sp md := by
  obtain ⟨dx, W, L, bd, sl, h1, h2, h3, h4, n1, n2, n3, n4, n5⟩ := h
  obtain ⟨⟨dw, tv, hW, _⟩, hL, kvs, hb, _⟩ := id h2
  refine ⟨dx, W, L, bd, sl, k _ _ h1 (.inl n1), h2.keep fun b o hb c => k b o hb ?_, k _ _ h3 (.inl n5), h4, kn _ _ h1 n1, kn _ _ hW n2, kn _ _ hL n3, kn _ _ hb n4, kn _ _ h3 n5⟩
  rcases c with rfl | rfl | rfl | c
  · exact .inl n2
  · exact .inl n3
  · exact .inl n4
  · exact .inr c
structure PgAt (K : PySem.W.Frag) (A : Ad) (H : Hp) (N : Addr → Prop) (p S : Addr) (s : Si32.St) : Prop where
  ex : ∃ (dx R0 R1 pl : Addr) (xs : List Addr), H p = some (.ins A.C_SheetPages dx (F_SheetPages (.ref S) (.ref R0) (.ref R1) (.int (s.percent : Nat)) (.int (s.count : Nat)) (.ref pl))) ∧ BndN K A H N R0 s.rows s.paper.top s.tall s.down ∧ BndN K A H N R1 s.cols s.paper.left s.wide s.across ∧
    H pl = some (.lst (xs.map V.ref)) ∧ xs.length = s.areas.length ∧ (∀ (j : Nat) x a, xs[j]? = some x → s.areas[j]? = some a → APAt A H N x j (firstP s s.percent s.areas j) (s.rowBands s.percent a) (s.colBands s.percent a) s.over) ∧ N p ∧ N pl
theorem PgAt.keep {K : PySem.W.Frag} {A : Ad} {H H' : Hp} {N N' : Addr → Prop} {p S : Addr} {s : Si32.St} (h : PgAt K A H N p S s) (k : ∀ b o, H b = some o → (N b ∨ ∃ xs, o = .tup xs) → H' b = some o) (kn : ∀ b o, H b = some o → N b → N' b) : PgAt K A H' N' p S s := by
  obtain ⟨dx, R0, R1, pl, xs, h1, h2, h3, h4, h5, h6, n1, n2⟩ := h.ex
  exact ⟨dx, R0, R1, pl, xs, k _ _ h1 (.inl n1), h2.keep k kn, h3.keep k kn, k _ _ h4 (.inl n2), h5, fun j x a q1 q2 => (h6 j x a q1 q2).keep k kn, kn _ _ h1 n1, kn _ _ h4 n2⟩
theorem cntA_pos {s : Si32.St} (g : Good s) {j : Nat} {a : Si32.Area} (h : s.areas[j]? = some a) (p : Nat) : (s.rowBands p a).length ≤ 4096 ∧ (s.colBands p a).length ≤ 256 := by
  obtain ⟨r1, r2, r3, r4⟩ := g.area h
  have h1 := bands_len s.rows s.tall p r1
  have h2 := bands_len s.cols s.wide p r3
  unfold Si32.St.rowBands Si32.St.colBands
  omega
section
variable {P : Program} {w : World} {K : PySem.W.Frag} {mg : Str → Option Value} {base : Heap} {A : Ad}
/-- what follows an if without else, told once -/
theorem fork {D : Ends} {σ : L2.St} {H0 Hf : Hp} {c : Bool} {X : Prop} (G : D.nx σ Hf) (h : D.nx σ Hf → if c = true then X else D.nx σ H0) : if c = true then X else D.nx σ H0 := h G
theorem put_used {a b c d y : V} : putF "used_scale" y [("settings", a), ("rows", b), ("columns", c), ("used_scale", d)] = ([("settings", a), ("rows", b), ("columns", c), ("used_scale", y)] : List (Str × V)) := put_past (by decide +kernel) (put_past (by decide +kernel) (put_past (by decide +kernel) put_here))
theorem made_free {G : Hp} {x d b C : Addr} {fs : List (Str × V)} (h : upd (upd G d (.own x)) x (.ins C d fs) b = none) : G b = none := by
  by_cases e1 : b = x
  · subst e1; rw [upd_same] at h; cases h
  · rw [upd_ne e1] at h
    by_cases e2 : b = d
    · subst e2; rw [upd_same] at h; cases h
    · rw [upd_ne e2] at h; exact h
theorem made_keep {G : Hp} {x d b C : Addr} {fs : List (Str × V)} {o : HO} (g1 : G x = none) (g2 : G d = none) (h : G b = some o) : upd (upd G d (.own x)) x (.ins C d fs) b = some o := by
  rw [upd_ne (ne_of_none h g1), upd_ne (ne_of_none h g2)]; exact h
def spSPInit (K : PySem.W.Frag) (A : Ad) : Sp := fun vs H Q _ => ∃ (p dx : Addr) (q : Ads) (s : Si32.St) (N : Addr → Prop), vs = [.ref p, .ref q.S] ∧ H p = some (.ins A.C_SheetPages dx []) ∧ SetA K A H q s ∧ ¬ q.M p ∧ Good s ∧ N p ∧ (∀ b, H b = none → N b) ∧ N q.W0 ∧ N q.W1 ∧ N q.L0 ∧ N q.L1 ∧ N q.b0 ∧ N q.b1 ∧
  ∀ H' : Hp, PgAt K A H' N p q.S s → (∀ b o, H b = some o → b ≠ p → H' b = some o) → Q .non H'
theorem ok_SPInit (T : Txt K mg A) : Ok P w K mg base CX0 7 A.f_SheetPages__init_ p_SheetPages__init_ (spSPInit K A) := by
  obtain ⟨fd, F, B⟩ := T.fn_SheetPages__init_.ex
  have nd := sc_SheetPages__init_.nd
  obtain ⟨_, B_WayBands__init_, G_WayBands__init_⟩ := (ok_BndInit (P := P) (w := w) (base := base) T).ex
  obtain ⟨_, B_AreaPages__init_, G_AreaPages__init_⟩ := (ok_APInit (P := P) (w := w) (base := base) T).ex
  obtain ⟨_, B_AreaPages_count_pages, G_AreaPages_count_pages⟩ := (ok_Count (P := P) (w := w) (base := base) T).ex
  obtain ⟨_, B_WayBands_find_bands, G_WayBands_find_bands⟩ := (ok_Find (P := P) (w := w) (base := base) T).ex
  obtain ⟨_, B_SheetPages_find_fitting_scale, G_SheetPages_find_fitting_scale⟩ := (ok_Fitting (P := P) (w := w) (base := base) T).ex
  refine ⟨fd, B, F.ok sc_SheetPages__init_ (fun vs H Q E h => ?_) (fun cdv A' outer sh H vs Q E hr h => ⟨_,
      (pss_cons (ps_fld (pv 0) (pv 1) rfl)
      (pss_cons (ps_fld (pv 0) (pe_make T.mk_WayBands G_WayBands__init_ (hr.mono (by decide)) rfl T.g_WayBands B_WayBands__init_ .nil pass0 (pa_cons (pe_ix ix_tup (pe_fld (pv 1) rfl) pe_int (fun _ _ => rfl)) pa_nil)) rfl)
      (pss_cons (ps_fld (pv 0) (pe_make T.mk_WayBands G_WayBands__init_ (hr.mono (by decide)) rfl T.g_WayBands B_WayBands__init_ .nil pass0 (pa_cons (pe_ix ix_tup (pe_fld (pv 1) rfl) pe_int (fun _ _ => rfl)) pa_nil)) rfl)
      (pss_cons (ps_fld (pv 0) (pe_fld (pv 1) rfl) rfl)
      (pss_cons (ps_if (pt_cmpR op_notN (pe_fld (pv 1) rfl) pe_non (nomark _)) (pss_one (ps_fld (pv 0) (pe_meth0 (pv 0) T.c_SheetPages T.m_SheetPages_find_fitting_scale G_SheetPages_find_fitting_scale hr B_SheetPages_find_fitting_scale .nil pass0) rfl)) pss_nil)
      (pss_cons (ps_fld (pv 0) pe_int rfl)
      (pss_cons (ps_fld (pv 0) (pe_lst pa_nil) rfl)
      (pss_one (ps_for PassesOwn.never rfl (pi_list (pe_fld (pv 1) rfl)) (pg_name (i := 2) nd rfl (Or.inl rfl)) (pss_cons (ps_set (i := 3) nd rfl (Or.inl rfl) (pe_meth (pe_fld (pv 0) rfl) T.c_WayBands T.m_WayBands_find_bands G_WayBands_find_bands (hr.mono (by decide)) B_WayBands_find_bands .nil pass0 (pa_cons (pe_ix ix_tup (pv 2) pe_int (fun _ _ => rfl)) (pa_cons (pe_ix ix_tup (pv 2) pe_int (fun _ _ => rfl)) (pa_cons (pe_fld (pv 0) rfl) pa_nil)))))
        (pss_cons (ps_set (i := 4) nd rfl (Or.inl rfl) (pe_meth (pe_fld (pv 0) rfl) T.c_WayBands T.m_WayBands_find_bands G_WayBands_find_bands (hr.mono (by decide)) B_WayBands_find_bands .nil pass0 (pa_cons (pe_ix ix_tup (pv 2) pe_int (fun _ _ => rfl)) (pa_cons (pe_ix ix_tup (pv 2) pe_int (fun _ _ => rfl)) (pa_cons (pe_fld (pv 0) rfl) pa_nil)))))
        (pss_cons (ps_set (i := 5) nd rfl (Or.inl rfl) (pe_callB call_len_seq (by rfl) T.bl_len PySem.boot_len (pa_cons (pe_fld (pv 0) rfl) pa_nil)))
        (pss_cons (ps_set (i := 6) nd rfl (Or.inl rfl) (pe_make T.mk_AreaPages G_AreaPages__init_ (hr.mono (by decide)) rfl T.g_AreaPages B_AreaPages__init_ .nil pass0 (pa_cons (pv 5) (pa_cons (pe_fld (pv 0) rfl) (pa_cons (pv 3) (pa_cons (pv 4) (pa_cons (pe_fld (pv 1) rfl) pa_nil)))))))
        (pss_cons (ps_expr (pe_bm PySem.F.plainAttrs_list PySem.F.slot_list_append PySem.F.type_list_append mt_append (pe_fld (pv 0) rfl) (pa_cons (pv 6) pa_nil)))
        (pss_one (ps_fldaug (pv 0) (pe_meth0 (pv 6) T.c_AreaPages T.m_AreaPages_count_pages G_AreaPages_count_pages (hr.mono (by decide)) B_AreaPages_count_pages .nil pass0) in_add)))))))))))))))), ?_⟩)⟩
  · obtain ⟨p, dx, q, s, N, rfl, _⟩ := h
    rfl
  · obtain ⟨p, dx, q, s, N, rfl, hp, hset, hpM, g, Np, Nfree, NW0, NW1, NL0, NL1, Nb0, Nb1, k⟩ := h
    have pS : q.S ≠ p := fun z => hpM (.inl z.symm)
    have pW0 : q.W0 ≠ p := fun z => hpM (.inr (.inl z.symm))
    have pW1 : q.W1 ≠ p := fun z => hpM (.inr (.inr (.inl z.symm)))
    obtain ⟨sv, fv, hS, hsc⟩ := hset.hS
    obtain ⟨⟨dw0, tv0, hW0, _⟩, hL0, kv0, hb0, _⟩ := id hset.a0
    obtain ⟨⟨dw1, tv1, hW1, _⟩, hL1, kv1, hb1, _⟩ := id hset.a1
    refine ⟨_, rfl, _, rfl, p, _, dx, _, rfl, hp, T.c_SheetPages, T.na_SheetPages_settings, of_decide_eq_true rfl, ?_⟩
    rw [nw_SheetPages_0]
    generalize hH1 : upd H p (.ins A.C_SheetPages dx [("settings", .ref q.S)]) = H1
    have k1 : ∀ b o, H b = some o → b ≠ p → H1 b = some o := fun b o hb hn => by rw [← hH1, upd_ne hn]; exact hb
    have p1 : H1 p = some (.ins A.C_SheetPages dx [("settings", .ref q.S)]) := by rw [← hH1]; exact upd_same
    have wtp : q.wt ≠ p := ne_of hset.hw hp (by intro z; cases z)
    refine ⟨_, rfl, q.S, _, q.dx, _, _, rfl, k1 _ _ hS pS, T.c_SheetSettings, T.na_SheetSettings_ways, lk_SheetSettings_ways, q.wt, _, 0, .ref q.W0, rfl, rfl, SqT.of (k1 _ _ hset.hw wtp), rfl, fun R0 dR0 g1 g2 g3 => ?_⟩
    have wayK : ∀ {G : Hp} {a L bd : Addr} {w' : Si32.Way} {e z : Int} {md : Bool}, WayAt K A.C_WaySettings H a L bd w' e z md → a ≠ p → (∀ b o, H b = some o → b ≠ p → G b = some o) → WayAt K A.C_WaySettings G a L bd w' e z md := fun {G a L bd w' e z md} hw hn kk => hw.keep fun b o hb c => kk b o hb (by
      obtain ⟨_, hl, _, hbd, _⟩ := hw
      rcases c with rfl | rfl | rfl | ⟨xs, rfl⟩
      · exact hn
      · exact ne_of hl hp (by intro z; cases z)
      · exact ne_of hbd hp (by intro z; cases z)
      · exact ne_of hb hp (by intro z; cases z))
    have W0R0 : q.W0 ≠ R0 := ne_of_none (k1 _ _ hW0 pW0) g1
    have pR0 : p ≠ R0 := ne_of_none p1 g1
    refine ⟨R0, dR0, q.W0, q.L0, q.b0, s.rows, _, _, _, rfl, upd_same, W0R0, by rw [g.gw0.2]; decide, wayK hset.a0 pW0 (fun b o hb hn => made_keep g1 g2 (k1 b o hb hn)), fun H2 sl0 y1 y2 y3 y4 => ?_⟩
    have k2 : ∀ b o, H1 b = some o → H2 b = some o := fun b o hb => y4 b o (made_keep g1 g2 hb) (ne_of_none hb g1)
    have fsl0 : H1 sl0 = none := made_free y2
    refine ⟨rfl, _, rfl, p, _, dx, _, rfl, k2 _ _ p1, T.c_SheetPages, T.na_SheetPages_rows, of_decide_eq_true rfl, ?_⟩
    rw [nw_SheetPages_1]
    generalize hH3 : upd H2 p (.ins A.C_SheetPages dx [("settings", .ref q.S), ("rows", .ref R0)]) = H3
    have p3 : H3 p = some (.ins A.C_SheetPages dx [("settings", .ref q.S), ("rows", .ref R0)]) := by rw [← hH3]; exact upd_same
    have k23 : ∀ b o, H2 b = some o → b ≠ p → H3 b = some o := fun b o hb hn => by rw [← hH3, upd_ne hn]; exact hb
    have k3 : ∀ b o, H b = some o → b ≠ p → H3 b = some o := fun b o hb hn => k23 b o (k2 b o (k1 b o hb hn)) hn
    -- the columns
    refine ⟨_, rfl, q.S, _, q.dx, _, _, rfl, k3 _ _ hS pS, T.c_SheetSettings, T.na_SheetSettings_ways, lk_SheetSettings_ways, q.wt, _, 1, .ref q.W1, rfl, rfl, SqT.of (k3 _ _ hset.hw wtp), rfl, fun R1 dR1 g4 g5 g6 => ?_⟩
    have W1R1 : q.W1 ≠ R1 := ne_of_none (k3 _ _ hW1 pW1) g4
    refine ⟨R1, dR1, q.W1, q.L1, q.b1, s.cols, _, _, _, rfl, upd_same, W1R1, by rw [g.gw1.2]; decide, wayK hset.a1 pW1 (fun b o hb hn => made_keep g4 g5 (k3 b o hb hn)), fun H4 sl1 z1 z2 z3 z4 => ?_⟩
    have k34 : ∀ b o, H3 b = some o → H4 b = some o := fun b o hb => z4 b o (made_keep g4 g5 hb) (ne_of_none hb g4)
    have fsl1 : H3 sl1 = none := made_free z2
    refine ⟨rfl, _, rfl, p, _, dx, _, rfl, k34 _ _ p3, T.c_SheetPages, T.na_SheetPages_columns, of_decide_eq_true rfl, ?_⟩
    rw [nw_SheetPages_2]
    generalize hH5 : upd H4 p (.ins A.C_SheetPages dx [("settings", .ref q.S), ("rows", .ref R0), ("columns", .ref R1)]) = H5
    have p5 : H5 p = some (.ins A.C_SheetPages dx [("settings", .ref q.S), ("rows", .ref R0), ("columns", .ref R1)]) := by rw [← hH5]; exact upd_same
    have k45 : ∀ b o, H4 b = some o → b ≠ p → H5 b = some o := fun b o hb hn => by rw [← hH5, upd_ne hn]; exact hb
    have k35 : ∀ b o, H3 b = some o → b ≠ p → H5 b = some o := fun b o hb hn => k45 b o (k34 b o hb) hn
    have k5 : ∀ b o, H b = some o → b ≠ p → H5 b = some o := fun b o hb hn => k35 b o (k3 b o hb hn) hn
    have free1 : ∀ {b}, H1 b = none → H b = none := fun {b} h => by
      cases e : H b with
      | none => rfl
      | some o =>
        by_cases hn : b = p
        · subst hn; rw [p1] at h; cases h
        · rw [k1 b o e hn] at h; cases h
    have free3 : ∀ {b}, H3 b = none → H b = none := fun {b} h => by
      cases e : H b with
      | none => rfl
      | some o =>
        by_cases hn : b = p
        · subst hn; rw [p3] at h; cases h
        · rw [k3 b o e hn] at h; cases h
    have R0n : R0 ≠ p := Ne.symm pR0
    have R1n : R1 ≠ p := fun z => by rw [z, p3] at g4; cases g4
    have sl0n : sl0 ≠ p := fun z => by rw [z, p1] at fsl0; cases fsl0
    have sl1n : sl1 ≠ p := fun z => by rw [z, p3] at fsl1; cases fsl1
    have B0u : ∀ {G : Hp}, (∀ b o, H5 b = some o → b ≠ p → G b = some o) → BndN K A G N R0 s.rows s.paper.top s.tall s.down := fun {G} kk => ⟨dR0, q.W0, q.L0, q.b0, sl0, kk _ _ (k35 _ _ (k23 _ _ y1 R0n) R0n) R0n, wayK hset.a0 pW0 fun b o hb hn => kk b o (k5 b o hb hn) hn, kk _ _ (k35 _ _ (k23 _ _ y3 sl0n) sl0n) sl0n, W0R0, Nfree _ (free1 g1), NW0, NL0, Nb0, Nfree _ (free1 fsl0)⟩
    have B1u : ∀ {G : Hp}, (∀ b o, H5 b = some o → b ≠ p → G b = some o) → BndN K A G N R1 s.cols s.paper.left s.wide s.across := fun {G} kk => ⟨dR1, q.W1, q.L1, q.b1, sl1, kk _ _ (k45 _ _ z1 R1n) R1n, wayK hset.a1 pW1 fun b o hb hn => kk b o (k5 b o hb hn) hn, kk _ _ (k45 _ _ z3 sl1n) sl1n, W1R1, Nfree _ (free3 g4), NW1, NL1, Nb1, Nfree _ (free3 fsl1)⟩
    have setK : ∀ {G : Hp}, (∀ b o, H b = some o → b ≠ p → G b = some o) → SetA K A G q s := fun {G} kk => hset.other fun b o hb c => kk b o hb (by
      rcases c with (rfl | rfl | rfl | rfl | rfl) | rfl | rfl | rfl | ⟨xs, rfl⟩ | ⟨kv, rfl⟩
      · exact pS
      · exact pW0
      · exact pW1
      · exact ne_of hL0 hp (by intro z; cases z)
      · exact ne_of hL1 hp (by intro z; cases z)
      · obtain ⟨_, hal, _⟩ := hset.ar
        exact ne_of hal hp (by intro z; cases z)
      · exact ne_of hset.hh hp (by intro z; cases z)
      · exact ne_of hset.hf hp (by intro z; cases z)
      · exact ne_of hb hp (by intro z; cases z)
      · exact ne_of hb hp (by intro z; cases z))
    -- the scale as told
    refine ⟨_, rfl, q.S, _, q.dx, _, _, rfl, k5 _ _ hS pS, T.c_SheetSettings, T.na_SheetSettings_scale, lk_SheetSettings_scale, _, rfl, p, _, dx, _, rfl, p5, T.c_SheetPages, T.na_SheetPages_used_scale, of_decide_eq_true rfl, ?_⟩
    rw [nw_SheetPages_3]
    have SP : ∀ (o : HO), upd H5 p o q.S = H5 q.S := fun o => upd_ne pS
    refine ⟨_, rfl, q.S, _, q.dx, _, _, rfl, (SP _).trans (k5 _ _ hS pS), T.c_SheetSettings, T.na_SheetSettings_fit, lk_SheetSettings_fit, rfl, _, rfl, ?_⟩
    refine fork (Hf := upd H5 p (.ins A.C_SheetPages dx [("settings", .ref q.S), ("rows", .ref R0), ("columns", .ref R1), ("used_scale", .int (s.percent : Nat))])) ?_ (fun G => ?_)
    rotate_left
    · cases hs : s.scale with
      | told pp =>
        rw [hs] at hsc
        obtain ⟨rfl, rfl⟩ := hsc
        refine iteF ?_
        have : s.percent = pp := by unfold Si32.St.percent; rw [hs]
        rw [this] at G
        exact G
      | fit a b =>
        rw [hs] at hsc
        obtain ⟨ft, rfl, hft⟩ := hsc
        have kq : ∀ b o, H b = some o → b ≠ p → upd H5 p (.ins A.C_SheetPages dx [("settings", .ref q.S), ("rows", .ref R0), ("columns", .ref R1), ("used_scale", sv)]) b = some o := fun b o hb hn => (upd_ne hn).trans (k5 b o hb hn)
        refine iteT ⟨_, rfl, p, dx, _, rfl, upd_same, (lk_past (by decide +kernel)).trans ((lk_past (by decide +kernel)).trans ((lk_past (by decide +kernel)).trans ((lk_past (by decide +kernel)).trans rfl))), p, q, s, a, b, rfl, ⟨dx, _, R0, R1, upd_same, lk_here, (lk_past (by decide +kernel)).trans lk_here, (lk_past (by decide +kernel)).trans ((lk_past (by decide +kernel)).trans lk_here), (lk_past (by decide +kernel)).trans ((lk_past (by decide +kernel)).trans ((lk_past (by decide +kernel)).trans ((lk_past (by decide +kernel)).trans rfl))), (B0u fun b o hb hn => (upd_ne hn).trans hb).bnd, (B1u fun b o hb hn => (upd_ne hn).trans hb).bnd⟩, setK kq, g, hs, ?_⟩
        refine ⟨_, rfl, p, _, dx, _, rfl, upd_same, T.c_SheetPages, T.na_SheetPages_used_scale, of_decide_eq_true rfl, ?_⟩
        rw [put_used, upd_upd]
        exact G
    have hper := g.percent
    refine ⟨_, rfl, p, _, dx, _, rfl, upd_same, T.c_SheetPages, T.na_SheetPages_page_count, of_decide_eq_true rfl, ?_⟩
    rw [nw_SheetPages_4, upd_upd]
    refine ⟨by show 0 ≤ sizeLine; decide, fun pl hpl => ?_⟩
    have ppl : p ≠ pl := ne_of_none upd_same hpl
    have hpl5 : H5 pl = none := by rw [upd_ne (Ne.symm ppl)] at hpl; exact hpl
    refine ⟨_, rfl, p, _, dx, _, rfl, (upd_ne ppl).trans upd_same, T.c_SheetPages, T.na_SheetPages_area_pages, of_decide_eq_true rfl, ?_⟩
    rw [nw_SheetPages_5]
    have free5 : ∀ {b}, H5 b = none → H b = none := fun {b} h => by
      cases e : H b with
      | none => rfl
      | some o =>
        by_cases hn : b = p
        · subst hn; rw [p5] at h; cases h
        · rw [k5 b o e hn] at h; cases h
    obtain ⟨xs, hal, hxl, hxs⟩ := hset.ar.get
    have alp : q.al ≠ p := ne_of hal hp (by intro z; cases z)
    have k6 : ∀ b o, H5 b = some o → b ≠ p → upd (upd (upd H5 p (.ins A.C_SheetPages dx [("settings", .ref q.S), ("rows", .ref R0), ("columns", .ref R1), ("used_scale", .int (s.percent : Nat)), ("page_count", .int 0)])) pl (.lst [])) p (.ins A.C_SheetPages dx [("settings", .ref q.S), ("rows", .ref R0), ("columns", .ref R1), ("used_scale", .int (s.percent : Nat)), ("page_count", .int 0), ("area_pages", .ref pl)]) b = some o := fun b o hb hn => by
      rw [upd_ne hn, upd_ne (ne_of_none hb hpl5), upd_ne hn]; exact hb
    refine ⟨_, rfl, q.S, _, q.dx, _, _, rfl, k6 _ _ (k5 _ _ hS pS) pS, T.c_SheetSettings, T.na_SheetSettings_areas, lk_SheetSettings_areas, q.al, rfl, ⟨_, SqL.of (k6 _ _ (k5 _ _ hal alp) alp)⟩, ?_⟩
    refine for_list (xs := xs) (fun i σ H' => (∃ y2 y3 y4 y5 y6, σ = [some (.ref p), some (.ref q.S), y2, y3, y4, y5, y6]) ∧ H' p = some (.ins A.C_SheetPages dx (F_SheetPages (.ref q.S) (.ref R0) (.ref R1) (.int (s.percent : Nat)) (.int (firstP s s.percent s.areas i : Nat)) (.ref pl))) ∧
      (∃ ps : List Addr, H' pl = some (.lst (ps.map V.ref)) ∧ ps.length = i ∧ ∀ (j : Nat) x a, ps[j]? = some x → s.areas[j]? = some a → APAt A H' (fun b => b ≠ p ∧ b ≠ pl ∧ H b = none) x j (firstP s s.percent s.areas j) (s.rowBands s.percent a) (s.colBands s.percent a) s.over) ∧
      ∀ b o, H5 b = some o → b ≠ p → H' b = some o) ?_ ?_ ?_ ?_
    · exact ⟨⟨_, _, _, _, _, rfl⟩, upd_same, ⟨[], (upd_ne (Ne.symm ppl)).trans upd_same, rfl, fun j x a h => by simp at h⟩, k6⟩
    · rintro i σ H' _ ⟨_, _, _, kk⟩
      exact SqL.of (kk _ _ (k5 _ _ hal alp) alp)
    · rintro i v σ H' hv ⟨⟨y2, y3, y4, y5, y6, rfl⟩, hp', ⟨ps, hps, hpsl, hpa⟩, kk⟩
      obtain ⟨t, a, rfl, hia, ht⟩ := hxs i v hv
      rw [areaV_eq] at ht
      obtain ⟨r1, r2, r3, r4⟩ := g.area hia
      have hi32 : i < 32 := by
        have := (List.getElem?_eq_some_iff.mp hia).1
        have := g.areasN
        omega
      have tp : t ≠ p := ne_of ht hp (by intro z; cases z)
      have ht' : H' t = some (.tup [.int (a.row0 : Nat), .int (a.col0 : Nat), .int (a.row1 : Nat), .int (a.col1 : Nat)]) := kk _ _ (k5 _ _ ht tp) tp
      have B0' := B0u kk
      have B1' := B1u kk
      obtain ⟨_, _, _, _, _, hR0, _⟩ := id B0'
      obtain ⟨_, _, _, _, _, hR1, _⟩ := id B1'
      obtain ⟨l1, l2⟩ := cntA_pos g hia s.percent
      -- the bands of rows
      refine ⟨_, rfl, p, _, dx, _, _, rfl, hp', T.c_SheetPages, T.na_SheetPages_rows, lk_SheetPages_rows, R0, _, _, rfl, hR0, nm_WayBands_find_bands, _, rfl, t, _, 0, .int (a.row0 : Nat), rfl, rfl, SqT.of ht', rfl, _, rfl, t, _, 2, .int (a.row1 : Nat), rfl, rfl, SqT.of ht', rfl, _, rfl, p, _, dx, _, _, rfl, hp', T.c_SheetPages, T.na_SheetPages_used_scale, lk_SheetPages_used_scale, ?_⟩
      refine ⟨R0, s.rows, s.paper.top, s.tall, s.down, a.row0, a.row1, s.percent, rfl, B0'.bnd, g.gw0.1, r1, by rw [g.gw0.2]; exact r2, by omega, by omega, fun Ha rb sa hrb hrbl => ?_⟩
      -- of columns
      have hpa1 : Ha p = _ := sa _ _ hp'
      refine ⟨_, rfl, p, _, dx, _, _, rfl, hpa1, T.c_SheetPages, T.na_SheetPages_columns, lk_SheetPages_columns, R1, _, _, rfl, sa _ _ hR1, nm_WayBands_find_bands, _, rfl, t, _, 1, .int (a.col0 : Nat), rfl, rfl, SqT.of (sa _ _ ht'), rfl, _, rfl, t, _, 3, .int (a.col1 : Nat), rfl, rfl, SqT.of (sa _ _ ht'), rfl, _, rfl, p, _, dx, _, _, rfl, hpa1, T.c_SheetPages, T.na_SheetPages_used_scale, lk_SheetPages_used_scale, ?_⟩
      refine ⟨R1, s.cols, s.paper.left, s.wide, s.across, a.col0, a.col1, s.percent, rfl, B1'.bnd.keep sa, g.gw1.1, r3, by rw [g.gw1.2]; exact r4, by omega, by omega, fun Hb cb sb hcb hcbl => ?_⟩
      have sab := sa.trans sb
      have hpb : Hb p = _ := sab _ _ hp'
      have hplb : Hb pl = _ := sab _ _ hps
      -- the area's place, its pages
      refine ⟨_, rfl, p, _, dx, _, _, rfl, hpb, T.c_SheetPages, T.na_SheetPages_area_pages, lk_SheetPages_area_pages, pl, _, rfl, .inl (SqL.of hplb), ?_⟩
      refine ⟨_, rfl, _, rfl, p, _, dx, _, _, rfl, hpb, T.c_SheetPages, T.na_SheetPages_page_count, lk_SheetPages_page_count, _, rfl, _, rfl, _, rfl, q.S, _, q.dx, _, _, rfl, sab _ _ (kk _ _ (k5 _ _ hS pS) pS), T.c_SheetSettings, T.na_SheetSettings_beside_first, lk_SheetSettings_beside_first, fun x dx' g1' g2' g3' => ?_⟩
      refine ⟨x, dx', _, _, _, _, _, rfl, upd_same, rfl, ?_⟩
      rw [upd_upd]
      have xp : p ≠ x := ne_of_none hpb g1'
      have xpl : pl ≠ x := ne_of_none hplb g1'
      have kx : ∀ b o, Hb b = some o → upd (upd Hb dx' (.own x)) x (.ins A.C_AreaPages dx' (F_AreaPages (.int (List.length (ps.map V.ref) : Nat)) (.int (firstP s s.percent s.areas i : Nat)) (.ref rb) (.ref cb) (.bl s.over))) b = some o := fun b o hb => by
        rw [upd_ne (ne_of_none hb g1'), upd_ne (ne_of_none hb g2')]; exact hb
      refine ⟨_, rfl, p, _, dx, _, _, rfl, kx _ _ hpb, T.c_SheetPages, T.na_SheetPages_area_pages, lk_SheetPages_area_pages, .inl ⟨rfl, _, SqL.of (kx _ _ hplb)⟩, _, rfl, pl, _, _, rfl, rfl, kx _ _ hplb, by rw [List.length_map, hpsl, sizeLine_eq]; omega, ?_⟩
      generalize hHc : upd (upd (upd Hb dx' (.own x)) x (.ins A.C_AreaPages dx' (F_AreaPages (.int (List.length (ps.map V.ref) : Nat)) (.int (firstP s s.percent s.areas i : Nat)) (.ref rb) (.ref cb) (.bl s.over)))) pl (.lst (ps.map V.ref ++ [.ref x])) = Hc
      have kc : ∀ b o, Hb b = some o → b ≠ pl → Hc b = some o := fun b o hb hn => by rw [← hHc, upd_ne hn]; exact kx b o hb
      have hpc : Hc p = _ := kc _ _ hpb ppl
      have hplc : Hc pl = some (.lst ((ps ++ [x]).map V.ref)) := by rw [← hHc, upd_same, List.map_append]; rfl
      have hxc : Hc x = some (.ins A.C_AreaPages dx' (F_AreaPages (.int (i : Nat)) (.int (firstP s s.percent s.areas i : Nat)) (.ref rb) (.ref cb) (.bl s.over))) := by
        rw [← hHc, upd_ne (Ne.symm xpl), upd_same, List.length_map, hpsl]
      have lst_ne : ∀ {b : Addr} {l : List Si32.Band} {G : Hp}, BandsL G b l → ∃ o, G b = some (.lst o) := fun h => by obtain ⟨ts, h, _⟩ := h; exact ⟨_, h⟩
      have rbn : rb ≠ pl := fun z => by rw [z, hps] at hrb; cases hrb
      have cbn : cb ≠ pl := fun z => by rw [z, sa _ _ hps] at hcb; cases hcb
      have kb : ∀ {b : Addr} {l : List Si32.Band} {G : Hp}, BandsL G b l → Same G Hb → b ≠ pl → BandsL Hc b l := fun {b l G} h sg hn => h.keep fun c o hc z => kc c o (sg c o hc) (by
        rcases z with rfl | ⟨us, rfl⟩
        · exact hn
        · exact ne_of (sg _ _ hc) hplb (by intro z; cases z))
      have hrbc := kb hrbl sb rbn
      have hcbc := kb hcbl (Same.refl _) cbn
      have rbp : rb ≠ p := fun z => by rw [z, hp'] at hrb; cases hrb
      have cbp : cb ≠ p := fun z => by rw [z, hpa1] at hcb; cases hcb
      have freeH : ∀ {b}, H' b = none → H b = none := fun {b} h => by
        cases e : H b with
        | none => rfl
        | some o =>
          by_cases hn : b = p
          · subst hn; rw [hp'] at h; cases h
          · rw [kk b o (k5 b o e hn) hn] at h; cases h
      have hap : APAt A Hc (fun b => b ≠ p ∧ b ≠ pl ∧ H b = none) x i (firstP s s.percent s.areas i) (s.rowBands s.percent a) (s.colBands s.percent a) s.over :=
        ⟨dx', rb, cb, hxc, hrbc, hcbc, ⟨Ne.symm xp, Ne.symm xpl, freeH (sab.free g1')⟩, ⟨rbp, rbn, freeH hrb⟩, ⟨cbp, cbn, freeH (sa.free hcb)⟩⟩
      have nmx : (F_AreaPages (.int (i : Nat)) (.int (firstP s s.percent s.areas i : Nat)) (.ref rb) (.ref cb) (.bl s.over)).lookup ("count_pages" : Str) = none := nm_AreaPages_count_pages
      refine ⟨_, rfl, p, _, dx, _, _, rfl, hpc, T.c_SheetPages, T.na_SheetPages_page_count, lk_SheetPages_page_count, _, rfl, x, dx', _, rfl, hxc, nmx, _, x, i, _, _, _, _, rfl, hap, by omega, ?_⟩
      refine ⟨_, _, rfl, rfl, _, _, hpc, of_decide_eq_true rfl, ?_⟩
      rw [put_SheetPages_page_count]
      refine ⟨⟨_, _, _, _, _, rfl⟩, ?_, ⟨ps ++ [x], (upd_ne (Ne.symm ppl)).trans hplc, by rw [List.length_append, hpsl]; rfl, fun j x' a' q1 q2 => ?_⟩, fun b o hb hn => ?_⟩
      · rw [upd_same, firstP_succ s s.percent s.areas hia]
        rfl
      · have step : ∀ b o, Hc b = some o → ((b ≠ p ∧ b ≠ pl ∧ H b = none) ∨ ∃ us, o = .tup us) → upd Hc p (.ins A.C_SheetPages dx (F_SheetPages (.ref q.S) (.ref R0) (.ref R1) (.int (s.percent : Nat)) (.int ((firstP s s.percent s.areas i : Nat) + ((s.rowBands s.percent a).length * (s.colBands s.percent a).length : Nat) : Int)) (.ref pl))) b = some o := fun b o hb c => by
          rw [upd_ne]
          · exact hb
          · rcases c with c | ⟨us, rfl⟩
            · exact c.1
            · exact ne_of hb hpc (by intro z; cases z)
        rcases Nat.lt_or_ge j ps.length with h | h
        · rw [List.getElem?_append_left h] at q1
          refine ((hpa j x' a' q1 q2).keep (N' := fun b => b ≠ p ∧ b ≠ pl ∧ H b = none) (H' := Hc) (fun b o hb c => kc b o (sab b o hb) ?_) (fun b o _ n => n)).keep step fun b o _ n => n
          rcases c with c | ⟨us, rfl⟩
          · exact c.2.1
          · exact ne_of hb hps (by intro z; cases z)
        · rw [List.getElem?_append_right h] at q1
          have e8 : j - ps.length = 0 := by
            rcases Nat.eq_zero_or_pos (j - ps.length) with h0 | h0
            · exact h0
            · rw [List.getElem?_eq_none_iff.mpr (by simp; omega)] at q1; cases q1
          rw [e8] at q1
          have e9 : x = x' := Option.some.inj q1
          subst e9
          have e10 : j = i := by omega
          subst e10
          rw [hia] at q2
          have e11 := Option.some.inj q2
          subst e11
          exact hap.keep step fun b o _ n => n
      · rw [upd_ne hn]
        exact kc b o (sab b o (kk b o hb hn)) (ne_of_none hb hpl5)
    · rintro σ H' ⟨_, hp', ⟨ps, hps, hpsl, hpa⟩, kk⟩
      rw [hxl] at hp' hpsl
      rw [← count_eq] at hp'
      refine k H' ⟨dx, R0, R1, pl, ps, hp', B0u kk, B1u kk, hps, hpsl, fun j x a q1 q2 => (hpa j x a q1 q2).keep (fun b o hb _ => hb) (fun b o _ n => Nfree b n.2.2), Np, Nfree _ (free5 hpl5)⟩ fun b o hb hn => kk b o (k5 b o hb hn) hn
end
end Sh

namespace Sh
open PySem PySem.Spec PyProof.Rows L2
open PySem.W (Codec)
/-! ### a new list of numbers that grows -/
theorem iv_snoc (l : List Int) (z : Int) : iv l ++ [V.int z] = iv (l ++ [z]) := by rw [iv_app]; rfl
def areaAns (s : Si32.St) (a : Si32.Area) : List Int := Si32.ints [(s.rowBands s.percent a).length, (s.colBands s.percent a).length]
section
variable {P : Program} {w : World} {K : PySem.W.Frag} {mg : Str → Option Value} {base : Heap} {A : Ad}
/-! ### SheetPages.tell_pages -/
def spTellPages (K : PySem.W.Frag) (A : Ad) : Sp := fun vs H Q _ => ∃ (p S : Addr) (N : Addr → Prop) (s : Si32.St), vs = [.ref p] ∧ PgAt K A H N p S s ∧ Good s ∧
  ∀ (H' : Hp) (r : Addr), Same H H' → H r = none → H' r = some (.lst (iv ((s.count : Int) :: (s.percent : Int) :: s.areas.flatMap (areaAns s)))) → Q (.ref r) H'
theorem ok_TellPages (T : Txt K mg A) : Ok P w K mg base CX0 1 A.f_SheetPages_tell_pages p_SheetPages_tell_pages (spTellPages K A) := by
  obtain ⟨fd, F, B⟩ := T.fn_SheetPages_tell_pages.ex
  have nd := sc_SheetPages_tell_pages.nd
  refine ⟨fd, B, F.ok sc_SheetPages_tell_pages (fun vs H Q E h => ?_) (fun cdv A' outer sh H vs Q E hr h => ⟨_,
      (pss_cons (ps_set (i := 1) nd rfl (Or.inl rfl) (pe_lst (pa_cons (pe_fld (pv 0) rfl) (pa_cons (pe_fld (pv 0) rfl) pa_nil))))
      (pss_cons (ps_for PassesOwn.never rfl (pi_list (pe_fld (pv 0) rfl)) (pg_name (i := 2) nd rfl (Or.inl rfl)) (pss_cons (ps_expr (pe_bm PySem.F.plainAttrs_list PySem.F.slot_list_append PySem.F.type_list_append mt_append (pv 1) (pa_cons (pe_callB call_len_seq (by rfl) T.bl_len PySem.boot_len (pa_cons (pe_fld (pv 2) rfl) pa_nil)) pa_nil)))
        (pss_one (ps_expr (pe_bm PySem.F.plainAttrs_list PySem.F.slot_list_append PySem.F.type_list_append mt_append (pv 1) (pa_cons (pe_callB call_len_seq (by rfl) T.bl_len PySem.boot_len (pa_cons (pe_fld (pv 2) rfl) pa_nil)) pa_nil))))))
      (pss_one (ps_ret (pv 1))))), ?_⟩)⟩
  · obtain ⟨p, S, N, s, rfl, _⟩ := h
    rfl
  · obtain ⟨p, S, N, s, rfl, hpg, g, k⟩ := h
    obtain ⟨dx, R0, R1, pl, xs, hp, hB0, hB1, hpl, hxl, hap, Np, Npl⟩ := hpg.ex
    refine ⟨_, rfl, p, _, dx, _, _, rfl, hp, T.c_SheetPages, T.na_SheetPages_page_count, lk_SheetPages_page_count, _, rfl, p, _, dx, _, _, rfl, hp, T.c_SheetPages, T.na_SheetPages_used_scale, lk_SheetPages_used_scale, by show 2 ≤ sizeLine; decide, fun r hr0 => ?_⟩
    have k0 : Same H (upd H r (.lst [.int (s.count : Nat), .int (s.percent : Nat)])) := fun b o hb => (upd_ne (ne_of_none hb hr0)).trans hb
    refine ⟨_, rfl, p, _, dx, _, _, rfl, k0 _ _ hp, T.c_SheetPages, T.na_SheetPages_area_pages, lk_SheetPages_area_pages, pl, rfl, ⟨_, SqL.of (k0 _ _ hpl)⟩, ?_⟩
    have h32 := g.areasN
    refine for_list (xs := xs.map V.ref) (fun i σ H' => (∃ y, σ = [some (.ref p), some (.ref r), y]) ∧ Same H H' ∧ H' r = some (.lst (iv ((s.count : Int) :: (s.percent : Int) :: (s.areas.take i).flatMap (areaAns s)))) ∧ ((s.areas.take i).flatMap (areaAns s)).length ≤ 2 * i) ⟨⟨_, rfl⟩, k0, upd_same, Nat.le_refl _⟩ ?_ ?_ ?_
    · rintro i σ H' _ ⟨_, kk, _⟩
      exact SqL.of (kk _ _ hpl)
    · rintro i v σ H' hv ⟨⟨y, rfl⟩, kk, hr', hln⟩
      rw [List.getElem?_map] at hv
      obtain ⟨x, hx, rfl⟩ : ∃ x, xs[i]? = some x ∧ v = .ref x := by
        cases e : xs[i]? with
        | none => rw [e] at hv; cases hv
        | some x => rw [e] at hv; exact ⟨x, rfl, (Option.some.inj hv).symm⟩
      have hi : i < s.areas.length := by rw [← hxl]; exact (List.getElem?_eq_some_iff.mp hx).1
      have ha := List.getElem?_eq_getElem hi
      obtain ⟨dx', rb, cb, hx', hrb, hcb, _⟩ := hap i x _ hx ha
      obtain ⟨us, z1, z2⟩ := hrb.sq
      obtain ⟨ws, y1, y2⟩ := hcb.sq
      have rx : r ≠ x := Ne.symm (ne_of_none hx' hr0)
      have rrb : rb ≠ r := ne_of_none z1 hr0
      have rcb : cb ≠ r := ne_of_none y1 hr0
      have hsz : (iv ((s.count : Int) :: (s.percent : Int) :: (s.areas.take i).flatMap (areaAns s))).length + 5 < sizeLine := by
        rw [iv_len, List.length_cons, List.length_cons, sizeLine_eq]; omega
      refine ⟨_, rfl, .inl ⟨rfl, _, SqL.of hr'⟩, _, rfl, x, _, dx', _, _, rfl, kk _ _ hx', T.c_AreaPages, T.na_AreaPages_row_bands, lk_AreaPages_row_bands, rb, _, rfl, .inl (SqL.of (kk _ _ z1)), r, _, _, rfl, rfl, hr', by omega, ?_⟩
      rw [iv_snoc]
      refine ⟨_, rfl, .inl ⟨rfl, _, SqL.of upd_same⟩, _, rfl, x, _, dx', _, _, rfl, (upd_ne (Ne.symm rx)).trans (kk _ _ hx'), T.c_AreaPages, T.na_AreaPages_column_bands, lk_AreaPages_column_bands, cb, _, rfl, .inl (SqL.of ((upd_ne rcb).trans (kk _ _ y1))), r, _, _, rfl, rfl, upd_same, by rw [iv_len] at hsz ⊢; rw [List.length_append]; show _ + 1 < _; omega, ?_⟩
      rw [iv_snoc, upd_upd]
      refine ⟨⟨_, rfl⟩, fun b o hb => (upd_ne (ne_of_none hb hr0)).trans (kk b o hb), ?_, ?_⟩
      · rw [upd_same, take_snoc ha, List.flatMap_append, z2, y2]
        simp [areaAns, Si32.ints]
      · rw [take_snoc ha, List.flatMap_append, List.length_append]
        show _ + 2 ≤ _
        omega
    · rintro σ H' ⟨⟨y, rfl⟩, kk, hr', _⟩
      rw [List.length_map, hxl, List.take_length] at hr'
      exact ⟨_, rfl, k H' r kk hr0 hr'⟩
/-! ### SheetPages.area_pages_with -/
def spWith (K : PySem.W.Frag) (A : Ad) : Sp := fun vs H Q E => ∃ (p S : Addr) (N : Addr → Prop) (s : Si32.St) (n : Nat), vs = [.ref p, .int n] ∧ PgAt K A H N p S s ∧ Good s ∧
  (s.count ≤ n → E (.ref A.X_NoSuchPage) none H) ∧
  ∀ (j : Nat) (a : Si32.Area) (x : Addr), s.areas[j]? = some a → firstP s s.percent s.areas j ≤ n → n < firstP s s.percent s.areas j + cntA s s.percent a → APAt A H N x j (firstP s s.percent s.areas j) (s.rowBands s.percent a) (s.colBands s.percent a) s.over → Q (.ref x) H
theorem ok_With (T : Txt K mg A) : Ok P w K mg base (L2.CX P w) 2 A.f_SheetPages_area_pages_with p_SheetPages_area_pages_with (spWith K A) := by
  obtain ⟨fd, F, B⟩ := T.fn_SheetPages_area_pages_with.ex
  have nd := sc_SheetPages_area_pages_with.nd
  obtain ⟨_, B_AreaPages_count_pages, G_AreaPages_count_pages⟩ := (ok_Count (P := P) (w := w) (base := base) T).ex
  refine ⟨fd, B, F.okX sc_SheetPages_area_pages_with (fun vs H Q E h => ?_) (fun cdv A' outer sh H vs Q E hr h => ?_)⟩
  · obtain ⟨p, S, N, s, n, rfl, _⟩ := h
    rfl
  · have tkE := takes_of (X := cxOf (L2.CX P w) P w K mg base n_SheetPages_area_pages_with "SheetPages.area_pages_with" (defScope s_SheetPages_area_pages_with) A.f_SheetPages_area_pages_with cdv A' outer sh H E) rfl rfl rfl rfl
    have pown := passes_of (X := cxOf (L2.CX P w) P w K mg base n_SheetPages_area_pages_with "SheetPages.area_pages_with" (defScope s_SheetPages_area_pages_with) A.f_SheetPages_area_pages_with cdv A' outer sh H E) rfl
    refine ⟨_,
      (pss_cons (ps_if (pt_cmpR op_ge (pv 1) (pe_fld (pv 0) rfl) (nomark _)) (pss_one (ps_raise rfl tkE (pmk_own0 PySem.F.excBase_Exception T.x_NoSuchPage T.g_NoSuchPage T.k_NoSuchPage (raises_own T.b_NoSuchPage T.t_NoSuchPage) (by exact rfl)))) pss_nil)
      (pss_cons (ps_set (i := 2) nd rfl (Or.inl rfl) pe_int)
      (pss_cons (ps_while pown (pt_cmpR op_ge (pv 1) (pe_op op_add (pe_fld (pe_ix ix_list (pe_fld (pv 0) rfl) (pv 2) (fun _ _ => rfl)) rfl) (pe_meth0 (pe_ix ix_list (pe_fld (pv 0) rfl) (pv 2) (fun _ _ => rfl)) T.c_AreaPages T.m_AreaPages_count_pages G_AreaPages_count_pages hr B_AreaPages_count_pages .nil pass0)) (nomark _)) (pss_one (ps_aug (i := 2) nd rfl (.inl rfl) pe_int ip_add)))
      (pss_one (ps_ret (pe_ix ix_list (pe_fld (pv 0) rfl) (pv 2) (fun _ _ => rfl))))))), ?_⟩
    obtain ⟨p, S, N, s, n, rfl, hpg, g, e1, k⟩ := h
    obtain ⟨dx, R0, R1, pl, xs, hp, hB0, hB1, hpl, hxl, hap, Np, Npl⟩ := hpg.ex
    refine ⟨_, rfl, _, rfl, p, _, dx, _, _, rfl, hp, T.c_SheetPages, T.na_SheetPages_page_count, lk_SheetPages_page_count, _, _, rfl, rfl, _, rfl, ite2 (fun c => e1 ?_) (fun c => ?_)⟩
    · simp only [decide_eq_true_eq] at c; omega
    simp only [decide_eq_true_eq] at c
    have hn : n < firstP s s.percent s.areas s.areas.length := by rw [← count_eq]; omega
    have at_ : ∀ {j : Nat}, firstP s s.percent s.areas j ≤ n → j ≤ s.areas.length → ∃ x a, (xs.map V.ref)[j]? = some (.ref x) ∧ s.areas[j]? = some a ∧ APAt A H N x j (firstP s s.percent s.areas j) (s.rowBands s.percent a) (s.colBands s.percent a) s.over := fun {j} h1 h2 => by
      have hj : j < s.areas.length := by
        rcases Nat.lt_or_ge j s.areas.length with h | h
        · exact h
        · have : j = s.areas.length := by omega
          rw [this] at h1; omega
      have ha := List.getElem?_eq_getElem hj
      have hx := List.getElem?_eq_getElem (show j < xs.length by omega)
      exact ⟨_, _, by rw [List.getElem?_map, hx]; rfl, ha, hap j _ _ hx ha⟩
    refine while_by (fun σ H' => H' = H ∧ ∃ j : Nat, σ = [some (.ref p), some (.int n), some (.int (j : Nat))] ∧ j ≤ s.areas.length ∧ firstP s s.percent s.areas j ≤ n) (fun σ _ => match σ with | [_, _, some (.int z)] => s.areas.length - z.toNat | _ => 0) ⟨rfl, 0, rfl, Nat.zero_le _, Nat.zero_le _⟩ ?_ ?_
    · rintro σ H1 ⟨rfl, j, rfl, hj, hf⟩
      obtain ⟨x, a, hx, ha, hax⟩ := at_ hf hj
      obtain ⟨dx', rb, cb, hxi, _⟩ := id hax
      obtain ⟨l1, l2⟩ := cntA_pos g ha s.percent
      refine ⟨_, rfl, _, rfl, p, _, dx, _, _, rfl, hp, T.c_SheetPages, T.na_SheetPages_area_pages, lk_SheetPages_area_pages, _, rfl, pl, _, j, .ref x, rfl, rfl, SqL.of hpl, atI_nat hx, x, _, dx', _, _, rfl, hxi, T.c_AreaPages, T.na_AreaPages_first_page, lk_AreaPages_first_page, ?_⟩
      refine ⟨_, rfl, p, _, dx, _, _, rfl, hp, T.c_SheetPages, T.na_SheetPages_area_pages, lk_SheetPages_area_pages, _, rfl, pl, _, j, .ref x, rfl, rfl, SqL.of hpl, atI_nat hx, x, dx', _, rfl, hxi, nm_AreaPages_count_pages, N, x, j, _, _, _, _, rfl, hax, by omega, _, _, rfl, rfl, _, _, rfl, rfl, _, rfl, ite2 (fun c2 => ?_) (fun c2 => ?_)⟩
      · simp only [decide_eq_true_eq] at c2
        have hnext := firstP_succ s s.percent s.areas ha
        have hj' := (List.getElem?_eq_some_iff.mp ha).1
        refine ⟨_, rfl, _, _, rfl, rfl, ⟨rfl, j + 1, rfl, by omega, ?_⟩, ?_⟩
        · rw [hnext]
          unfold cntA
          have c3 : ((firstP s s.percent s.areas j : Nat) : Int) + (((s.rowBands s.percent a).length * (s.colBands s.percent a).length : Nat) : Int) ≤ (n : Int) := c2
          omega
        · show s.areas.length - ((j : Int) + 1).toNat < s.areas.length - ((j : Int)).toNat
          omega
      · simp only [decide_eq_true_eq] at c2
        have c3 : ¬ ((firstP s s.percent s.areas j : Nat) : Int) + (((s.rowBands s.percent a).length * (s.colBands s.percent a).length : Nat) : Int) ≤ (n : Int) := c2
        refine ⟨_, rfl, p, _, dx, _, _, rfl, hp, T.c_SheetPages, T.na_SheetPages_area_pages, lk_SheetPages_area_pages, _, rfl, pl, _, j, .ref x, rfl, rfl, SqL.of hpl, atI_nat hx, k j a x ha hf ?_ hax⟩
        unfold cntA
        omega
    · exact fun σ H Q Q' hq ⟨v, e, v1, e1, p1, C1, d1, f1, u1, e2, h1, c1, n1, l1, v2, e3, pl1, xs1, i1, w1, e4, e5, s1, t1, x1, D1, d2, f2, u2, e6, h2, c2, n2, l2, v3, e7, p2, C2, d3, f3, u3, e8, h3, c3, n3, l3, v4, e9, pl2, xs2, i2, w2, e10, e11, s2, t2, x2, d4, f4, e12, h4, m4, N, x3, k3, fi, rb, cb, ov, e13, ha, hl, i3, j3, e14, e15, i4, j4, e16, e17, kk, e18, q⟩ =>
        ⟨v, e, v1, e1, p1, C1, d1, f1, u1, e2, h1, c1, n1, l1, v2, e3, pl1, xs1, i1, w1, e4, e5, s1, t1, x1, D1, d2, f2, u2, e6, h2, c2, n2, l2, v3, e7, p2, C2, d3, f3, u3, e8, h3, c3, n3, l3, v4, e9, pl2, xs2, i2, w2, e10, e11, s2, t2, x2, d4, f4, e12, h4, m4, N, x3, k3, fi, rb, cb, ov, e13, ha, hl, i3, j3, e14, e15, i4, j4, e16, e17, kk, e18, hq _ _ q⟩
end
end Sh

namespace Sh
open PySem PySem.Spec PyProof.Rows L2
open PySem.W (Codec)
theorem Good.paper_small {s : Si32.St} (g : Good s) : s.paper.top ≤ 100000 ∧ s.tall ≤ 100000 ∧ s.paper.left ≤ 100000 ∧ s.wide ≤ 100000 := by
  have h := (good_sides s.paper).mp g.paper
  unfold badSide at h
  unfold Si32.St.tall Si32.St.wide
  omega
theorem page_eq {s : Si32.St} {n j : Nat} {a : Si32.Area} (ha : s.areas[j]? = some a) (h1 : firstP s s.percent s.areas j ≤ n) (h2 : n < firstP s s.percent s.areas j + cntA s s.percent a) : s.page n = pageOf s s.percent j a (n - firstP s s.percent s.areas j) := by
  unfold Si32.St.page
  rw [pageFrom_at s s.percent s.areas 0 j n a ha h1 h2, Nat.zero_add]
theorem page_none {s : Si32.St} {n : Nat} (h : s.count ≤ n) : s.page n = none := by
  unfold Si32.St.page
  exact pageFrom_none s s.percent s.areas 0 n (by rw [← count_eq]; exact h)
theorem row_mem {s : Si32.St} (g : Good s) {j : Nat} {a : Si32.Area} (ha : s.areas[j]? = some a) {p i : Nat} {y : Si32.Band} (hy : (s.rowBands p a)[i]? = some y) : y.1 ≤ y.2 ∧ y.2 < s.rows.most := by
  obtain ⟨r1, r2, _⟩ := g.area ha
  have := chain_mem (bands_chain s.rows s.tall p r1) (List.mem_of_getElem? hy)
  rw [g.gw0.2]
  omega
theorem col_mem {s : Si32.St} (g : Good s) {j : Nat} {a : Si32.Area} (ha : s.areas[j]? = some a) {p i : Nat} {y : Si32.Band} (hy : (s.colBands p a)[i]? = some y) : y.1 ≤ y.2 ∧ y.2 < s.cols.most := by
  obtain ⟨_, _, r1, r2⟩ := g.area ha
  have := chain_mem (bands_chain s.cols s.wide p r1) (List.mem_of_getElem? hy)
  rw [g.gw1.2]
  omega
section
variable {P : Program} {w : World} {K : PySem.W.Frag} {mg : Str → Option Value} {base : Heap} {A : Ad}
/-! ### SheetPages.tell_page -/
def spTellPage (K : PySem.W.Frag) (A : Ad) : Sp := fun vs H Q E => ∃ (p S : Addr) (N : Addr → Prop) (s : Si32.St) (n : Nat), vs = [.ref p, .int n] ∧ PgAt K A H N p S s ∧ Good s ∧
  (s.page n = none → E (.ref A.X_NoSuchPage) none H) ∧
  ∀ x, s.page n = some x → ∀ (H' : Hp) (r : Addr), Same H H' → H r = none → H' r = some (.lst (iv (0 :: s.toldPage x))) → Q (.ref r) H'
theorem ok_TellPage (T : Txt K mg A) : Ok P w K mg base (L2.CX P w) 4 A.f_SheetPages_tell_page p_SheetPages_tell_page (spTellPage K A) := by
  obtain ⟨fd, F, B⟩ := T.fn_SheetPages_tell_page.ex
  have nd := sc_SheetPages_tell_page.nd
  obtain ⟨_, B_SheetPages_area_pages_with, G_SheetPages_area_pages_with⟩ := (ok_With (P := P) (w := w) (base := base) T).ex
  obtain ⟨_, B_AreaPages_row_band_of, G_AreaPages_row_band_of⟩ := (ok_RowBand (P := P) (w := w) (base := base) T).ex
  obtain ⟨_, B_AreaPages_column_band_of, G_AreaPages_column_band_of⟩ := (ok_ColBand (P := P) (w := w) (base := base) T).ex
  obtain ⟨_, B_WayBands_count_again, G_WayBands_count_again⟩ := (ok_CountAgain (P := P) (w := w) (base := base) T).ex
  obtain ⟨_, B_WayBands_page_size, G_WayBands_page_size⟩ := (ok_PSize (P := P) (w := w) (base := base) T).ex
  refine ⟨fd, B, F.okX sc_SheetPages_tell_page (fun vs H Q E h => ?_) (fun cdv A' outer sh H vs Q E hr h => ?_)⟩
  · obtain ⟨p, S, N, s, n, rfl, _⟩ := h
    rfl
  · have tkE := takes_of (X := cxOf (L2.CX P w) P w K mg base n_SheetPages_tell_page "SheetPages.tell_page" (defScope s_SheetPages_tell_page) A.f_SheetPages_tell_page cdv A' outer sh H E) rfl rfl rfl rfl
    have pX := passes_call tkE (E := E) (fun _ _ _ _ h => h)
    refine ⟨_,
      (pss_cons (ps_set (i := 2) nd rfl (Or.inl rfl) (pe_meth (pv 0) T.c_SheetPages T.m_SheetPages_area_pages_with G_SheetPages_area_pages_with (hr.mono (by decide)) B_SheetPages_area_pages_with .nil pX (pa_cons (pv 1) pa_nil)))
      (pss_cons (ps_set (i := 3) nd rfl (Or.inl rfl) (pe_meth (pv 2) T.c_AreaPages T.m_AreaPages_row_band_of G_AreaPages_row_band_of (hr.mono (by decide)) B_AreaPages_row_band_of .nil pass0 (pa_cons (pv 1) pa_nil)))
      (pss_cons (ps_set (i := 4) nd rfl (Or.inl rfl) (pe_meth (pv 2) T.c_AreaPages T.m_AreaPages_column_band_of G_AreaPages_column_band_of (hr.mono (by decide)) B_AreaPages_column_band_of .nil pass0 (pa_cons (pv 1) pa_nil)))
      (pss_cons (ps_set (i := 5) nd rfl (Or.inl rfl) (pe_lst (pa_cons pe_int (pa_cons (pe_fld (pv 2) rfl) pa_nil))))
      (pss_cons (ps_expr (pe_bm PySem.F.plainAttrs_list PySem.F.slot_list_extend PySem.F.type_list_extend mt_extendT (pv 5) (pa_cons (pv 3) pa_nil)))
      (pss_cons (ps_expr (pe_bm PySem.F.plainAttrs_list PySem.F.slot_list_extend PySem.F.type_list_extend mt_extendT (pv 5) (pa_cons (pv 4) pa_nil)))
      (pss_cons (ps_expr (pe_bm PySem.F.plainAttrs_list PySem.F.slot_list_append PySem.F.type_list_append mt_append (pv 5) (pa_cons (pe_meth (pe_fld (pv 0) rfl) T.c_WayBands T.m_WayBands_count_again G_WayBands_count_again (hr.mono (by decide)) B_WayBands_count_again .nil pass0 (pa_cons (pe_ix ix_tup (pv 3) pe_int (fun _ _ => rfl)) pa_nil)) pa_nil)))
      (pss_cons (ps_expr (pe_bm PySem.F.plainAttrs_list PySem.F.slot_list_append PySem.F.type_list_append mt_append (pv 5) (pa_cons (pe_meth (pe_fld (pv 0) rfl) T.c_WayBands T.m_WayBands_count_again G_WayBands_count_again (hr.mono (by decide)) B_WayBands_count_again .nil pass0 (pa_cons (pe_ix ix_tup (pv 4) pe_int (fun _ _ => rfl)) pa_nil)) pa_nil)))
      (pss_cons (ps_expr (pe_bm PySem.F.plainAttrs_list PySem.F.slot_list_append PySem.F.type_list_append mt_append (pv 5) (pa_cons (pe_meth (pe_fld (pv 0) rfl) T.c_WayBands T.m_WayBands_page_size G_WayBands_page_size hr B_WayBands_page_size .nil pass0 (pa_cons (pv 4) (pa_cons (pe_fld (pv 0) rfl) pa_nil))) pa_nil)))
      (pss_cons (ps_expr (pe_bm PySem.F.plainAttrs_list PySem.F.slot_list_append PySem.F.type_list_append mt_append (pv 5) (pa_cons (pe_meth (pe_fld (pv 0) rfl) T.c_WayBands T.m_WayBands_page_size G_WayBands_page_size hr B_WayBands_page_size .nil pass0 (pa_cons (pv 3) (pa_cons (pe_fld (pv 0) rfl) pa_nil))) pa_nil)))
      (pss_one (ps_ret (pv 5))))))))))))), ?_⟩
    obtain ⟨p, S, N, s, n, rfl, hpg, g, e1, k⟩ := h
    obtain ⟨dx, R0, R1, pl, xs, hp, hB0, hB1, hpl, hxl, hap, Np, Npl⟩ := hpg.ex
    refine ⟨_, rfl, p, dx, _, rfl, hp, nm_SheetPages_area_pages_with, _, rfl, p, S, N, s, n, rfl, hpg, g, fun c => e1 (page_none c), fun j a x ha h1 h2 hax => ?_⟩
    obtain ⟨dx', rb, cb, hxi, _⟩ := id hax
    obtain ⟨l1, l2⟩ := cntA_pos g ha s.percent
    have hpage := page_eq ha h1 h2
    refine ⟨_, rfl, x, dx', _, rfl, hxi, nm_AreaPages_row_band_of, _, rfl, N, x, j, _, _, _, _, n, rfl, hax, by omega, by omega, h1, h2, fun t y hy ht => ?_⟩
    refine ⟨_, rfl, x, dx', _, rfl, hxi, nm_AreaPages_column_band_of, _, rfl, N, x, j, _, _, _, _, n, rfl, hax, by omega, by omega, h1, h2, fun u z hz hu => ?_⟩
    have hpx : s.page n = some ⟨j, y, z⟩ := by
      rw [hpage]
      unfold pageOf
      rw [hy, hz]
    obtain ⟨y1, y2⟩ := row_mem g ha hy
    obtain ⟨z1, z2⟩ := col_mem g ha hz
    have hper := g.percent
    refine ⟨_, rfl, x, _, dx', _, _, rfl, hxi, T.c_AreaPages, T.na_AreaPages_area_place, lk_AreaPages_area_place, by show 2 ≤ sizeLine; decide, fun r hr0 => ?_⟩
    have kp : ∀ (o : HO) (b : Addr) (ob : HO), H b = some ob → upd H r o b = some ob := fun o b ob hb => (upd_ne (ne_of_none hb hr0)).trans hb
    have hB0' : ∀ o : HO, BndAt K A (upd H r o) R0 s.rows s.paper.top s.tall s.down := fun o => hB0.bnd.keep (kp o)
    have hB1' : ∀ o : HO, BndAt K A (upd H r o) R1 s.cols s.paper.left s.wide s.across := fun o => hB1.bnd.keep (kp o)
    obtain ⟨_, _, _, _, _, hR0, _⟩ := id hB0
    obtain ⟨_, _, _, _, _, hR1, _⟩ := id hB1
    refine ⟨_, rfl, .inl ⟨rfl, _, SqL.of upd_same⟩, _, rfl, r, t, _, _, rfl, rfl, upd_same, SqT.of (kp _ _ _ ht), by show 4 ≤ sizeLine; decide, ?_⟩
    rw [upd_upd]
    refine ⟨_, rfl, .inl ⟨rfl, _, SqL.of upd_same⟩, _, rfl, r, u, _, _, rfl, rfl, upd_same, SqT.of (kp _ _ _ hu), by show 6 ≤ sizeLine; decide, ?_⟩
    rw [upd_upd]
    refine ⟨_, rfl, .inl ⟨rfl, _, SqL.of upd_same⟩, _, rfl, p, _, dx, _, _, rfl, kp _ _ _ hp, T.c_SheetPages, T.na_SheetPages_rows, lk_SheetPages_rows, R0, _, _, rfl, kp _ _ _ hR0, nm_WayBands_count_again, _, rfl, t, _, 0, .int (y.1 : Nat), rfl, rfl, SqT.of (kp _ _ _ ht), rfl, R0, s.rows, _, _, _, y.1, rfl, hB0' _, g.gw0.1, r, _, _, rfl, rfl, upd_same, by show 6 < sizeLine; decide, ?_⟩
    rw [upd_upd]
    refine ⟨_, rfl, .inl ⟨rfl, _, SqL.of upd_same⟩, _, rfl, p, _, dx, _, _, rfl, kp _ _ _ hp, T.c_SheetPages, T.na_SheetPages_columns, lk_SheetPages_columns, R1, _, _, rfl, kp _ _ _ hR1, nm_WayBands_count_again, _, rfl, u, _, 0, .int (z.1 : Nat), rfl, rfl, SqT.of (kp _ _ _ hu), rfl, R1, s.cols, _, _, _, z.1, rfl, hB1' _, g.gw1.1, r, _, _, rfl, rfl, upd_same, by show 7 < sizeLine; decide, ?_⟩
    rw [upd_upd]
    refine ⟨_, rfl, .inl ⟨rfl, _, SqL.of upd_same⟩, _, rfl, p, _, dx, _, _, rfl, kp _ _ _ hp, T.c_SheetPages, T.na_SheetPages_columns, lk_SheetPages_columns, R1, _, _, rfl, kp _ _ _ hR1, nm_WayBands_page_size, _, rfl, _, rfl, p, _, dx, _, _, rfl, kp _ _ _ hp, T.c_SheetPages, T.na_SheetPages_used_scale, lk_SheetPages_used_scale, R1, u, s.cols, _, _, _, z, s.percent, rfl, hB1' _, g.gw1.1, kp _ _ _ hu, z1, z2, by omega, r, _, _, rfl, rfl, upd_same, by show 8 < sizeLine; decide, ?_⟩
    rw [upd_upd]
    refine ⟨_, rfl, .inl ⟨rfl, _, SqL.of upd_same⟩, _, rfl, p, _, dx, _, _, rfl, kp _ _ _ hp, T.c_SheetPages, T.na_SheetPages_rows, lk_SheetPages_rows, R0, _, _, rfl, kp _ _ _ hR0, nm_WayBands_page_size, _, rfl, _, rfl, p, _, dx, _, _, rfl, kp _ _ _ hp, T.c_SheetPages, T.na_SheetPages_used_scale, lk_SheetPages_used_scale, R0, t, s.rows, _, _, _, y, s.percent, rfl, hB0' _, g.gw0.1, kp _ _ _ ht, y1, y2, by omega, r, _, _, rfl, rfl, upd_same, by show 9 < sizeLine; decide, ?_⟩
    rw [upd_upd]
    exact ⟨_, rfl, k _ hpx _ r (fun b o hb => kp _ b o hb) hr0 upd_same⟩
/-! ### SheetPages.tell_where -/
theorem where_ix {i c j : Nat} (hj : j < c) : (i * c + j) / c = i ∧ (i * c + j) % c = j := by
  have hc : 0 < c := by omega
  rw [Nat.mul_comm]
  refine ⟨?_, ?_⟩
  · rw [Nat.mul_add_div hc, Nat.div_eq_of_lt hj, Nat.add_zero]
  · rw [Nat.mul_add_mod, Nat.mod_eq_of_lt hj]
def whereAns (x : Nat × Nat × Nat) : List Int := Si32.ints [x.1, x.2.1, x.2.2]
def spTellWhere (K : PySem.W.Frag) (A : Ad) : Sp := fun vs H Q E => ∃ (p : Addr) (q : Ads) (N : Addr → Prop) (s : Si32.St) (row col : Nat), vs = [.ref p, .int row, .int col] ∧ PgAt K A H N p q.S s ∧ SetA K A H q s ∧ Good s ∧
  ((4096 ≤ row ∨ 256 ≤ col) → E (.ref A.X_OutOfRange) none H) ∧
  (¬ (4096 ≤ row ∨ 256 ≤ col) → ∀ (H' : Hp) (r : Addr), Same H H' → H r = none → H' r = some (.lst (iv (((s.where_ row col).length : Int) :: (s.where_ row col).flatMap whereAns))) → Q (.ref r) H')
theorem ok_TellWhere (T : Txt K mg A) : Ok P w K mg base (L2.CX P w) 5 A.f_SheetPages_tell_where p_SheetPages_tell_where (spTellWhere K A) := by
  obtain ⟨fd, F, B⟩ := T.fn_SheetPages_tell_where.ex
  have nd := sc_SheetPages_tell_where.nd
  obtain ⟨_, B_WaySettings_check_span, G_WaySettings_check_span⟩ := (ok_Check (P := P) (w := w) (base := base) T).ex
  obtain ⟨_, B_AreaPages_row_band_of, G_AreaPages_row_band_of⟩ := (ok_RowBand (P := P) (w := w) (base := base) T).ex
  obtain ⟨_, B_AreaPages_column_band_of, G_AreaPages_column_band_of⟩ := (ok_ColBand (P := P) (w := w) (base := base) T).ex
  obtain ⟨_, B_AreaPages_has_cell, G_AreaPages_has_cell⟩ := (ok_Has (P := P) (w := w) (base := base) T).ex
  obtain ⟨_, B_AreaPages_page_of, G_AreaPages_page_of⟩ := (ok_PageOf (P := P) (w := w) (base := base) T).ex
  obtain ⟨_, B_WayBands_distance, G_WayBands_distance⟩ := (ok_Dist (P := P) (w := w) (base := base) T).ex
  refine ⟨fd, B, F.okX sc_SheetPages_tell_where (fun vs H Q E h => ?_) (fun cdv A' outer sh H vs Q E hr h => ?_)⟩
  · obtain ⟨p, q, N, s, row, col, rfl, _⟩ := h
    rfl
  · have tkE := takes_of (X := cxOf (L2.CX P w) P w K mg base n_SheetPages_tell_where "SheetPages.tell_where" (defScope s_SheetPages_tell_where) A.f_SheetPages_tell_where cdv A' outer sh H E) rfl rfl rfl rfl
    have pX := passes_call tkE (E := E) (fun _ _ _ _ h => h)
    have pown := passes_of (X := cxOf (L2.CX P w) P w K mg base n_SheetPages_tell_where "SheetPages.tell_where" (defScope s_SheetPages_tell_where) A.f_SheetPages_tell_where cdv A' outer sh H E) rfl
    refine ⟨_,
      (pss_cons (ps_expr (pe_meth (pe_ix ix_tup (pe_fld (pe_fld (pv 0) rfl) rfl) pe_int (fun _ _ => rfl)) T.c_WaySettings T.m_WaySettings_check_span G_WaySettings_check_span (hr.mono (by decide)) B_WaySettings_check_span .nil pX (pa_cons (pv 1) (pa_cons (pv 1) pa_nil))))
      (pss_cons (ps_expr (pe_meth (pe_ix ix_tup (pe_fld (pe_fld (pv 0) rfl) rfl) pe_int (fun _ _ => rfl)) T.c_WaySettings T.m_WaySettings_check_span G_WaySettings_check_span (hr.mono (by decide)) B_WaySettings_check_span .nil pX (pa_cons (pv 2) (pa_cons (pv 2) pa_nil))))
      (pss_cons (ps_set (i := 3) nd rfl (Or.inl rfl) pe_int)
      (pss_cons (ps_set (i := 4) nd rfl (Or.inl rfl) (pe_lst pa_nil))
      (pss_cons (ps_for pown rfl (pi_list (pe_fld (pv 0) rfl)) (pg_name (i := 5) nd rfl (Or.inl rfl)) (pss_one (ps_if (pt_truth (pe_meth (pv 5) T.c_AreaPages T.m_AreaPages_has_cell G_AreaPages_has_cell (hr.mono (by decide)) B_AreaPages_has_cell .nil pass0 (pa_cons (pv 1) (pa_cons (pv 2) pa_nil))) (by intro _; rfl)) (pss_cons (ps_set (i := 6) nd rfl (Or.inl rfl) (pe_meth (pv 5) T.c_AreaPages T.m_AreaPages_page_of G_AreaPages_page_of (hr.mono (by decide)) B_AreaPages_page_of .nil pass0 (pa_cons (pv 1) (pa_cons (pv 2) pa_nil))))
          (pss_cons (ps_aug (i := 3) nd rfl (.inl rfl) pe_int ip_add)
          (pss_cons (ps_expr (pe_bm PySem.F.plainAttrs_list PySem.F.slot_list_append PySem.F.type_list_append mt_append (pv 4) (pa_cons (pv 6) pa_nil)))
          (pss_cons (ps_expr (pe_bm PySem.F.plainAttrs_list PySem.F.slot_list_append PySem.F.type_list_append mt_append (pv 4) (pa_cons (pe_meth (pe_fld (pv 0) rfl) T.c_WayBands T.m_WayBands_distance G_WayBands_distance hr B_WayBands_distance .nil pass0 (pa_cons (pv 2) (pa_cons (pe_meth (pv 5) T.c_AreaPages T.m_AreaPages_column_band_of G_AreaPages_column_band_of (hr.mono (by decide)) B_AreaPages_column_band_of .nil pass0 (pa_cons (pv 6) pa_nil)) (pa_cons (pe_fld (pv 0) rfl) pa_nil)))) pa_nil)))
          (pss_one (ps_expr (pe_bm PySem.F.plainAttrs_list PySem.F.slot_list_append PySem.F.type_list_append mt_append (pv 4) (pa_cons (pe_meth (pe_fld (pv 0) rfl) T.c_WayBands T.m_WayBands_distance G_WayBands_distance hr B_WayBands_distance .nil pass0 (pa_cons (pv 1) (pa_cons (pe_meth (pv 5) T.c_AreaPages T.m_AreaPages_row_band_of G_AreaPages_row_band_of (hr.mono (by decide)) B_AreaPages_row_band_of .nil pass0 (pa_cons (pv 6) pa_nil)) (pa_cons (pe_fld (pv 0) rfl) pa_nil)))) pa_nil)))))))) pss_nil)))
      (pss_one (ps_ret (pe_op op_cat (pe_lst (pa_cons (pv 3) pa_nil)) (pv 4))))))))), ?_⟩
    obtain ⟨p, q, N, s, row, col, rfl, hpg, hset, g, e1, k⟩ := h
    obtain ⟨dx, R0, R1, pl, xs, hp, hB0, hB1, hpl, hxl, hap, Np, Npl⟩ := hpg.ex
    obtain ⟨sv, fv, hS, _⟩ := hset.hS
    obtain ⟨⟨dw0, tv0, hW0, _⟩, _⟩ := id hset.a0
    obtain ⟨⟨dw1, tv1, hW1, _⟩, _⟩ := id hset.a1
    have hper := g.percent
    have hps := g.paper_small
    refine ⟨_, rfl, p, _, dx, _, _, rfl, hp, T.c_SheetPages, T.na_SheetPages_settings, lk_SheetPages_settings, q.S, _, q.dx, _, _, rfl, hS, T.c_SheetSettings, T.na_SheetSettings_ways, lk_SheetSettings_ways, q.wt, _, 0, .ref q.W0, rfl, rfl, SqT.of hset.hw, rfl, q.W0, dw0, _, rfl, hW0, nm_WaySettings_check_span, _, rfl, _, rfl, q.W0, dw0, s.rows.most, row, row, _, _, _, _, _, _, _, rfl, hW0, fun c => e1 (.inl ?_), fun c => ?_⟩
    · rw [g.gw0.2] at c
      unfold badSpan at c
      omega
    refine ⟨_, rfl, p, _, dx, _, _, rfl, hp, T.c_SheetPages, T.na_SheetPages_settings, lk_SheetPages_settings, q.S, _, q.dx, _, _, rfl, hS, T.c_SheetSettings, T.na_SheetSettings_ways, lk_SheetSettings_ways, q.wt, _, 1, .ref q.W1, rfl, rfl, SqT.of hset.hw, rfl, q.W1, dw1, _, rfl, hW1, nm_WaySettings_check_span, _, rfl, _, rfl, q.W1, dw1, s.cols.most, col, col, _, _, _, _, _, _, _, rfl, hW1, fun c2 => e1 (.inr ?_), fun c2 => ?_⟩
    · rw [g.gw1.2] at c2
      unfold badSpan at c2
      omega
    have okc : ¬ (4096 ≤ row ∨ 256 ≤ col) := by
      rw [g.gw0.2] at c
      rw [g.gw1.2] at c2
      unfold badSpan at c c2
      omega
    refine ⟨by show 0 ≤ sizeLine; decide, fun r hr0 => ?_⟩
    have k0 : Same H (upd H r (.lst [])) := fun b o hb => (upd_ne (ne_of_none hb hr0)).trans hb
    refine ⟨_, rfl, p, _, dx, _, _, rfl, k0 _ _ hp, T.c_SheetPages, T.na_SheetPages_area_pages, lk_SheetPages_area_pages, pl, rfl, ⟨_, SqL.of (k0 _ _ hpl)⟩, ?_⟩
    have h32 := g.areasN
    refine for_list (xs := xs.map V.ref) (fun i σ H' => ∃ done : List (Nat × Nat × Nat), (∃ y5 y6, σ = [some (.ref p), some (.int row), some (.int col), some (.int (done.length : Nat)), some (.ref r), y5, y6]) ∧ Same H H' ∧ H' r = some (.lst (iv (done.flatMap whereAns))) ∧
      done ++ s.whereFrom s.percent row col (firstP s s.percent s.areas i) (s.areas.drop i) = s.where_ row col ∧ (done.flatMap whereAns).length ≤ 3 * i) ⟨[], ⟨_, _, rfl⟩, k0, upd_same, rfl, Nat.le_refl _⟩ ?_ ?_ ?_
    · rintro i σ H' _ ⟨_, _, kk, _⟩
      exact SqL.of (kk _ _ hpl)
    · rintro i v σ H' hv ⟨done, ⟨y5, y6, rfl⟩, kk, hr', hd, hln⟩
      rw [List.getElem?_map] at hv
      obtain ⟨x, hx, rfl⟩ : ∃ x, xs[i]? = some x ∧ v = .ref x := by
        cases e : xs[i]? with
        | none => rw [e] at hv; cases hv
        | some x => rw [e] at hv; exact ⟨x, rfl, (Option.some.inj hv).symm⟩
      have hi : i < s.areas.length := by rw [← hxl]; exact (List.getElem?_eq_some_iff.mp hx).1
      have ha := List.getElem?_eq_getElem hi
      generalize hav : s.areas[i] = a at ha
      have hdrop : s.areas.drop i = a :: s.areas.drop (i + 1) := by rw [List.drop_eq_getElem_cons hi, hav]
      obtain ⟨r1, r2, r3, r4⟩ := g.area ha
      obtain ⟨l1, l2⟩ := cntA_pos g ha s.percent
      have hax := hap i x a hx ha
      have hax' := hax.keep (H' := H') (N' := N) (fun b o hb _ => kk b o hb) (fun b o _ n => n)
      obtain ⟨dx', rb, cb, hxi, _⟩ := id hax'
      have ch0 : chain a.row0 (s.rowBands s.percent a) a.row1 := bands_chain s.rows s.tall s.percent r1
      have ch1 : chain a.col0 (s.colBands s.percent a) a.col1 := bands_chain s.cols s.wide s.percent r3
      rw [hdrop, where_cons, ← firstP_succ s s.percent s.areas ha] at hd
      refine ⟨_, rfl, x, dx', _, rfl, hxi, nm_AreaPages_has_cell, _, rfl, _, rfl, N, x, i, _, _, _, _, row, col, a.row0, a.row1, a.col0, a.col1, rfl, hax', ch0, r1, ch1, r3, _, rfl, ?_⟩
      by_cases hin : (a.row0 ≤ row ∧ row ≤ a.row1) ∧ (a.col0 ≤ col ∧ col ≤ a.col1)
      · refine if_true_of (by rw [decide_eq_true hin.1, decide_eq_true hin.2]; rfl) ?_
        obtain ⟨yb, q1, q2, q3, q4⟩ := bandAt_in ch0 hin.1.1 hin.1.2
        obtain ⟨zb, w1, w2, w3, w4⟩ := bandAt_in ch1 hin.2.1 hin.2.2
        rw [q4, w4] at hd
        have b1 := (List.getElem?_eq_some_iff.mp q1).1
        have b2 := (List.getElem?_eq_some_iff.mp w1).1
        obtain ⟨y1, y2⟩ := row_mem g ha q1
        obtain ⟨z1, z2⟩ := col_mem g ha w1
        refine ⟨_, rfl, x, dx', _, rfl, hxi, nm_AreaPages_page_of, _, rfl, _, rfl, N, x, i, _, _, _, _, row, col, a.row0, a.row1, a.col0, a.col1, rfl, hax', ch0, hin.1.1, hin.1.2, ch1, hin.2.1, hin.2.2, by omega, by omega, ?_⟩
        generalize hnum : firstP s s.percent s.areas i + (if s.over = true then bIx (s.rowBands s.percent a) row * (s.colBands s.percent a).length + bIx (s.colBands s.percent a) col else bIx (s.colBands s.percent a) col * (s.rowBands s.percent a).length + bIx (s.rowBands s.percent a) row) = num
        have hnf : firstP s s.percent s.areas i ≤ num := by omega
        have hpr : bIx (s.rowBands s.percent a) row * (s.colBands s.percent a).length + (s.colBands s.percent a).length ≤ (s.rowBands s.percent a).length * (s.colBands s.percent a).length := by
          rw [← Nat.succ_mul]; exact Nat.mul_le_mul_right _ b1
        have hpc : bIx (s.colBands s.percent a) col * (s.rowBands s.percent a).length + (s.rowBands s.percent a).length ≤ (s.rowBands s.percent a).length * (s.colBands s.percent a).length := by
          rw [← Nat.succ_mul, Nat.mul_comm (s.rowBands s.percent a).length]; exact Nat.mul_le_mul_right _ b2
        have hnl : num < firstP s s.percent s.areas i + (s.rowBands s.percent a).length * (s.colBands s.percent a).length := by
          rw [← hnum]
          split <;> omega
        have hrow : (if s.over = true then (num - firstP s s.percent s.areas i) / (s.colBands s.percent a).length else (num - firstP s s.percent s.areas i) % (s.rowBands s.percent a).length) = bIx (s.rowBands s.percent a) row := by
          rw [← hnum, Nat.add_sub_cancel_left]
          cases s.over with
          | true => rw [if_pos rfl, if_pos rfl]; exact (where_ix b2).1
          | false => rw [if_neg Bool.false_ne_true, if_neg Bool.false_ne_true]; exact (where_ix b1).2
        have hcol : (if s.over = true then (num - firstP s s.percent s.areas i) % (s.colBands s.percent a).length else (num - firstP s s.percent s.areas i) / (s.rowBands s.percent a).length) = bIx (s.colBands s.percent a) col := by
          rw [← hnum, Nat.add_sub_cancel_left]
          cases s.over with
          | true => rw [if_pos rfl, if_pos rfl]; exact (where_ix b2).2
          | false => rw [if_neg Bool.false_ne_true, if_neg Bool.false_ne_true]; exact (where_ix b1).1
        have kr : ∀ (o : HO) (b : Addr) (ob : HO), H b = some ob → upd H' r o b = some ob := fun o b ob hb => (upd_ne (ne_of_none hb hr0)).trans (kk b ob hb)
        have hax2 : ∀ o : HO, APAt A (upd H' r o) N x i (firstP s s.percent s.areas i) (s.rowBands s.percent a) (s.colBands s.percent a) s.over := fun o => hax.keep (fun b ob hb _ => kr o b ob hb) (fun b o _ n => n)
        have hB0' : ∀ o : HO, BndAt K A (upd H' r o) R0 s.rows s.paper.top s.tall s.down := fun o => hB0.bnd.keep (kr o)
        have hB1' : ∀ o : HO, BndAt K A (upd H' r o) R1 s.cols s.paper.left s.wide s.across := fun o => hB1.bnd.keep (kr o)
        obtain ⟨_, _, _, _, _, hR0, _⟩ := id hB0
        obtain ⟨_, _, _, _, _, hR1, _⟩ := id hB1
        refine ⟨_, rfl, _, _, rfl, rfl, ?_⟩
        have room : ∀ m : Nat, m < 10 → (done.flatMap whereAns).length + m < sizeLine := fun m hm => by rw [sizeLine_eq]; omega
        refine ⟨_, rfl, .inl ⟨rfl, _, SqL.of hr'⟩, _, rfl, r, _, _, rfl, rfl, hr', by rw [iv_len]; exact room 0 (by decide), ?_⟩
        rw [iv_snoc]
        -- the column's distance
        refine ⟨_, rfl, .inl ⟨rfl, _, SqL.of upd_same⟩, _, rfl, p, _, dx, _, _, rfl, kr _ _ _ hp, T.c_SheetPages, T.na_SheetPages_columns, lk_SheetPages_columns, R1, _, _, rfl, kr _ _ _ hR1, nm_WayBands_distance, _, rfl, ?_⟩
        obtain ⟨dx2, rb2, cb2, hx2, _⟩ := id (hax2 (.lst (iv (done.flatMap whereAns ++ [(num : Int)]))))
        refine ⟨_, rfl, x, dx2, _, rfl, hx2, nm_AreaPages_column_band_of, _, rfl, N, x, i, _, _, _, _, num, rfl, hax2 _, by omega, by omega, hnf, hnl, fun u zb' hz hu => ?_⟩
        rw [hcol, w1] at hz
        have := Option.some.inj hz
        subst this
        refine ⟨_, rfl, p, _, dx, _, _, rfl, kr _ _ _ hp, T.c_SheetPages, T.na_SheetPages_used_scale, lk_SheetPages_used_scale, R1, u, s.cols, s.paper.left, s.wide, s.across, col, zb, s.percent, rfl, hB1' _, g.gw1.1, hu, w2, w3, z2, by omega, by omega, by omega, r, _, _, rfl, rfl, upd_same, by rw [iv_len, List.length_append]; exact room 1 (by decide), ?_⟩
        rw [iv_snoc, upd_upd]
        -- the row's
        refine ⟨_, rfl, .inl ⟨rfl, _, SqL.of upd_same⟩, _, rfl, p, _, dx, _, _, rfl, kr _ _ _ hp, T.c_SheetPages, T.na_SheetPages_rows, lk_SheetPages_rows, R0, _, _, rfl, kr _ _ _ hR0, nm_WayBands_distance, _, rfl, ?_⟩
        obtain ⟨dx3, rb3, cb3, hx3, _⟩ := id (hax2 (.lst (iv (done.flatMap whereAns ++ [(num : Int)] ++ [((s.cols.spot s.paper.left s.wide s.percent s.across zb col : Nat) : Int)]))))
        refine ⟨_, rfl, x, dx3, _, rfl, hx3, nm_AreaPages_row_band_of, _, rfl, N, x, i, _, _, _, _, num, rfl, hax2 _, by omega, by omega, hnf, hnl, fun t yb' hy ht => ?_⟩
        rw [hrow, q1] at hy
        have := Option.some.inj hy
        subst this
        refine ⟨_, rfl, p, _, dx, _, _, rfl, kr _ _ _ hp, T.c_SheetPages, T.na_SheetPages_used_scale, lk_SheetPages_used_scale, R0, t, s.rows, s.paper.top, s.tall, s.down, row, yb, s.percent, rfl, hB0' _, g.gw0.1, ht, q2, q3, y2, by omega, by omega, by omega, r, _, _, rfl, rfl, upd_same, by rw [iv_len, List.length_append, List.length_append]; exact room 2 (by decide), ?_⟩
        rw [iv_snoc, upd_upd]
        refine ⟨done ++ [(num, s.cols.spot s.paper.left s.wide s.percent s.across zb col, s.rows.spot s.paper.top s.tall s.percent s.down yb row)], ⟨some (.ref x), some (.int (num : Nat)), ?_⟩, fun b o hb => kr _ b o hb, ?_, ?_, ?_⟩
        · rw [List.length_append]; rfl
        · rw [upd_same, List.flatMap_append, List.append_assoc, List.append_assoc]; rfl
        · rw [List.append_assoc, ← hd]
          subst hnum
          rfl
        · rw [List.flatMap_append, List.length_append]
          show _ + 3 ≤ _
          omega
      · have hf : (decide (a.row0 ≤ row ∧ row ≤ a.row1) && decide (a.col0 ≤ col ∧ col ≤ a.col1)) = false := by
          rw [← Bool.decide_and]
          exact decide_eq_false hin
        refine if_false_of hf ⟨done, ⟨_, _, rfl⟩, kk, hr', ?_, by omega⟩
        rw [← hd]
        by_cases hrw : a.row0 ≤ row ∧ row ≤ a.row1
        · have hcl : ¬ (a.col0 ≤ col ∧ col ≤ a.col1) := fun z => hin ⟨hrw, z⟩
          obtain ⟨yb, _, _, _, q4⟩ := bandAt_in ch0 hrw.1 hrw.2
          rw [q4, bandAt_out ch1 hcl]
        · rw [bandAt_out ch0 hrw]
    · rintro σ H' ⟨done, ⟨y5, y6, rfl⟩, kk, hr', hd, hln⟩
      rw [List.length_map, hxl, List.drop_length] at hd
      have hd' : done = s.where_ row col := by
        rw [← hd]
        exact (List.append_nil _).symm
      rw [List.length_map, hxl] at hln
      subst hd'
      refine ⟨_, rfl, by show 1 ≤ sizeLine; decide, fun r1 hr1 => ?_⟩
      have rr1 : r ≠ r1 := ne_of_none hr' hr1
      refine ⟨_, rfl, r1, r, _, _, rfl, rfl, upd_same, (upd_ne rr1).trans hr', by rw [iv_len]; show 1 + _ ≤ _; rw [sizeLine_eq]; omega, fun r2 hr2 => ?_⟩
      have n2 : r2 ≠ r1 := fun z => by rw [z, upd_same] at hr2; cases hr2
      have f2 : H r2 = none := by
        rw [upd_ne n2] at hr2
        exact kk.free hr2
      refine k okc _ r2 (fun b o hb => ?_) f2 upd_same
      rw [upd_ne (ne_of_none hb f2), upd_ne (ne_of_none hb (kk.free hr1))]
      exact kk b o hb
end
end Sh

namespace Sh
open PySem PySem.Spec PyProof.Rows L2
open PySem.W (Codec)
theorem firstP_small {s : Si32.St} (g : Good s) (i : Nat) (hi : i ≤ s.areas.length) : firstP s s.percent s.areas i ≤ i * 1048576 := by
  induction i with
  | zero => exact Nat.le_refl _
  | succ i ih =>
    have ha := List.getElem?_eq_getElem (show i < s.areas.length by omega)
    obtain ⟨l1, l2⟩ := cntA_pos g ha s.percent
    rw [firstP_succ s s.percent s.areas ha]
    have := ih (by omega)
    have h2 : cntA s s.percent s.areas[i] ≤ 4096 * 256 := Nat.mul_le_mul l1 l2
    omega
theorem count_small {s : Si32.St} (g : Good s) : s.count < 40000000 := by
  have := firstP_small g s.areas.length (Nat.le_refl _)
  rw [count_eq]
  have h32 := g.areasN
  omega
/-- the parts' bytes, each behind how many they are, so many parts -/
def tlist (x : Si32.Parts) : Nat → List Int
  | 0 => []
  | j + 1 => tlist x j ++ Si32.told (psel x j)
theorem tlist_three (x : Si32.Parts) : tlist x 3 = Si32.ofParts x := by
  show (([] ++ Si32.told x.left) ++ Si32.told x.middle) ++ Si32.told x.right = _
  unfold Si32.ofParts
  rw [List.nil_append, List.append_assoc]
theorem told_len (b : List Nat) : (Si32.told b).length = b.length + 1 := by
  unfold Si32.told Si32.ints
  rw [List.length_cons, List.length_map]
theorem tlist_len (x : Si32.Parts) (m : Nat) (h : ∀ a, (psel x a).length ≤ m) (j : Nat) : (tlist x j).length ≤ j * (m + 1) := by
  induction j with
  | zero => exact Nat.zero_le _
  | succ j ih =>
    show (tlist x j ++ _).length ≤ _
    rw [List.length_append, told_len, Nat.succ_mul]
    have := h j
    omega
theorem three_get {l0 l1 l2 : Addr} {j : Nat} {v : V} (h : [V.ref l0, .ref l1, .ref l2][j]? = some v) : v = .ref (lsel l0 l1 l2 j) ∧ j < 3 := by
  match j, h with
  | 0, h => cases h; exact ⟨rfl, by decide⟩
  | 1, h => cases h; exact ⟨rfl, by decide⟩
  | 2, h => cases h; exact ⟨rfl, by decide⟩
theorem lsel_not {l0 l1 l2 c : Addr} (h0 : l0 ≠ c) (h1 : l1 ≠ c) (h2 : l2 ≠ c) (a : Nat) : lsel l0 l1 l2 a ≠ c := by
  unfold lsel
  split
  · exact h0
  · split
    · exact h1
    · exact h2
theorem iv_told (l : List Int) (b : List Nat) : (iv l ++ [V.int (b.length : Nat)]) ++ bv b = iv (l ++ Si32.told b) := by
  rw [iv_snoc]
  unfold bv
  rw [← iv_app, List.append_assoc]
  rfl
section
variable {P : Program} {w : World} {K : PySem.W.Frag} {mg : Str → Option Value} {base : Heap} {A : Ad}
def spTellTexts (K : PySem.W.Frag) (A : Ad) : Sp := fun vs H Q E => ∃ (p : Addr) (q : Ads) (N : Addr → Prop) (s : Si32.St) (n : Nat), vs = [.ref p, .int n] ∧ PgAt K A H N p q.S s ∧ SetA K A H q s ∧ Good s ∧
  (s.page n = none → E (.ref A.X_NoSuchPage) none H) ∧
  ∀ x a b, s.page n = some x → Si32.parts (s.first + (n : Int)) s.count (x.area + 1) s.head = some a → Si32.parts (s.first + (n : Int)) s.count (x.area + 1) s.foot = some b →
    ∀ (H' : Hp) (r : Addr), Same H H' → H r = none → H' r = some (.lst (iv (0 :: (Si32.ofParts a ++ Si32.ofParts b)))) → Q (.ref r) H'
theorem ok_TellTexts (T : Txt K mg A) : Ok P w K mg base (L2.CX P w) 3 A.f_SheetPages_tell_texts p_SheetPages_tell_texts (spTellTexts K A) := by
  obtain ⟨fd, F, B⟩ := T.fn_SheetPages_tell_texts.ex
  have nd := sc_SheetPages_tell_texts.nd
  obtain ⟨_, B_SheetPages_area_pages_with, G_SheetPages_area_pages_with⟩ := (ok_With (P := P) (w := w) (base := base) T).ex
  obtain ⟨_, B_write_text, G_write_text⟩ := (ok_Write (P := P) (w := w) (base := base) T).ex
  refine ⟨fd, B, F.okX sc_SheetPages_tell_texts (fun vs H Q E h => ?_) (fun cdv A' outer sh H vs Q E hr h => ?_)⟩
  · obtain ⟨p, q, N, s, n, rfl, _⟩ := h
    rfl
  · have tkE := takes_of (X := cxOf (L2.CX P w) P w K mg base n_SheetPages_tell_texts "SheetPages.tell_texts" (defScope s_SheetPages_tell_texts) A.f_SheetPages_tell_texts cdv A' outer sh H E) rfl rfl rfl rfl
    have pX := passes_call tkE (E := E) (fun _ _ _ _ h => h)
    have pown := passes_of (X := cxOf (L2.CX P w) P w K mg base n_SheetPages_tell_texts "SheetPages.tell_texts" (defScope s_SheetPages_tell_texts) A.f_SheetPages_tell_texts cdv A' outer sh H E) rfl
    refine ⟨_,
      (pss_cons (ps_set (i := 2) nd rfl (Or.inl rfl) (pe_op op_add (pe_fld (pe_meth (pv 0) T.c_SheetPages T.m_SheetPages_area_pages_with G_SheetPages_area_pages_with hr B_SheetPages_area_pages_with .nil pX (pa_cons (pv 1) pa_nil)) rfl) pe_int))
      (pss_cons (ps_set (i := 3) nd rfl (Or.inl rfl) (pe_op op_add (pe_fld (pe_fld (pv 0) rfl) rfl) (pv 1)))
      (pss_cons (ps_set (i := 4) nd rfl (Or.inl rfl) (pe_lst (pa_cons pe_int pa_nil)))
      (pss_cons (ps_for pown rfl (pi_tup (pe_tup (pa_cons (pe_fld (pe_fld (pv 0) rfl) rfl) (pa_cons (pe_fld (pe_fld (pv 0) rfl) rfl) pa_nil)))) (pg_name (i := 5) nd rfl (Or.inl rfl)) (pss_one (ps_for pown rfl (pi_list (pe_call G_write_text hr rfl T.g_write_text T.k_write_text B_write_text .nil pX (pa_cons (pv 5) (pa_cons (pv 3) (pa_cons (pe_fld (pv 0) rfl) (pa_cons (pv 2) pa_nil)))))) (pg_name (i := 6) nd rfl (Or.inl rfl)) (pss_cons (ps_expr (pe_bm PySem.F.plainAttrs_list PySem.F.slot_list_append PySem.F.type_list_append mt_append (pv 4) (pa_cons (pe_callB call_len_seq (by rfl) T.bl_len PySem.boot_len (pa_cons (pv 6) pa_nil)) pa_nil)))
          (pss_one (ps_expr (pe_bm PySem.F.plainAttrs_list PySem.F.slot_list_extend PySem.F.type_list_extend mt_extend (pv 4) (pa_cons (pv 6) pa_nil))))))))
      (pss_one (ps_ret (pv 4))))))), ?_⟩
    obtain ⟨p, q, N, s, n, rfl, hpg, hset, g, e1, k⟩ := h
    obtain ⟨dx, R0, R1, pl, xs, hp, hB0, hB1, hpl, hxl, hap, Np, Npl⟩ := hpg.ex
    obtain ⟨sv, fv, hS, _⟩ := hset.hS
    refine ⟨_, rfl, p, dx, _, rfl, hp, nm_SheetPages_area_pages_with, _, rfl, p, q.S, N, s, n, rfl, hpg, g, fun c => e1 (page_none c), fun j a x ha h1 h2 hax => ?_⟩
    obtain ⟨dx', rb, cb, hxi, _⟩ := id hax
    obtain ⟨l1, l2⟩ := cntA_pos g ha s.percent
    have hj := (List.getElem?_eq_some_iff.mp ha).1
    have h32 := g.areasN
    have hnc : n < s.count := by
      rcases Nat.lt_or_ge n s.count with h | h
      · exact h
      · have z := pageFrom_at s s.percent s.areas 0 j n a ha h1 h2
        rw [pageFrom_none s s.percent s.areas 0 n (by rw [← count_eq]; exact h)] at z
        exfalso
        obtain ⟨p1, p2, p3, p4, p5, p6⟩ := page_ix (r := (s.rowBands s.percent a).length) (c := (s.colBands s.percent a).length) (n := n - firstP s s.percent s.areas j) (by unfold cntA at h2; omega)
        unfold pageOf at z
        revert z
        cases s.over with
        | true => rw [if_pos rfl, if_pos rfl, List.getElem?_eq_getElem p3, List.getElem?_eq_getElem p4]; intro z; cases z
        | false => rw [if_neg Bool.false_ne_true, if_neg Bool.false_ne_true, List.getElem?_eq_getElem p5, List.getElem?_eq_getElem p6]; intro z; cases z
    have hcs := count_small g
    obtain ⟨y, z, hpage⟩ : ∃ y z, s.page n = some ⟨j, y, z⟩ := by
      obtain ⟨p1, p2, p3, p4, p5, p6⟩ := page_ix (r := (s.rowBands s.percent a).length) (c := (s.colBands s.percent a).length) (n := n - firstP s s.percent s.areas j) (by unfold cntA at h2; omega)
      rw [page_eq ha h1 h2]
      unfold pageOf
      cases s.over with
      | true => rw [if_pos rfl, if_pos rfl, List.getElem?_eq_getElem p3, List.getElem?_eq_getElem p4]; exact ⟨_, _, rfl⟩
      | false => rw [if_neg Bool.false_ne_true, if_neg Bool.false_ne_true, List.getElem?_eq_getElem p5, List.getElem?_eq_getElem p6]; exact ⟨_, _, rfl⟩
    have hgh := g.head.1
    have hgf := g.foot.1
    rw [goodText_eq _ (s.first + (n : Int)) s.count (j + 1), Bool.and_eq_true, decide_eq_true_eq] at hgh hgf
    obtain ⟨pa, hpa⟩ := Option.isSome_iff_exists.mp hgh.2
    obtain ⟨pb, hpb⟩ := Option.isSome_iff_exists.mp hgf.2
    have hfirst := g.first
    refine ⟨x, _, dx', _, _, rfl, hxi, T.c_AreaPages, T.na_AreaPages_area_place, lk_AreaPages_area_place, _, _, rfl, rfl, ?_⟩
    refine ⟨_, rfl, p, _, dx, _, _, rfl, hp, T.c_SheetPages, T.na_SheetPages_settings, lk_SheetPages_settings, q.S, _, q.dx, _, _, rfl, hS, T.c_SheetSettings, T.na_SheetSettings_first_number, lk_SheetSettings_first_number, _, rfl, _, _, rfl, rfl, ?_⟩
    refine ⟨by show 1 ≤ sizeLine; decide, fun r hr0 => ?_⟩
    have kr0 : Same H (upd H r (.lst [.int 0])) := fun b o hb => (upd_ne (ne_of_none hb hr0)).trans hb
    refine ⟨_, rfl, p, _, dx, _, _, rfl, kr0 _ _ hp, T.c_SheetPages, T.na_SheetPages_settings, lk_SheetPages_settings, q.S, _, q.dx, _, _, rfl, kr0 _ _ hS, T.c_SheetSettings, T.na_SheetSettings_head, lk_SheetSettings_head, ?_⟩
    refine ⟨_, rfl, p, _, dx, _, _, rfl, kr0 _ _ hp, T.c_SheetPages, T.na_SheetPages_settings, lk_SheetPages_settings, q.S, _, q.dx, _, _, rfl, kr0 _ _ hS, T.c_SheetSettings, T.na_SheetSettings_foot, lk_SheetSettings_foot, by show 2 ≤ sizeLine; decide, fun t ht => ?_⟩
    have rt : r ≠ t := ne_of_none upd_same ht
    have ht0 : H t = none := kr0.free ht
    refine ⟨t, rfl, ⟨_, SqT.of upd_same⟩, ?_⟩
    let pts : Nat → Si32.Parts := fun i => if i = 0 then pa else pb
    refine for_tup (xs := [V.ref q.hd, .ref q.ft]) (fun i σ H' => ∃ l : List Int, (∃ y5 y6, σ = [some (.ref p), some (.int n), some (.int ((j : Int) + 1)), some (.int (s.first + (n : Int))), some (.ref r), y5, y6]) ∧ Same H H' ∧ H' t = some (.tup [V.ref q.hd, .ref q.ft]) ∧ H' r = some (.lst (iv (0 :: l))) ∧
      l = (if i = 0 then [] else if i = 1 then tlist pa 3 else tlist pa 3 ++ tlist pb 3) ∧ l.length ≤ 10000 * i) ⟨[], ⟨_, _, rfl⟩, fun b o hb => (upd_ne (ne_of_none hb ht0)).trans (kr0 b o hb), upd_same, (upd_ne rt).trans upd_same, rfl, Nat.le_refl _⟩ ?_ ?_ ?_
    · rintro i σ H' _ ⟨_, _, _, htt, _⟩
      exact SqT.of htt
    · rintro i v σ H' hv ⟨l, ⟨y5, y6, rfl⟩, kk, htt, hrr, hl, hln⟩
      obtain ⟨ad, tx, px, rfl, hi2, had, hlen, hparts, hnext⟩ : ∃ (ad : Addr) (tx : List Nat) (px : Si32.Parts), v = .ref ad ∧ i < 2 ∧ H ad = some (.lst (bv tx)) ∧ tx.length ≤ 255 ∧ Si32.parts (s.first + (n : Int)) s.count (j + 1) tx = some px ∧
          l ++ tlist px 3 = (if i + 1 = 0 then [] else if i + 1 = 1 then tlist pa 3 else tlist pa 3 ++ tlist pb 3) := by
        match i, hv, hl with
        | 0, hv, hl =>
          cases hv
          refine ⟨_, _, _, rfl, by decide, hset.hh, hgh.1, hpa, ?_⟩
          rw [hl]; rfl
        | 1, hv, hl =>
          cases hv
          refine ⟨_, _, _, rfl, by decide, hset.hf, hgf.1, hpb, ?_⟩
          rw [hl]; rfl
      refine ⟨_, rfl, _, rfl, _, rfl, p, _, dx, _, _, rfl, kk _ _ hp, T.c_SheetPages, T.na_SheetPages_page_count, lk_SheetPages_page_count, _, rfl, ad, tx, s.first + (n : Int), s.count, j + 1, rfl, SqL.of (kk _ _ had), by omega, by omega, by omega, by omega, fun h => (by rw [hparts] at h; cases h), fun px' hx H2 pl' a0 a1 a2 s2 hpl2 htx fpl f0 f1 f2 hlx => ?_⟩
      rw [hparts] at hx
      have := Option.some.inj hx
      subst this
      have n0 : a0 ≠ r := Ne.symm (ne_of_none hrr f0)
      have n1 : a1 ≠ r := Ne.symm (ne_of_none hrr f1)
      have n2 : a2 ≠ r := Ne.symm (ne_of_none hrr f2)
      have npl : pl' ≠ r := Ne.symm (ne_of_none hrr fpl)
      have htl := tlist_len px (11 * tx.length) hlx
      refine ⟨pl', rfl, ⟨_, SqL.of hpl2⟩, ?_⟩
      refine for_list (xs := [V.ref a0, .ref a1, .ref a2]) (fun m σ H3 => (∃ y6, σ = [some (.ref p), some (.int n), some (.int ((j : Int) + 1)), some (.int (s.first + (n : Int))), some (.ref r), some (.ref ad), y6]) ∧ (∀ b o, H2 b = some o → b ≠ r → H3 b = some o) ∧ H3 r = some (.lst (iv (0 :: (l ++ tlist px m))))) ⟨⟨_, rfl⟩, fun b o hb _ => hb, by rw [s2 _ _ hrr]; show _ = some (HO.lst (iv (0 :: (l ++ [])))); rw [List.append_nil]⟩ ?_ ?_ ?_
      · rintro m σ H3 _ ⟨_, k3, _⟩
        exact SqL.of (k3 _ _ hpl2 npl)
      · rintro m v σ H3 hv3 ⟨⟨y7, rfl⟩, k3, hr3⟩
        obtain ⟨rfl, hm3⟩ := three_get hv3
        have hg := htx.get m
        have hne := lsel_not n0 n1 n2 m
        have hg3 := k3 _ _ hg hne
        have hlm := htl m
        have hmm : m * (11 * tx.length + 1) ≤ 3 * (11 * tx.length + 1) := Nat.mul_le_mul_right _ (by omega)
        have hlm2 := hlx m
        refine ⟨_, rfl, .inl ⟨rfl, _, SqL.of hr3⟩, _, rfl, _, _, rfl, .inl (SqL.of hg3), r, _, _, rfl, rfl, hr3, by rw [iv_len, List.length_cons, List.length_append, sizeLine_eq]; omega, ?_⟩
        refine ⟨_, rfl, .inl ⟨rfl, _, SqL.of upd_same⟩, _, rfl, r, _, _, _, rfl, rfl, upd_same, (upd_ne hne).trans hg3, by rw [List.length_append, iv_len, List.length_cons, List.length_append, bv_len, sizeLine_eq]; show _ + 1 + _ ≤ _; omega, ⟨_, rfl⟩, fun b o hb hn => ?_, ?_⟩
        · rw [upd_ne hn, upd_ne hn]; exact k3 b o hb hn
        · rw [upd_same, bv_len, iv_told, List.cons_append, List.append_assoc]
          rfl
      · rintro σ H3 ⟨⟨y7, rfl⟩, k3, hr3⟩
        have hl3 := htl 3
        refine ⟨l ++ tlist px 3, ⟨_, _, rfl⟩, fun b o hb => k3 b o (s2 _ _ (kk b o hb)) (ne_of_none hb hr0), k3 _ _ (s2 _ _ htt) (Ne.symm rt), hr3, hnext, ?_⟩
        rw [List.length_append]
        omega
    · rintro σ H' ⟨l, ⟨y5, y6, rfl⟩, kk, _, hrr, hl, _⟩
      have hl' : l = Si32.ofParts pa ++ Si32.ofParts pb := by
        rw [hl, ← tlist_three, ← tlist_three]; rfl
      subst hl'
      exact ⟨_, rfl, k _ pa pb hpage hpa hpb H' r kk hr0 hrr⟩
end
end Sh

namespace Sh
open PySem PySem.Spec PyProof.Rows L2
open PySem.W (Codec)
section
variable {P : Program} {w : World} {K : PySem.W.Frag} {mg : Str → Option Value} {base : Heap} {A : Ad}
/-! ### Sheet.__init__, change, ask -/
def spSheetInit (K : PySem.W.Frag) (A : Ad) : Sp := fun vs H Q _ => ∃ (o d : Addr), vs = [.ref o] ∧ H o = some (.ins A.C_Sheet d []) ∧
  ∀ (H' : Hp) (q : Ads), SetA K A H' q Si32.init → H' o = some (.ins A.C_Sheet d (F_Sheet (.ref q.S) .non)) → (∀ b, q.M b → H b = none) → H q.al = none → H q.hd = none → H q.ft = none → (∀ b ob, H b = some ob → b ≠ o → H' b = some ob) → Q .non H'
theorem ok_SheetInit (T : Txt K mg A) : Ok P w K mg base CX0 6 A.f_Sheet__init_ p_Sheet__init_ (spSheetInit K A) := by
  obtain ⟨fd, F, B⟩ := T.fn_Sheet__init_.ex
  have nd := sc_Sheet__init_.nd
  obtain ⟨_, B_SheetSettings__init_, G_SheetSettings__init_⟩ := (ok_SSInit (P := P) (w := w) (base := base) T).ex
  refine ⟨fd, B, F.ok sc_Sheet__init_ (fun vs H Q E h => ?_) (fun cdv A' outer sh H vs Q E hr h => ⟨_,
      (pss_cons (ps_fld (pv 0) (pe_make0 T.mk_SheetSettings G_SheetSettings__init_ hr rfl T.g_SheetSettings B_SheetSettings__init_ .nil pass0) rfl)
      (pss_one (ps_fld (pv 0) pe_non rfl))), ?_⟩)⟩
  · obtain ⟨o, d, rfl, _⟩ := h
    rfl
  · obtain ⟨o, d, rfl, ho, k⟩ := h
    refine fun S dS g1 g2 g3 => ⟨S, dS, rfl, upd_same, fun H1 q h1 h2 h3 h4 h5 h6 h7 => ⟨rfl, ?_⟩⟩
    have k1 : ∀ b ob, H b = some ob → H1 b = some ob := fun b ob hb => h7 b ob (made_keep g1 g2 hb) (ne_of_none hb g1)
    have oS : o ≠ S := ne_of_none ho g1
    have hM : ∀ b, q.M b → H b = none := fun b hb => by
      rcases h3 b hb with rfl | z
      · exact g1
      · exact made_free z
    refine ⟨_, rfl, o, _, d, _, rfl, k1 _ _ ho, T.c_Sheet, T.na_Sheet_settings, of_decide_eq_true rfl, ?_⟩
    rw [nw_Sheet_0]
    refine ⟨_, rfl, o, _, d, _, rfl, upd_same, T.c_Sheet, T.na_Sheet_kept_pages, of_decide_eq_true rfl, ?_⟩
    rw [nw_Sheet_1, upd_upd, ← h2]
    have nM : ¬ q.M o := fun z => by rw [hM o z] at ho; cases ho
    refine k _ q (h1.other fun b ob hb c => (upd_ne fun z => ?_).trans hb) upd_same hM (made_free h4) (made_free h5) (made_free h6) fun b ob hb hn => (upd_ne hn).trans (k1 b ob hb)
    subst z
    have hb' := k1 _ _ ho
    rw [hb'] at hb
    have eo := Option.some.inj hb
    rcases c with c | rfl | rfl | rfl | ⟨xs, rfl⟩ | ⟨kv, rfl⟩
    · exact nM c
    · rw [made_free h4] at ho; cases ho
    · rw [made_free h5] at ho; cases ho
    · rw [made_free h6] at ho; cases ho
    · cases eo
    · cases eo
def spChange (A : Ad) : Sp := fun vs H Q _ => ∃ (o d : Addr) (sv kv : V), vs = [.ref o] ∧ H o = some (.ins A.C_Sheet d (F_Sheet sv kv)) ∧ Q sv (upd H o (.ins A.C_Sheet d (F_Sheet sv .non)))
theorem ok_Change (T : Txt K mg A) : Ok P w K mg base CX0 1 A.f_Sheet_change p_Sheet_change (spChange A) := by
  obtain ⟨fd, F, B⟩ := T.fn_Sheet_change.ex
  have nd := sc_Sheet_change.nd
  refine ⟨fd, B, F.ok sc_Sheet_change (fun vs H Q E h => ?_) (fun cdv A' outer sh H vs Q E hr h => ⟨_,
      (pss_cons (ps_fld (pv 0) pe_non rfl)
      (pss_one (ps_ret (pe_fld (pv 0) rfl)))), ?_⟩)⟩
  · obtain ⟨o, d, sv, kv, rfl, _⟩ := h
    rfl
  · obtain ⟨o, d, sv, kv, rfl, ho, k⟩ := h
    refine ⟨_, rfl, o, _, d, _, rfl, ho, T.c_Sheet, T.na_Sheet_kept_pages, of_decide_eq_true rfl, ?_⟩
    rw [put_Sheet_kept_pages]
    exact ⟨_, rfl, o, _, d, _, _, rfl, upd_same, T.c_Sheet, T.na_Sheet_settings, lk_Sheet_settings, k⟩
/-- what the sheet keeps: none, or the pages as they are -/
def KeptAt (K : PySem.W.Frag) (A : Ad) (H : Hp) (N : Addr → Prop) (S : Addr) (s : Si32.St) (kv : V) : Prop := kv = .non ∨ ∃ p, kv = .ref p ∧ PgAt K A H N p S s
def spAsk (K : PySem.W.Frag) (A : Ad) : Sp := fun vs H Q _ => ∃ (o d : Addr) (q : Ads) (s : Si32.St) (N : Addr → Prop) (kv : V), vs = [.ref o] ∧ H o = some (.ins A.C_Sheet d (F_Sheet (.ref q.S) kv)) ∧ SetA K A H q s ∧ Good s ∧ ¬ q.M o ∧ ¬ N o ∧ KeptAt K A H N q.S s kv ∧
  (∀ b, H b = none → N b) ∧ N q.W0 ∧ N q.W1 ∧ N q.L0 ∧ N q.L1 ∧ N q.b0 ∧ N q.b1 ∧
  ∀ (H' : Hp) (p : Addr), SetA K A H' q s → PgAt K A H' N p q.S s → H' o = some (.ins A.C_Sheet d (F_Sheet (.ref q.S) (.ref p))) → (∀ b ob, H b = some ob → b ≠ o → H' b = some ob) → Q (.ref p) H'
theorem SetA.not_ins {K : PySem.W.Frag} {A : Ad} {H H' : Hp} {q : Ads} {s : Si32.St} {o C d : Addr} {fs : List (Str × V)} (h : SetA K A H q s) (ho : H o = some (.ins C d fs)) (nM : ¬ q.M o) (k : ∀ b ob, H b = some ob → b ≠ o → H' b = some ob) : SetA K A H' q s := by
  refine h.other fun b ob hb c => k b ob hb fun z => ?_
  subst z
  rw [ho] at hb
  have eo := Option.some.inj hb
  rcases c with c | rfl | rfl | rfl | ⟨xs, rfl⟩ | ⟨kv, rfl⟩
  · exact nM c
  · obtain ⟨_, z, _⟩ := h.ar
    rw [ho] at z; cases z
  · have z := h.hh
    rw [ho] at z; cases z
  · have z := h.hf
    rw [ho] at z; cases z
  · cases eo
  · cases eo
theorem ok_Ask (T : Txt K mg A) : Ok P w K mg base CX0 9 A.f_Sheet_ask p_Sheet_ask (spAsk K A) := by
  obtain ⟨fd, F, B⟩ := T.fn_Sheet_ask.ex
  have nd := sc_Sheet_ask.nd
  obtain ⟨_, B_SheetPages__init_, G_SheetPages__init_⟩ := (ok_SPInit (P := P) (w := w) (base := base) T).ex
  refine ⟨fd, B, F.ok sc_Sheet_ask (fun vs H Q E h => ?_) (fun cdv A' outer sh H vs Q E hr h => ⟨_,
      (pss_cons (ps_if (pt_cmpR op_isN (pe_fld (pv 0) rfl) pe_non (nomark _)) (pss_one (ps_fld (pv 0) (pe_make T.mk_SheetPages G_SheetPages__init_ hr rfl T.g_SheetPages B_SheetPages__init_ .nil pass0 (pa_cons (pe_fld (pv 0) rfl) pa_nil)) rfl)) pss_nil)
      (pss_one (ps_ret (pe_fld (pv 0) rfl)))), ?_⟩)⟩
  · obtain ⟨o, d, q, s, N, kv, rfl, _⟩ := h
    rfl
  · obtain ⟨o, d, q, s, N, kv, rfl, ho, hset, g, nM, nN, hkept, Nfree, NW0, NW1, NL0, NL1, Nb0, Nb1, k⟩ := h
    refine ⟨_, rfl, o, _, d, _, _, rfl, ho, T.c_Sheet, T.na_Sheet_kept_pages, lk_Sheet_kept_pages, rfl, _, rfl, ?_⟩
    rcases hkept with rfl | ⟨p, rfl, hpg⟩
    · refine iteT ⟨_, rfl, o, _, d, _, _, rfl, ho, T.c_Sheet, T.na_Sheet_settings, lk_Sheet_settings, fun p dp g1 g2 g3 => ?_⟩
      have km : ∀ b ob, H b = some ob → upd (upd H dp (.own p)) p (.ins A.C_SheetPages dp []) b = some ob := fun b ob hb => made_keep g1 g2 hb
      have pM : ¬ q.M p := by
        obtain ⟨_, _, hS, _⟩ := hset.hS
        obtain ⟨⟨_, _, hW0, _⟩, hL0, _⟩ := id hset.a0
        obtain ⟨⟨_, _, hW1, _⟩, hL1, _⟩ := id hset.a1
        rintro (rfl | rfl | rfl | rfl | rfl)
        · rw [g1] at hS; cases hS
        · rw [g1] at hW0; cases hW0
        · rw [g1] at hW1; cases hW1
        · rw [g1] at hL0; cases hL0
        · rw [g1] at hL1; cases hL1
      have op : o ≠ p := ne_of_none ho g1
      refine ⟨p, dp, q, s, N, rfl, upd_same, hset.keep km, pM, g, Nfree p g1, fun b hb => Nfree b (made_free hb), NW0, NW1, NL0, NL1, Nb0, Nb1, fun H1 hpg k1 => ⟨rfl, ?_⟩⟩
      have k2 : ∀ b ob, H b = some ob → H1 b = some ob := fun b ob hb => k1 b ob (km b ob hb) (ne_of_none hb g1)
      refine ⟨_, rfl, o, _, d, _, rfl, k2 _ _ ho, T.c_Sheet, T.na_Sheet_kept_pages, of_decide_eq_true rfl, ?_⟩
      rw [put_Sheet_kept_pages]
      have k3 : ∀ b ob, H1 b = some ob → b ≠ o → upd H1 o (.ins A.C_Sheet d (F_Sheet (.ref q.S) (.ref p))) b = some ob := fun b ob hb hn => (upd_ne hn).trans hb
      refine ⟨_, rfl, o, _, d, _, _, rfl, upd_same, T.c_Sheet, T.na_Sheet_kept_pages, lk_Sheet_kept_pages, k _ p ((hset.keep k2).not_ins (k2 _ _ ho) nM k3) (hpg.keep (fun b ob hb c => k3 b ob hb fun z => ?_) fun b ob _ n => n) upd_same fun b ob hb hn => k3 b ob (k2 b ob hb) hn⟩
      subst z
      rcases c with c | ⟨xs, rfl⟩
      · exact nN c
      · rw [k2 _ _ ho] at hb; cases hb
    · exact iteF ⟨_, rfl, o, _, d, _, _, rfl, ho, T.c_Sheet, T.na_Sheet_kept_pages, lk_Sheet_kept_pages, k H p hset hpg ho fun b ob hb _ => hb⟩
end
end Sh

namespace Sh
open PySem PySem.Spec PyProof.Rows L2
open PySem.W (Codec)
/-! ### one of the two ways -/
def Ads.W (q : Ads) (w : Nat) : Addr := if w = 0 then q.W0 else q.W1
def Ads.L (q : Ads) (w : Nat) : Addr := if w = 0 then q.L0 else q.L1
def Ads.b (q : Ads) (w : Nat) : Addr := if w = 0 then q.b0 else q.b1
def Ads.setb (q : Ads) (w : Nat) (x : Addr) : Ads := if w = 0 then { q with b0 := x } else { q with b1 := x }
theorem setb_eq (q : Ads) (w : Nat) (x : Addr) : (q.setb w x).S = q.S ∧ (q.setb w x).wt = q.wt ∧ (q.setb w x).W0 = q.W0 ∧ (q.setb w x).W1 = q.W1 ∧ (q.setb w x).L0 = q.L0 ∧ (q.setb w x).L1 = q.L1 ∧ (q.setb w x).al = q.al ∧ (q.setb w x).hd = q.hd ∧ (q.setb w x).ft = q.ft ∧ (q.setb w x).dx = q.dx := by
  unfold Ads.setb
  split <;> exact ⟨rfl, rfl, rfl, rfl, rfl, rfl, rfl, rfl, rfl, rfl⟩
theorem setb_M (q : Ads) (w : Nat) (x b : Addr) : (q.setb w x).M b ↔ q.M b := by
  unfold Ads.setb Ads.M
  split <;> exact Iff.rfl
def edW (s : Si32.St) (w : Nat) : Nat := if w = 0 then s.paper.top else s.paper.left
def spW (s : Si32.St) (w : Nat) : Nat := if w = 0 then s.tall else s.wide
def mdW (s : Si32.St) (w : Nat) : Bool := if w = 0 then s.down else s.across
theorem beq_zero {w : Nat} (h : w = 0) : (w == 0) = true := by rw [h]; rfl
theorem beq_one {w : Nat} (h : ¬ w = 0) : (w == 0) = false := by rw [beq_eq_false_iff_ne]; exact h
theorem SetA.way {K : PySem.W.Frag} {A : Ad} {H : Hp} {q : Ads} {s : Si32.St} (h : SetA K A H q s) (w : Nat) (hw : w ≤ 1) : WayAt K A.C_WaySettings H (q.W w) (q.L w) (q.b w) (s.way (w == 0)) (edW s w : Nat) (spW s w : Nat) (mdW s w) ∧ [V.ref q.W0, .ref q.W1][w]? = some (.ref (q.W w)) ∧ q.M (q.W w) ∧ q.M (q.L w) := by
  by_cases h0 : w = 0
  · subst h0
    exact ⟨h.a0, rfl, .inr (.inl rfl), .inr (.inr (.inr (.inl rfl)))⟩
  · have : w = 1 := by omega
    subst this
    exact ⟨h.a1, rfl, .inr (.inr (.inl rfl)), .inr (.inr (.inr (.inr rfl)))⟩
/-- a way's part changed -/
theorem SetA.put {K : PySem.W.Frag} {A : Ad} {H H' : Hp} {q : Ads} {s : Si32.St} (h : SetA K A H q s) (w : Nat) (hw : w ≤ 1) {w' : Si32.Way} {bd : Addr} (hW : WayAt K A.C_WaySettings H' (q.W w) (q.L w) bd w' (edW s w : Nat) (spW s w : Nat) (mdW s w)) (k : ∀ c o, H c = some o → c ≠ q.W w → c ≠ q.L w → H' c = some o) : SetA K A H' (q.setb w bd) (s.with (w == 0) w') := by
  obtain ⟨sv, fv, hS, hsc⟩ := h.hS
  obtain ⟨⟨dw0, tv0, hW0, _⟩, hL0, kv0, hb0, _⟩ := id h.a0
  obtain ⟨⟨dw1, tv1, hW1, _⟩, hL1, kv1, hb1, _⟩ := id h.a1
  have hal : ∃ xs, H q.al = some (.lst xs) := by obtain ⟨ts, z, _⟩ := h.ar; exact ⟨_, z⟩
  obtain ⟨xal, hal⟩ := hal
  have n1 := h.n01
  have n2 := h.n0
  have n3 := h.n1
  have n4 := h.nL
  by_cases h0 : w = 0
  · subst h0
    have kk : ∀ c o, H c = some o → c ≠ q.W0 → c ≠ q.L0 → H' c = some o := k
    have kt : ∀ t xs, H t = some (.tup xs) → H' t = some (.tup xs) := fun t xs z => kk _ _ z (ne_of z hW0 (by intro z; cases z)) (ne_of z hL0 (by intro z; cases z))
    refine ⟨⟨sv, fv, kk _ _ hS (Ne.symm n2) (ne_of hS hL0 (by intro z; cases z)), hsc.keep kt⟩, kt _ _ h.hw, hW, h.a1.keep fun b o z c => kk b o z ?_ ?_, h.ar.keep fun b o z c => kk b o z ?_ ?_, kk _ _ h.hh ?_ ?_, kk _ _ h.hf ?_ ?_, n1, n2, n3, n4, h.ma, h.mh, h.mf⟩
    · rcases c with rfl | rfl | rfl | ⟨xs, rfl⟩
      · exact Ne.symm n1
      · exact ne_of hL1 hW0 (by intro z; cases z)
      · exact ne_of hb1 hW0 (by intro z; cases z)
      · exact ne_of z hW0 (by intro z; cases z)
    · rcases c with rfl | rfl | rfl | ⟨xs, rfl⟩
      · exact ne_of hW1 hL0 (by intro z; cases z)
      · exact Ne.symm n4
      · exact ne_of hb1 hL0 (by intro z; cases z)
      · exact ne_of z hL0 (by intro z; cases z)
    · rcases c with rfl | ⟨xs, rfl⟩
      · exact ne_of hal hW0 (by intro z; cases z)
      · exact ne_of z hW0 (by intro z; cases z)
    · rcases c with rfl | ⟨xs, rfl⟩
      · exact fun z => h.ma (.inr (.inr (.inr (.inl z))))
      · exact ne_of z hL0 (by intro z; cases z)
    · exact ne_of h.hh hW0 (by intro z; cases z)
    · exact fun z => h.mh (.inr (.inr (.inr (.inl z))))
    · exact ne_of h.hf hW0 (by intro z; cases z)
    · exact fun z => h.mf (.inr (.inr (.inr (.inl z))))
  · have : w = 1 := by omega
    subst this
    have kk : ∀ c o, H c = some o → c ≠ q.W1 → c ≠ q.L1 → H' c = some o := k
    have kt : ∀ t xs, H t = some (.tup xs) → H' t = some (.tup xs) := fun t xs z => kk _ _ z (ne_of z hW1 (by intro z; cases z)) (ne_of z hL1 (by intro z; cases z))
    refine ⟨⟨sv, fv, kk _ _ hS (Ne.symm n3) (ne_of hS hL1 (by intro z; cases z)), hsc.keep kt⟩, kt _ _ h.hw, h.a0.keep fun b o z c => kk b o z ?_ ?_, hW, h.ar.keep fun b o z c => kk b o z ?_ ?_, kk _ _ h.hh ?_ ?_, kk _ _ h.hf ?_ ?_, n1, n2, n3, n4, h.ma, h.mh, h.mf⟩
    · rcases c with rfl | rfl | rfl | ⟨xs, rfl⟩
      · exact n1
      · exact ne_of hL0 hW1 (by intro z; cases z)
      · exact ne_of hb0 hW1 (by intro z; cases z)
      · exact ne_of z hW1 (by intro z; cases z)
    · rcases c with rfl | rfl | rfl | ⟨xs, rfl⟩
      · exact ne_of hW0 hL1 (by intro z; cases z)
      · exact n4
      · exact ne_of hb0 hL1 (by intro z; cases z)
      · exact ne_of z hL1 (by intro z; cases z)
    · rcases c with rfl | ⟨xs, rfl⟩
      · exact ne_of hal hW1 (by intro z; cases z)
      · exact ne_of z hW1 (by intro z; cases z)
    · rcases c with rfl | ⟨xs, rfl⟩
      · exact fun z => h.ma (.inr (.inr (.inr (.inr z))))
      · exact ne_of z hL1 (by intro z; cases z)
    · exact ne_of h.hh hW1 (by intro z; cases z)
    · exact fun z => h.mh (.inr (.inr (.inr (.inr z))))
    · exact ne_of h.hf hW1 (by intro z; cases z)
    · exact fun z => h.mf (.inr (.inr (.inr (.inr z))))
end Sh

namespace Sh
open PySem PySem.Spec PyProof.Rows L2
open PySem.W (Codec)
/-- the settings' own attributes changed (what else is new stands elsewhere) -/
theorem SetA.own {K : PySem.W.Frag} {A : Ad} {H H' : Hp} {q : Ads} {s : Si32.St} (h : SetA K A H q s) (k : ∀ b o, H b = some o → b ≠ q.S → H' b = some o) :
    H' q.wt = some (.tup [.ref q.W0, .ref q.W1]) ∧ WayAt K A.C_WaySettings H' q.W0 q.L0 q.b0 s.rows (s.paper.top : Nat) (s.tall : Nat) s.down ∧ WayAt K A.C_WaySettings H' q.W1 q.L1 q.b1 s.cols (s.paper.left : Nat) (s.wide : Nat) s.across ∧
    AreasAt H' q.al s.areas ∧ H' q.hd = some (.lst (bv s.head)) ∧ H' q.ft = some (.lst (bv s.foot)) ∧ ∀ sv fv c, ScaleAt H sv fv c → ScaleAt H' sv fv c := by
  obtain ⟨sv, fv, hS, hsc⟩ := h.hS
  have kt : ∀ t xs, H t = some (.tup xs) → H' t = some (.tup xs) := fun t xs z => k _ _ z (ne_of z hS (by intro z; cases z))
  have kl : ∀ t xs, H t = some (.lst xs) → H' t = some (.lst xs) := fun t xs z => k _ _ z (ne_of z hS (by intro z; cases z))
  have kw : ∀ {a L bd : Addr} {w : Si32.Way} {e z : Int} {md : Bool}, WayAt K A.C_WaySettings H a L bd w e z md → a ≠ q.S → WayAt K A.C_WaySettings H' a L bd w e z md := fun {a L bd w e z md} hw hn => by
    have hw' := hw
    obtain ⟨_, hl, kv, hb, _⟩ := hw'
    refine hw.keep fun b o zz c => k b o zz ?_
    rcases c with rfl | rfl | rfl | ⟨xs, rfl⟩
    · exact hn
    · exact ne_of hl hS (by intro z; cases z)
    · exact ne_of hb hS (by intro z; cases z)
    · exact ne_of zz hS (by intro z; cases z)
  refine ⟨kt _ _ h.hw, kw h.a0 h.n0, kw h.a1 h.n1, h.ar.keep fun b o z c => ?_, kl _ _ h.hh, kl _ _ h.hf, fun sv fv c z => z.keep kt⟩
  rcases c with rfl | ⟨xs, rfl⟩
  · obtain ⟨ts, z', _⟩ := h.ar
    rw [z'] at z
    have e := Option.some.inj z
    subst e
    exact kl _ _ z'
  · exact kt _ _ z
theorem Good.way_most {s : Si32.St} (g : Good s) (w : Nat) : (s.way (w == 0)).most ≤ 4096 := by
  unfold Si32.St.way
  split
  · rw [g.gw0.2]; decide
  · rw [g.gw1.2]; decide
section
variable {P : Program} {w : World} {K : PySem.W.Frag} {mg : Str → Option Value} {base : Heap} {A : Ad}
def spMC (K : PySem.W.Frag) (A : Ad) : Sp := fun vs H Q E => ∃ (q : Ads) (s : Si32.St) (c : List (List Int)) (qc : Si32.Call) (na la g : Addr) (nm : Int) (a : List Int) (xs : List (List Int)) (rs : List Addr) (og : HO),
  vs = [.ref q.S, nameOf nm, .ref na, .ref la] ∧ c = (nm :: a) :: xs ∧ Is c qc ∧ nm < 10 ∧ H na = some (.lst (iv a)) ∧ H la = some (.lst (rs.map V.ref)) ∧ rs.length = xs.length ∧ (∀ (j : Nat) r x, rs[j]? = some r → xs[j]? = some x → H r = some (.lst (iv x)) ∧ ¬ q.M r ∧ r ≠ g) ∧
  SetA K A H q s ∧ Good s ∧ H g = some og ∧ q.al ≠ g ∧ q.hd ≠ g ∧ q.ft ≠ g ∧
  ((Si32.step s qc).2 = Si32.ok (-1) → ∀ H', Same H H' → E (.ref A.X_OutOfRange) none H') ∧ ((Si32.step s qc).2 = Si32.ok (-3) → ∀ H', Same H H' → E (.ref A.X_CannotBeTold) none H') ∧ ((Si32.step s qc).2 = Si32.ok (-5) → ∀ H', Same H H' → E (.ref A.X_TooMany) none H') ∧
  ∀ (H' : Hp) (q' : Ads) (r : Addr), SetA K A H' q' (Si32.step s qc).1 → q'.S = q.S → (∀ b, q'.M b → q.M b ∨ H b = none) → q'.al ≠ g → q'.hd ≠ g → q'.ft ≠ g → (∀ b o, H b = some o → ¬ q.M b → H' b = some o) → H r = none →
    H' r = some (.lst (iv ((Si32.step s qc).2.v :: (Si32.step s qc).2.l))) → Q (.ref r) H'
theorem ok_MC (T : Txt K mg A) : Ok P w K mg base (L2.CX P w) 5 A.f_make_change p_make_change (spMC K A) := by
  obtain ⟨fd, F, B⟩ := T.fn_make_change.ex
  have nd := sc_make_change.nd
  obtain ⟨_, B_SheetSettings_begin, G_SheetSettings_begin⟩ := (ok_Begin (P := P) (w := w) (base := base) T).ex
  obtain ⟨_, B_SheetSettings_set_areas, G_SheetSettings_set_areas⟩ := (ok_Areas (P := P) (w := w) (base := base) T).ex
  obtain ⟨_, B_SheetSettings_set_fit, G_SheetSettings_set_fit⟩ := (ok_Fit (P := P) (w := w) (base := base) T).ex
  obtain ⟨_, B_SheetSettings_set_heads, G_SheetSettings_set_heads⟩ := (ok_Heads (P := P) (w := w) (base := base) T).ex
  obtain ⟨_, B_SheetSettings_set_how, G_SheetSettings_set_how⟩ := (ok_How (P := P) (w := w) (base := base) T).ex
  obtain ⟨_, B_SheetSettings_set_paper, G_SheetSettings_set_paper⟩ := (ok_Paper (P := P) (w := w) (base := base) T).ex
  obtain ⟨_, B_SheetSettings_set_scale, G_SheetSettings_set_scale⟩ := (ok_Scale (P := P) (w := w) (base := base) T).ex
  obtain ⟨_, B_WaySettings_set_breaks, G_WaySettings_set_breaks⟩ := (ok_Breaks (P := P) (w := w) (base := base) T).ex
  obtain ⟨_, B_WaySettings_set_size, G_WaySettings_set_size⟩ := (ok_SetSize (P := P) (w := w) (base := base) T).ex
  obtain ⟨_, B_WaySettings_set_titles, G_WaySettings_set_titles⟩ := (ok_Titles (P := P) (w := w) (base := base) T).ex
  refine ⟨fd, B, F.okX sc_make_change (fun vs H Q E h => ?_) (fun cdv A' outer sh H vs Q E hr h => ?_)⟩
  · obtain ⟨q, s, c, qc, na, la, g, nm, a, xs, rs, og, rfl, _⟩ := h
    rfl
  · have tkE := takes_of (X := cxOf (L2.CX P w) P w K mg base n_make_change "make_change" (defScope s_make_change) A.f_make_change cdv A' outer sh H E) rfl rfl rfl rfl
    have pX := passes_call tkE (E := E) (fun _ _ _ _ h => h)
    have r1 := hr.mono (show 1 ≤ 4 by decide)
    have r2 := hr.mono (show 2 ≤ 4 by decide)
    have r3 := hr.mono (show 3 ≤ 4 by decide)
    refine ⟨_,
      (pss_cons (ps_if (pt_cmpR op_eq (pv 1) pe_str (nomark _)) (pss_one (ps_expr (pe_meth0 (pv 0) T.c_SheetSettings T.m_SheetSettings_begin G_SheetSettings_begin r3 B_SheetSettings_begin .nil pass0))) (pss_one (ps_if (pt_cmpR op_eq (pv 1) pe_str (nomark _)) (pss_cons (ps_set (i := 4) nd rfl (Or.inl rfl) (pe_ix ix_tup (pe_fld (pv 0) rfl) (pe_ix ix_list (pv 2) pe_int (fun _ _ => rfl)) (fun _ _ => rfl)))
          (pss_cons (ps_expr (pe_meth (pv 4) T.c_WaySettings T.m_WaySettings_set_size G_WaySettings_set_size r2 B_WaySettings_set_size .nil pX (pa_cons (pe_ix ix_list (pv 2) pe_int (fun _ _ => rfl)) (pa_cons (pe_ix ix_list (pv 2) pe_int (fun _ _ => rfl)) (pa_cons (pe_ix ix_list (pv 2) pe_int (fun _ _ => rfl)) pa_nil)))))
          (pss_one (ps_ret (pe_lst (pa_cons (pe_fld (pv 4) rfl) pa_nil)))))) (pss_one (ps_if (pt_cmpR op_eq (pv 1) pe_str (nomark _)) (pss_one (ps_expr (pe_meth (pv 0) T.c_SheetSettings T.m_SheetSettings_set_paper G_SheetSettings_set_paper r2 B_SheetSettings_set_paper .nil pX (pa_cons (pe_ix ix_list (pv 2) pe_int (fun _ _ => rfl)) (pa_cons (pe_ix ix_list (pv 2) pe_int (fun _ _ => rfl)) (pa_cons (pe_ix ix_list (pv 2) pe_int (fun _ _ => rfl)) (pa_cons (pe_ix ix_list (pv 2) pe_int (fun _ _ => rfl)) (pa_cons (pe_ix ix_list (pv 2) pe_int (fun _ _ => rfl)) (pa_cons (pe_ix ix_list (pv 2) pe_int (fun _ _ => rfl)) pa_nil))))))))) (pss_one (ps_if (pt_cmpR op_eq (pv 1) pe_str (nomark _)) (pss_cons (ps_expr (pe_meth (pv 0) T.c_SheetSettings T.m_SheetSettings_set_areas G_SheetSettings_set_areas r2 B_SheetSettings_set_areas .nil pX (pa_cons (pe_ix ix_list (pv 3) pe_int (fun _ _ => rfl)) pa_nil)))
              (pss_one (ps_ret (pe_lst (pa_cons (pe_callB call_len_seq (by rfl) T.bl_len PySem.boot_len (pa_cons (pe_fld (pv 0) rfl) pa_nil)) pa_nil))))) (pss_one (ps_if (pt_cmpR op_eq (pv 1) pe_str (nomark _)) (pss_one (ps_expr (pe_meth (pe_ix ix_tup (pe_fld (pv 0) rfl) (pe_ix ix_list (pv 2) pe_int (fun _ _ => rfl)) (fun _ _ => rfl)) T.c_WaySettings T.m_WaySettings_set_titles G_WaySettings_set_titles r2 B_WaySettings_set_titles .nil pX (pa_cons (pe_ix ix_list (pv 3) pe_int (fun _ _ => rfl)) pa_nil)))) (pss_one (ps_if (pt_cmpR op_eq (pv 1) pe_str (nomark _)) (pss_one (ps_expr (pe_meth (pe_ix ix_tup (pe_fld (pv 0) rfl) (pe_ix ix_list (pv 2) pe_int (fun _ _ => rfl)) (fun _ _ => rfl)) T.c_WaySettings T.m_WaySettings_set_breaks G_WaySettings_set_breaks r1 B_WaySettings_set_breaks .nil pX (pa_cons (pe_ix ix_list (pv 3) pe_int (fun _ _ => rfl)) pa_nil)))) (pss_one (ps_if (pt_cmpR op_eq (pv 1) pe_str (nomark _)) (pss_one (ps_expr (pe_meth (pv 0) T.c_SheetSettings T.m_SheetSettings_set_scale G_SheetSettings_set_scale r1 B_SheetSettings_set_scale .nil pX (pa_cons (pe_ix ix_list (pv 2) pe_int (fun _ _ => rfl)) pa_nil)))) (pss_one (ps_if (pt_cmpR op_eq (pv 1) pe_str (nomark _)) (pss_one (ps_expr (pe_meth (pv 0) T.c_SheetSettings T.m_SheetSettings_set_fit G_SheetSettings_set_fit r1 B_SheetSettings_set_fit .nil pX (pa_cons (pe_ix ix_list (pv 2) pe_int (fun _ _ => rfl)) (pa_cons (pe_ix ix_list (pv 2) pe_int (fun _ _ => rfl)) pa_nil))))) (pss_one (ps_if (pt_cmpR op_eq (pv 1) pe_str (nomark _)) (pss_one (ps_expr (pe_meth (pv 0) T.c_SheetSettings T.m_SheetSettings_set_how G_SheetSettings_set_how r1 B_SheetSettings_set_how .nil pX (pa_cons (pe_ix ix_list (pv 2) pe_int (fun _ _ => rfl)) (pa_cons (pe_ix ix_list (pv 2) pe_int (fun _ _ => rfl)) (pa_cons (pe_ix ix_list (pv 2) pe_int (fun _ _ => rfl)) (pa_cons (pe_ix ix_list (pv 2) pe_int (fun _ _ => rfl)) pa_nil))))))) (pss_one (ps_if (pt_cmpR op_eq (pv 1) pe_str (nomark _)) (pss_one (ps_expr (pe_meth (pv 0) T.c_SheetSettings T.m_SheetSettings_set_heads G_SheetSettings_set_heads hr B_SheetSettings_set_heads .nil pX (pa_cons (pe_ix ix_list (pv 3) pe_int (fun _ _ => rfl)) (pa_cons (pe_ix ix_list (pv 3) pe_int (fun _ _ => rfl)) pa_nil))))) pss_nil)))))))))))))))))))
      (pss_one (ps_ret (pe_lst (pa_cons pe_int pa_nil))))), ?_⟩
    obtain ⟨q, s, c, qc, na, la, g, nm, a, xs, rs, og, rfl, hc, hI, hnm, hna, hla, hrl, hrs, hset, gd, hg, gal, ghd, gft, e1, e3, e5, k⟩ := h
    obtain ⟨sv, fv, hS, hsc⟩ := hset.hS
    have hfin : ∀ (H1 : Hp) (q' : Ads) (v : Int), (Si32.step s qc).2 = Si32.ok v → SetA K A H1 q' (Si32.step s qc).1 → q'.S = q.S → (∀ b, q'.M b → q.M b ∨ H b = none) → q'.al ≠ g → q'.hd ≠ g → q'.ft ≠ g → (∀ b o, H b = some o → ¬ q.M b → H1 b = some o) → (∀ b, H1 b = none → H b = none) →
        ∀ r, H1 r = none → Q (.ref r) (upd H1 r (.lst [.int v])) := fun H1 q' v hv hs' hq hM h1 h2 h3 hk hfr r hr => by
      refine k _ q' r (hs'.keep fun b o hb => (upd_ne (ne_of_none hb hr)).trans hb) hq hM h1 h2 h3 (fun b o hb nb => (upd_ne (ne_of_none (hk b o hb nb) hr)).trans (hk b o hb nb)) (hfr r hr) ?_
      rw [upd_same, hv]
      rfl
    have mfree : ∀ b, q.M b → ∃ o, H b = some o := fun b hb => by
      obtain ⟨⟨dw0, tv0, hW0, _⟩, hL0, _⟩ := id hset.a0
      obtain ⟨⟨dw1, tv1, hW1, _⟩, hL1, _⟩ := id hset.a1
      rcases hb with rfl | rfl | rfl | rfl | rfl
      · exact ⟨_, hS⟩
      · exact ⟨_, hW0⟩
      · exact ⟨_, hW1⟩
      · exact ⟨_, hL0⟩
      · exact ⟨_, hL1⟩
    have setM : ∀ {H1 : Hp} {q' : Ads} {s' : Si32.St}, SetA K A H1 q' s' → ∀ b, q'.M b → ∃ o, H1 b = some o := fun {H1 q' s'} hs b hb => by
      obtain ⟨_, _, hS', _⟩ := hs.hS
      obtain ⟨⟨_, _, hW0, _⟩, hL0, _⟩ := id hs.a0
      obtain ⟨⟨_, _, hW1, _⟩, hL1, _⟩ := id hs.a1
      rcases hb with rfl | rfl | rfl | rfl | rfl
      · exact ⟨_, hS'⟩
      · exact ⟨_, hW0⟩
      · exact ⟨_, hW1⟩
      · exact ⟨_, hL0⟩
      · exact ⟨_, hL1⟩
    have hfree : ∀ {H1 : Hp}, (∀ b o, H b = some o → ¬ q.M b → H1 b = some o) → (∀ b, q.M b → ∃ o, H1 b = some o) → ∀ b, H1 b = none → H b = none := fun {H1} k1 k2 b hb => by
      cases e : H b with
      | none => rfl
      | some o =>
        by_cases hn : q.M b
        · obtain ⟨o', z⟩ := k2 b hn
          rw [z] at hb; cases hb
        · rw [k1 b o e hn] at hb; cases hb
    -- what is left to be told when the settings are as they were, but for their own
    have hend : ∀ (H1 : Hp) (q' : Ads) (v : Int), (Si32.step s qc).2 = Si32.ok v → SetA K A H1 q' (Si32.step s qc).1 → q'.S = q.S → (∀ b, q'.M b ↔ q.M b) → q'.al ≠ g → q'.hd ≠ g → q'.ft ≠ g → (∀ b o, H b = some o → ¬ q.M b → H1 b = some o) → ∀ r, H1 r = none → Q (.ref r) (upd H1 r (.lst [.int v])) :=
      fun H1 q' v hv hs' hq hM h1 h2 h3 hk => hfin H1 q' v hv hs' hq (fun b hb => .inl ((hM b).mp hb)) h1 h2 h3 hk (hfree hk fun b hb => setM hs' b ((hM b).mpr hb))
    cases hI with
    | begins =>
      cases hc
      refine ⟨_, rfl, rfl, _, rfl, if_true_of (by decide +kernel) ⟨_, rfl, q.S, q.dx, _, rfl, hS, nm_SheetSettings_begin, q.S, q.dx, _, rfl, hS, .inr ⟨_, _, _, _, _, _, _, _, rfl⟩, fun H1 q' h1 h2 h3 h4 h5 h6 h7 => ⟨by show 1 ≤ sizeLine; decide, fun r hr => ?_⟩⟩⟩
      refine hfin H1 q' 0 rfl h1 h2 (fun b hb => (h3 b hb).imp_left fun z => .inl z) (fun z => by rw [z, hg] at h4; cases h4) (fun z => by rw [z, hg] at h5; cases h5) (fun z => by rw [z, hg] at h6; cases h6) (fun b o hb nb => h7 b o hb fun z => nb (.inl z)) (fun b hb => ?_) r hr
      cases e : H b with
      | none => rfl
      | some o =>
        by_cases hn : b = q.S
        · obtain ⟨_, _, z, _⟩ := h1.hS
          rw [hn, ← h2, z] at hb; cases hb
        · rw [h7 b o e hn] at hb; cases hb
    | size w a b n hw ha hb hn =>
      cases hc
      refine ⟨_, rfl, rfl, _, rfl, if_false_of (by decide +kernel) ?_⟩
      obtain ⟨hWA, hwl, hMW, hML⟩ := hset.way w hw
      obtain ⟨⟨dw, tv, hWw, _⟩, _⟩ := id hWA
      refine ⟨_, rfl, rfl, _, rfl, if_true_of (by decide +kernel) ?_⟩
      refine ⟨_, rfl, q.S, _, q.dx, _, _, rfl, hS, T.c_SheetSettings, T.na_SheetSettings_ways, lk_SheetSettings_ways, _, rfl, na, _, 0, .int (w : Nat), rfl, rfl, SqL.of hna, rfl, q.wt, _, w, .ref (q.W w), rfl, rfl, SqT.of hset.hw, atI_nat hwl, ?_⟩
      refine ⟨_, rfl, q.W w, dw, _, rfl, hWw, nm_WaySettings_set_size, _, rfl, na, _, 1, .int (a : Nat), rfl, rfl, SqL.of hna, rfl, _, rfl, na, _, 2, .int (b : Nat), rfl, rfl, SqL.of hna, rfl, _, rfl, na, _, 3, .int (n : Nat), rfl, rfl, SqL.of hna, rfl, ?_⟩
      have hmost := gd.way_most w
      refine ⟨q.W w, q.L w, q.b w, s.way (w == 0), _, _, _, a, b, n, rfl, hWA, by omega, fun c => e1 ?_ H (Same.refl H), fun c c2 => e5 ?_ H (Same.refl H), fun c c2 H1 hW1 k1 => ?_⟩
      · simp only [Si32.step]; rw [if_pos c]
      · simp only [Si32.step]; rw [if_neg c, if_pos (show Si32.TOLD ≤ _ from c2)]
      have e : Si32.step s (.size (w == 0) a b n) = (s.with (w == 0) { s.way (w == 0) with told := (a, b, n) :: (s.way (w == 0)).told }, Si32.ok (((s.way (w == 0)).told.length : Int) + 1)) := by
        simp only [Si32.step]; rw [if_neg c, if_neg (show ¬ Si32.TOLD ≤ _ by show ¬ 200 ≤ _; omega)]
      obtain ⟨⟨dw', tv', hp1, _⟩, _⟩ := id hW1
      refine ⟨_, rfl, q.W w, _, dw', _, _, rfl, hp1, T.c_WaySettings, T.na_WaySettings_sizes_told, lk_WaySettings_sizes_told, by show 1 ≤ sizeLine; decide, fun r hr => ?_⟩
      obtain ⟨y1, y2, y3, y4, y5, y6, y7, y8, y9, y10⟩ := setb_eq q w (q.b w)
      refine hend H1 (q.setb w (q.b w)) _ (by rw [e]; rfl) (by rw [e]; exact hset.put w hw hW1 k1) y1 (setb_M q w _) (by rw [y7]; exact gal) (by rw [y8]; exact ghd) (by rw [y9]; exact gft) (fun b' o hb' nb => k1 b' o hb' (fun z => nb (z ▸ hMW)) (fun z => nb (z ▸ hML))) r hr
    | paper x0 x1 x2 x3 x4 x5 =>
      cases hc
      refine ⟨_, rfl, rfl, _, rfl, if_false_of (by decide +kernel) ?_⟩
      refine ⟨_, rfl, rfl, _, rfl, if_false_of (by decide +kernel) ?_⟩
      obtain ⟨⟨dw0, tv0, hW0, _⟩, hL0, _⟩ := id hset.a0
      obtain ⟨⟨dw1, tv1, hW1, _⟩, hL1, _⟩ := id hset.a1
      refine ⟨_, rfl, rfl, _, rfl, if_true_of (by decide +kernel) ⟨_, rfl, q.S, q.dx, _, rfl, hS, nm_SheetSettings_set_paper, _, rfl, na, _, 0, .int (x0 : Nat), rfl, rfl, SqL.of hna, rfl, _, rfl, na, _, 1, .int (x1 : Nat), rfl, rfl, SqL.of hna, rfl, _, rfl, na, _, 2, .int (x2 : Nat), rfl, rfl, SqL.of hna, rfl, _, rfl, na, _, 3, .int (x3 : Nat), rfl, rfl, SqL.of hna, rfl, _, rfl, na, _, 4, .int (x4 : Nat), rfl, rfl, SqL.of hna, rfl, _, rfl, na, _, 5, .int (x5 : Nat), rfl, rfl, SqL.of hna, rfl, ?_⟩⟩
      refine ⟨q.S, q.dx, q.wt, q.W0, q.W1, q.L0, q.L1, q.b0, q.b1, _, s.rows, s.cols, _, _, _, _, s.down, s.across, ⟨x0, x1, x2, x3, x4, x5⟩, rfl, hS, lk_SheetSettings_ways, hset.hw, hset.a0, hset.a1, hset.n01, hset.n0, hset.n1, fun c => e1 ?_ H (Same.refl H), fun c H1 a0' a1' k1 => ⟨by show 1 ≤ sizeLine; decide, fun r hr => ?_⟩⟩
      · simp only [Si32.step]; rw [if_pos c]
      have e : Si32.step s (.paper ⟨x0, x1, x2, x3, x4, x5⟩) = ({ s with paper := ⟨x0, x1, x2, x3, x4, x5⟩ }, Si32.ok 0) := by
        simp only [Si32.step]; rw [if_neg (by rw [c]; simp)]
      have kk : ∀ b o, H b = some o → b ≠ q.W0 → b ≠ q.W1 → H1 b = some o := k1
      have kt : ∀ t xs, H t = some (.tup xs) → H1 t = some (.tup xs) := fun t xs z => kk _ _ z (ne_of z hW0 (by intro z; cases z)) (ne_of z hW1 (by intro z; cases z))
      have kl : ∀ t xs, H t = some (.lst xs) → H1 t = some (.lst xs) := fun t xs z => kk _ _ z (ne_of z hW0 (by intro z; cases z)) (ne_of z hW1 (by intro z; cases z))
      refine hend H1 q 0 (by rw [e]) ?_ rfl (fun b => Iff.rfl) gal ghd gft (fun b o hb nb => kk b o hb (fun z => nb (.inr (.inl z))) (fun z => nb (.inr (.inr (.inl z))))) r hr
      rw [e]
      refine ⟨⟨sv, fv, kk _ _ hS (Ne.symm hset.n0) (Ne.symm hset.n1), hsc.keep kt⟩, kt _ _ hset.hw, a0', a1', ?_, kl _ _ hset.hh, kl _ _ hset.hf, hset.n01, hset.n0, hset.n1, hset.nL, hset.ma, hset.mh, hset.mf⟩
      obtain ⟨ts, z1, z2, z3⟩ := hset.ar
      exact ⟨ts, kl _ _ z1, z2, fun j t a q1 q2 => kt _ _ (z3 j t a q1 q2)⟩
    | areas l hl h4 hm ha =>
      cases hc
      refine ⟨_, rfl, rfl, _, rfl, if_false_of (by decide +kernel) ?_⟩
      refine ⟨_, rfl, rfl, _, rfl, if_false_of (by decide +kernel) ?_⟩
      refine ⟨_, rfl, rfl, _, rfl, if_false_of (by decide +kernel) ?_⟩
      obtain ⟨⟨dw0, tv0, hW0, _⟩, hL0, _⟩ := id hset.a0
      obtain ⟨⟨dw1, tv1, hW1, _⟩, hL1, _⟩ := id hset.a1
      obtain ⟨r0, rfl⟩ := len1 (show rs.length = 1 from hrl)
      obtain ⟨hr0, _, _⟩ := hrs 0 r0 _ rfl rfl
      have hfl := areas_flat (l.length / 4) l (by omega)
      have hil : intl l = l.map fun (n : Nat) => (n : Int) := rfl
      rw [hil] at hfl
      have hW0' := hW0
      have hW1' := hW1
      rw [gd.gw0.2] at hW0'
      rw [gd.gw1.2] at hW1'
      have hst : ∀ o, Si32.step s (.areas (Si32Neutral.areasOf (l.map fun (n : Nat) => (n : Int)))) = o ↔ (if (Si32Neutral.areasOf (l.map fun (n : Nat) => (n : Int))).all Si32.goodArea = false then (s, Si32.ok (-1)) else if Si32.AREAS < (Si32Neutral.areasOf (l.map fun (n : Nat) => (n : Int))).length then (s, Si32.ok (-5)) else ({ s with areas := Si32Neutral.areasOf (l.map fun (n : Nat) => (n : Int)) }, Si32.ok ((Si32Neutral.areasOf (l.map fun (n : Nat) => (n : Int))).length : Int))) = o := fun o => Iff.rfl
      generalize hgs : Si32Neutral.areasOf (l.map fun (n : Nat) => (n : Int)) = as at *
      refine ⟨_, rfl, rfl, _, rfl, if_true_of (by decide +kernel) ⟨_, rfl, q.S, q.dx, _, rfl, hS, nm_SheetSettings_set_areas, _, rfl, la, _, 0, .ref r0, rfl, rfl, SqL.of hla, rfl, ?_⟩⟩
      refine ⟨q.S, q.dx, q.wt, q.W0, q.W1, dw0, dw1, r0, _, _, _, _, _, _, _, _, _, _, _, _, _, _, _, as, rfl, hS, of_decide_eq_true rfl, lk_SheetSettings_ways, hset.hw, hW0', hW1', SqL.of (by rw [hr0, hfl.1]; rfl), by omega, fun c H1 s1 => e1 ?_ H1 s1, fun c c2 H1 s1 => e5 ?_ H1 s1, fun c c2 H1 al hal hat hS1 k1 => ?_⟩
      · rw [(hst _).mpr rfl, if_pos c]
      · rw [(hst _).mpr rfl, if_neg (by rw [c]; simp), if_pos (show Si32.AREAS < _ from c2)]
      have e : Si32.step s (.areas as) = ({ s with areas := as }, Si32.ok (as.length : Int)) := by
        rw [(hst _).mpr rfl, if_neg (by rw [c]; simp), if_neg (show ¬ Si32.AREAS < _ by show ¬ 32 < _; omega)]
      rw [put_SheetSettings_areas] at hS1
      obtain ⟨y1, y2, y3, y4, y5, y6, y7⟩ := hset.own k1
      have hatl : ∃ xs, H1 al = some (.lst xs) ∧ xs.length = as.length := by obtain ⟨ts, z1, z2, _⟩ := hat; exact ⟨_, z1, by rw [List.length_map, z2]⟩
      obtain ⟨xs, hal1, hall⟩ := hatl
      refine ⟨_, rfl, q.S, _, q.dx, _, _, rfl, hS1, T.c_SheetSettings, T.na_SheetSettings_areas, lk_SheetSettings_areas, al, _, rfl, .inl (SqL.of hal1), by show 1 ≤ sizeLine; decide, fun r hr => ?_⟩
      rw [hall]
      refine hend H1 { q with al := al } _ (by rw [e]) ?_ rfl (fun b => Iff.rfl) (fun z => by rw [show al = g from z, hg] at hal; cases hal) ghd gft (fun b o hb nb => k1 b o hb fun z => nb (.inl z)) r hr
      rw [e]
      exact ⟨⟨sv, fv, hS1, y7 _ _ _ hsc⟩, y1, y2, y3, hat, y5, y6, hset.n01, hset.n0, hset.n1, hset.nL, (fun z => by obtain ⟨o, zz⟩ := mfree al z; rw [hal] at zz; cases zz), hset.mh, hset.mf⟩
    | untitled w hw =>
      cases hc
      refine ⟨_, rfl, rfl, _, rfl, if_false_of (by decide +kernel) ?_⟩
      refine ⟨_, rfl, rfl, _, rfl, if_false_of (by decide +kernel) ?_⟩
      refine ⟨_, rfl, rfl, _, rfl, if_false_of (by decide +kernel) ?_⟩
      refine ⟨_, rfl, rfl, _, rfl, if_false_of (by decide +kernel) ?_⟩
      obtain ⟨hWA, hwl, hMW, hML⟩ := hset.way w hw
      obtain ⟨⟨dw, tv, hWw, _⟩, _⟩ := id hWA
      obtain ⟨r0, rfl⟩ := len1 (show rs.length = 1 from hrl)
      obtain ⟨hr0, _, _⟩ := hrs 0 r0 _ rfl rfl
      refine ⟨_, rfl, rfl, _, rfl, if_true_of (by decide +kernel) ?_⟩
      refine ⟨_, rfl, q.S, _, q.dx, _, _, rfl, hS, T.c_SheetSettings, T.na_SheetSettings_ways, lk_SheetSettings_ways, _, rfl, na, _, 0, .int (w : Nat), rfl, rfl, SqL.of hna, rfl, q.wt, _, w, .ref (q.W w), rfl, rfl, SqT.of hset.hw, atI_nat hwl, ?_⟩
      refine ⟨q.W w, dw, _, rfl, hWw, nm_WaySettings_set_titles, _, rfl, la, _, 0, .ref r0, rfl, rfl, SqL.of hla, rfl, ?_⟩
      refine ⟨q.W w, q.L w, q.b w, r0, s.way (w == 0), _, _, _, none, rfl, hWA, SqL.of hr0, fun c => absurd c (by simp), fun c H1 hW1 k1 => ⟨by show 1 ≤ sizeLine; decide, fun r hr => ?_⟩⟩
      have e : Si32.step s (.titles (w == 0) none) = (s.with (w == 0) { s.way (w == 0) with titles := none }, Si32.ok 0) := by
        simp only [Si32.step]; rw [if_neg (by simp)]
      obtain ⟨y1, y2, y3, y4, y5, y6, y7, y8, y9, y10⟩ := setb_eq q w (q.b w)
      refine hend H1 (q.setb w (q.b w)) 0 (by rw [e]) (by rw [e]; exact hset.put w hw hW1 fun c o hc h1 h2 => k1 c o hc h1) y1 (setb_M q w _) (by rw [y7]; exact gal) (by rw [y8]; exact ghd) (by rw [y9]; exact gft) (fun b' o hb' nb => k1 b' o hb' (fun z => nb (z ▸ hMW))) r hr
    | titles w a b hw ha hb =>
      cases hc
      refine ⟨_, rfl, rfl, _, rfl, if_false_of (by decide +kernel) ?_⟩
      refine ⟨_, rfl, rfl, _, rfl, if_false_of (by decide +kernel) ?_⟩
      refine ⟨_, rfl, rfl, _, rfl, if_false_of (by decide +kernel) ?_⟩
      refine ⟨_, rfl, rfl, _, rfl, if_false_of (by decide +kernel) ?_⟩
      obtain ⟨hWA, hwl, hMW, hML⟩ := hset.way w hw
      obtain ⟨⟨dw, tv, hWw, _⟩, _⟩ := id hWA
      obtain ⟨r0, rfl⟩ := len1 (show rs.length = 1 from hrl)
      obtain ⟨hr0, _, _⟩ := hrs 0 r0 _ rfl rfl
      refine ⟨_, rfl, rfl, _, rfl, if_true_of (by decide +kernel) ?_⟩
      refine ⟨_, rfl, q.S, _, q.dx, _, _, rfl, hS, T.c_SheetSettings, T.na_SheetSettings_ways, lk_SheetSettings_ways, _, rfl, na, _, 0, .int (w : Nat), rfl, rfl, SqL.of hna, rfl, q.wt, _, w, .ref (q.W w), rfl, rfl, SqT.of hset.hw, atI_nat hwl, ?_⟩
      refine ⟨q.W w, dw, _, rfl, hWw, nm_WaySettings_set_titles, _, rfl, la, _, 0, .ref r0, rfl, rfl, SqL.of hla, rfl, ?_⟩
      refine ⟨q.W w, q.L w, q.b w, r0, s.way (w == 0), _, _, _, some (a, b), rfl, hWA, SqL.of hr0, fun c => e1 ?_ H (Same.refl H), fun c H1 hW1 k1 => ⟨by show 1 ≤ sizeLine; decide, fun r hr => ?_⟩⟩
      · simp only [Si32.step]; rw [if_pos c]
      have e : Si32.step s (.titles (w == 0) (some (a, b))) = (s.with (w == 0) { s.way (w == 0) with titles := some (a, b) }, Si32.ok 0) := by
        simp only [Si32.step]; rw [if_neg c]
      obtain ⟨y1, y2, y3, y4, y5, y6, y7, y8, y9, y10⟩ := setb_eq q w (q.b w)
      refine hend H1 (q.setb w (q.b w)) 0 (by rw [e]) (by rw [e]; exact hset.put w hw hW1 fun c o hc h1 h2 => k1 c o hc h1) y1 (setb_M q w _) (by rw [y7]; exact gal) (by rw [y8]; exact ghd) (by rw [y9]; exact gft) (fun b' o hb' nb => k1 b' o hb' (fun z => nb (z ▸ hMW))) r hr
    | breaks w l hw hl hm =>
      cases hc
      refine ⟨_, rfl, rfl, _, rfl, if_false_of (by decide +kernel) ?_⟩
      refine ⟨_, rfl, rfl, _, rfl, if_false_of (by decide +kernel) ?_⟩
      refine ⟨_, rfl, rfl, _, rfl, if_false_of (by decide +kernel) ?_⟩
      refine ⟨_, rfl, rfl, _, rfl, if_false_of (by decide +kernel) ?_⟩
      refine ⟨_, rfl, rfl, _, rfl, if_false_of (by decide +kernel) ?_⟩
      obtain ⟨hWA, hwl, hMW, hML⟩ := hset.way w hw
      obtain ⟨⟨dw, tv, hWw, _⟩, _⟩ := id hWA
      obtain ⟨r0, rfl⟩ := len1 (show rs.length = 1 from hrl)
      obtain ⟨hr0, _, _⟩ := hrs 0 r0 _ rfl rfl
      refine ⟨_, rfl, rfl, _, rfl, if_true_of (by decide +kernel) ?_⟩
      refine ⟨_, rfl, q.S, _, q.dx, _, _, rfl, hS, T.c_SheetSettings, T.na_SheetSettings_ways, lk_SheetSettings_ways, _, rfl, na, _, 0, .int (w : Nat), rfl, rfl, SqL.of hna, rfl, q.wt, _, w, .ref (q.W w), rfl, rfl, SqT.of hset.hw, atI_nat hwl, ?_⟩
      refine ⟨q.W w, dw, _, rfl, hWw, nm_WaySettings_set_breaks, _, rfl, la, _, 0, .ref r0, rfl, rfl, SqL.of hla, rfl, ?_⟩
      refine ⟨q.W w, q.L w, q.b w, r0, s.way (w == 0), _, _, _, l, rfl, hWA, SqL.of (by rw [hr0]; unfold iv; rw [List.map_map]; rfl), by omega, fun c => e1 ?_ H (Same.refl H), fun c c2 => e5 ?_ H (Same.refl H), fun c c2 H1 bd' hW1 hbd' k1 => ⟨by show 1 ≤ sizeLine; decide, fun r hr => ?_⟩⟩
      · simp only [Si32.step]; rw [if_pos c]
      · simp only [Si32.step]; rw [if_neg c, if_pos (show Si32.BREAKS < _ from c2)]
      have e : Si32.step s (.breaks (w == 0) l) = (s.with (w == 0) { s.way (w == 0) with breaks := l }, Si32.ok 0) := by
        simp only [Si32.step]; rw [if_neg c, if_neg (show ¬ Si32.BREAKS < _ by show ¬ 500 < _; omega)]
      obtain ⟨y1, y2, y3, y4, y5, y6, y7, y8, y9, y10⟩ := setb_eq q w bd'
      refine hend H1 (q.setb w bd') 0 (by rw [e]) (by rw [e]; exact hset.put w hw hW1 fun c o hc h1 h2 => k1 c o hc h1) y1 (setb_M q w _) (by rw [y7]; exact gal) (by rw [y8]; exact ghd) (by rw [y9]; exact gft) (fun b' o hb' nb => k1 b' o hb' (fun z => nb (z ▸ hMW))) r hr
    | scale p =>
      cases hc
      refine ⟨_, rfl, rfl, _, rfl, if_false_of (by decide +kernel) ?_⟩
      refine ⟨_, rfl, rfl, _, rfl, if_false_of (by decide +kernel) ?_⟩
      refine ⟨_, rfl, rfl, _, rfl, if_false_of (by decide +kernel) ?_⟩
      refine ⟨_, rfl, rfl, _, rfl, if_false_of (by decide +kernel) ?_⟩
      refine ⟨_, rfl, rfl, _, rfl, if_false_of (by decide +kernel) ?_⟩
      refine ⟨_, rfl, rfl, _, rfl, if_false_of (by decide +kernel) ?_⟩
      refine ⟨_, rfl, rfl, _, rfl, if_true_of (by decide +kernel) ⟨_, rfl, q.S, q.dx, _, rfl, hS, nm_SheetSettings_set_scale, _, rfl, na, _, 0, .int (p : Nat), rfl, rfl, SqL.of hna, rfl, ?_⟩⟩
      have hgs : Si32.goodScale (.told p) = true ↔ (10 ≤ p ∧ p ≤ 400) := by
        unfold Si32.goodScale Si32.LEAST
        simp only [Bool.and_eq_true, decide_eq_true_eq]
      refine ⟨q.S, q.dx, _, _, _, _, _, _, _, _, p, rfl, hS, fun c => e1 ?_ H (Same.refl H), fun c => ⟨by show 1 ≤ sizeLine; decide, fun r hr => ?_⟩⟩
      · simp only [Si32.step]; rw [if_pos (by rw [← Bool.not_eq_true, hgs]; exact c)]
      have e : Si32.step s (.scale (.told p)) = ({ s with scale := .told p }, Si32.ok 0) := by
        simp only [Si32.step]; rw [if_neg (by rw [hgs.mpr c]; simp)]
      obtain ⟨y1, y2, y3, y4, y5, y6, y7⟩ := hset.own (H' := upd H q.S (.ins A.C_SheetSettings q.dx (F_SheetSettings (.ref q.wt) (.ref q.al) (.int (p : Nat)) .non (.bl s.over) (.int s.first) (.ref q.hd) (.ref q.ft)))) fun b o hb hn => (upd_ne hn).trans hb
      refine hend _ q 0 (by rw [e]) ?_ rfl (fun b => Iff.rfl) gal ghd gft (fun b o hb nb => (upd_ne fun z => nb (.inl z)).trans hb) r hr
      rw [e]
      exact ⟨⟨_, _, upd_same, rfl, rfl⟩, y1, y2, y3, y4, y5, y6, hset.n01, hset.n0, hset.n1, hset.nL, hset.ma, hset.mh, hset.mf⟩
    | fit x y =>
      cases hc
      refine ⟨_, rfl, rfl, _, rfl, if_false_of (by decide +kernel) ?_⟩
      refine ⟨_, rfl, rfl, _, rfl, if_false_of (by decide +kernel) ?_⟩
      refine ⟨_, rfl, rfl, _, rfl, if_false_of (by decide +kernel) ?_⟩
      refine ⟨_, rfl, rfl, _, rfl, if_false_of (by decide +kernel) ?_⟩
      refine ⟨_, rfl, rfl, _, rfl, if_false_of (by decide +kernel) ?_⟩
      refine ⟨_, rfl, rfl, _, rfl, if_false_of (by decide +kernel) ?_⟩
      refine ⟨_, rfl, rfl, _, rfl, if_false_of (by decide +kernel) ?_⟩
      refine ⟨_, rfl, rfl, _, rfl, if_true_of (by decide +kernel) ⟨_, rfl, q.S, q.dx, _, rfl, hS, nm_SheetSettings_set_fit, _, rfl, na, _, 0, .int (x : Nat), rfl, rfl, SqL.of hna, rfl, _, rfl, na, _, 1, .int (y : Nat), rfl, rfl, SqL.of hna, rfl, ?_⟩⟩
      have hgs : Si32.goodScale (.fit x y) = true ↔ (x ≤ 1000 ∧ y ≤ 1000) := by
        unfold Si32.goodScale
        simp only [Bool.and_eq_true, decide_eq_true_eq]
      refine ⟨q.S, q.dx, _, _, _, _, _, _, _, _, x, y, rfl, hS, fun c => e1 ?_ H (Same.refl H), fun c t ht => ⟨by show 1 ≤ sizeLine; decide, fun r hr => ?_⟩⟩
      · simp only [Si32.step]; rw [if_pos (by rw [← Bool.not_eq_true, hgs]; exact c)]
      have e : Si32.step s (.scale (.fit x y)) = ({ s with scale := .fit x y }, Si32.ok 0) := by
        simp only [Si32.step]; rw [if_neg (by rw [hgs.mpr c]; simp)]
      have St : q.S ≠ t := ne_of_none hS ht
      obtain ⟨y1, y2, y3, y4, y5, y6, y7⟩ := hset.own (H' := upd (upd H t (.tup [.int (x : Nat), .int (y : Nat)])) q.S (.ins A.C_SheetSettings q.dx (F_SheetSettings (.ref q.wt) (.ref q.al) sv (.ref t) (.bl s.over) (.int s.first) (.ref q.hd) (.ref q.ft)))) fun b o hb hn => (upd_ne hn).trans ((upd_ne (ne_of_none hb ht)).trans hb)
      refine hend _ q 0 (by rw [e]) ?_ rfl (fun b => Iff.rfl) gal ghd gft (fun b o hb nb => (upd_ne fun z => nb (.inl z)).trans ((upd_ne (ne_of_none hb ht)).trans hb)) r hr
      rw [e]
      exact ⟨⟨_, _, upd_same, t, rfl, (upd_ne (Ne.symm St)).trans upd_same⟩, y1, y2, y3, y4, y5, y6, hset.n01, hset.n0, hset.n1, hset.nL, hset.ma, hset.mh, hset.mf⟩
    | how o a d f =>
      cases hc
      refine ⟨_, rfl, rfl, _, rfl, if_false_of (by decide +kernel) ?_⟩
      refine ⟨_, rfl, rfl, _, rfl, if_false_of (by decide +kernel) ?_⟩
      refine ⟨_, rfl, rfl, _, rfl, if_false_of (by decide +kernel) ?_⟩
      refine ⟨_, rfl, rfl, _, rfl, if_false_of (by decide +kernel) ?_⟩
      refine ⟨_, rfl, rfl, _, rfl, if_false_of (by decide +kernel) ?_⟩
      refine ⟨_, rfl, rfl, _, rfl, if_false_of (by decide +kernel) ?_⟩
      refine ⟨_, rfl, rfl, _, rfl, if_false_of (by decide +kernel) ?_⟩
      refine ⟨_, rfl, rfl, _, rfl, if_false_of (by decide +kernel) ?_⟩
      obtain ⟨⟨dw0, tv0, hW0, ht0⟩, hL0, kv0, hb0, hk0⟩ := id hset.a0
      obtain ⟨⟨dw1, tv1, hW1, ht1⟩, hL1, kv1, hb1, hk1⟩ := id hset.a1
      refine ⟨_, rfl, rfl, _, rfl, if_true_of (by decide +kernel) ⟨_, rfl, q.S, q.dx, _, rfl, hS, nm_SheetSettings_set_how, _, rfl, na, _, 0, .int (o : Nat), rfl, rfl, SqL.of hna, rfl, _, rfl, na, _, 1, .int (a : Nat), rfl, rfl, SqL.of hna, rfl, _, rfl, na, _, 2, .int (d : Nat), rfl, rfl, SqL.of hna, rfl, _, rfl, na, _, 3, .int f, rfl, rfl, SqL.of hna, rfl, ?_⟩⟩
      refine ⟨q.S, q.dx, q.wt, q.W0, q.W1, dw0, dw1, _, _, _, _, _, _, _, _, _, _, _, _, _, _, _, _, _, _, _, _, _, _, _, (o : Int), (a : Int), (d : Int), f, rfl, hS, hset.hw, hW0, hW1, hset.n01, hset.n0, hset.n1, fun c => e1 ?_ H (Same.refl H), fun c => ⟨by show 1 ≤ sizeLine; decide, fun r hr => ?_⟩⟩
      · simp only [Si32.step]; rw [if_pos (show f < -Si32.FIRST ∨ Si32.FIRST < f from c)]
      have e : Si32.step s (.how (o == 1) (a == 1) (d == 1) f) = ({ s with over := o == 1, across := a == 1, down := d == 1, first := f }, Si32.ok 0) := by
        simp only [Si32.step]; rw [if_neg (show ¬ (f < -Si32.FIRST ∨ Si32.FIRST < f) from c)]
      rw [eq1, eq1, eq1] at *
      generalize hH1 : upd (upd (upd H q.W0 (.ins A.C_WaySettings dw0 (F_WaySettings (.int (s.rows.most : Nat)) (.ref q.L0) (.int (s.rows.told.length : Nat)) (.int (s.paper.top : Nat)) (.int (s.tall : Nat)) (.bl (d == 1)) tv0 (.ref q.b0)))) q.W1 (.ins A.C_WaySettings dw1 (F_WaySettings (.int (s.cols.most : Nat)) (.ref q.L1) (.int (s.cols.told.length : Nat)) (.int (s.paper.left : Nat)) (.int (s.wide : Nat)) (.bl (a == 1)) tv1 (.ref q.b1)))) q.S (.ins A.C_SheetSettings q.dx (F_SheetSettings (.ref q.wt) (.ref q.al) sv fv (.bl (o == 1)) (.int f) (.ref q.hd) (.ref q.ft))) = H1 at *
      have kk : ∀ b ob, H b = some ob → b ≠ q.W0 → b ≠ q.W1 → b ≠ q.S → H1 b = some ob := fun b ob hb n1 n2 n3 => by rw [← hH1, upd_ne n3, upd_ne n2, upd_ne n1]; exact hb
      have kt : ∀ t xs, H t = some (.tup xs) → H1 t = some (.tup xs) := fun t xs z => kk _ _ z (ne_of z hW0 (by intro z; cases z)) (ne_of z hW1 (by intro z; cases z)) (ne_of z hS (by intro z; cases z))
      have kl : ∀ t xs, H t = some (.lst xs) → H1 t = some (.lst xs) := fun t xs z => kk _ _ z (ne_of z hW0 (by intro z; cases z)) (ne_of z hW1 (by intro z; cases z)) (ne_of z hS (by intro z; cases z))
      have kd : ∀ t xs, H t = some (.dK xs) → H1 t = some (.dK xs) := fun t xs z => kk _ _ z (ne_of z hW0 (by intro z; cases z)) (ne_of z hW1 (by intro z; cases z)) (ne_of z hS (by intro z; cases z))
      refine hend H1 q 0 (by rw [e]) ?_ rfl (fun b => Iff.rfl) gal ghd gft (fun b ob hb nb => kk b ob hb (fun z => nb (.inr (.inl z))) (fun z => nb (.inr (.inr (.inl z)))) (fun z => nb (.inl z))) r hr
      rw [e]
      refine ⟨⟨sv, fv, by rw [← hH1]; exact upd_same, hsc.keep kt⟩, kt _ _ hset.hw, ⟨⟨dw0, tv0, by rw [← hH1, upd_ne hset.n0, upd_ne hset.n01]; exact upd_same, ht0.keep kt⟩, kl _ _ hL0, kv0, kd _ _ hb0, hk0⟩, ⟨⟨dw1, tv1, by rw [← hH1, upd_ne hset.n1]; exact upd_same, ht1.keep kt⟩, kl _ _ hL1, kv1, kd _ _ hb1, hk1⟩, ?_, kl _ _ hset.hh, kl _ _ hset.hf, hset.n01, hset.n0, hset.n1, hset.nL, hset.ma, hset.mh, hset.mf⟩
      obtain ⟨ts, z1, z2, z3⟩ := hset.ar
      exact ⟨ts, kl _ _ z1, z2, fun j t a q1 q2 => kt _ _ (z3 j t a q1 q2)⟩
    | heads h f hh hf mh mf =>
      cases hc
      refine ⟨_, rfl, rfl, _, rfl, if_false_of (by decide +kernel) ?_⟩
      refine ⟨_, rfl, rfl, _, rfl, if_false_of (by decide +kernel) ?_⟩
      refine ⟨_, rfl, rfl, _, rfl, if_false_of (by decide +kernel) ?_⟩
      refine ⟨_, rfl, rfl, _, rfl, if_false_of (by decide +kernel) ?_⟩
      refine ⟨_, rfl, rfl, _, rfl, if_false_of (by decide +kernel) ?_⟩
      refine ⟨_, rfl, rfl, _, rfl, if_false_of (by decide +kernel) ?_⟩
      refine ⟨_, rfl, rfl, _, rfl, if_false_of (by decide +kernel) ?_⟩
      refine ⟨_, rfl, rfl, _, rfl, if_false_of (by decide +kernel) ?_⟩
      refine ⟨_, rfl, rfl, _, rfl, if_false_of (by decide +kernel) ?_⟩
      obtain ⟨r0, r1', rfl⟩ := len2 (show rs.length = 2 from hrl)
      obtain ⟨hr0, nr0, gr0⟩ := hrs 0 r0 _ rfl rfl
      obtain ⟨hr1, nr1, gr1⟩ := hrs 1 r1' _ rfl rfl
      refine ⟨_, rfl, rfl, _, rfl, if_true_of (by decide +kernel) ⟨_, rfl, q.S, q.dx, _, rfl, hS, nm_SheetSettings_set_heads, _, rfl, la, _, 0, .ref r0, rfl, rfl, SqL.of hla, rfl, _, rfl, la, _, 1, .ref r1', rfl, rfl, SqL.of hla, rfl, ?_⟩⟩
      refine ⟨q.S, q.dx, r0, r1', _, _, _, _, _, _, _, _, h, f, rfl, hS, hr0, hr1, by omega, by omega, fun c H1 s1 => e3 ?_ H1 s1, fun c H1 s1 => ⟨by show 1 ≤ sizeLine; decide, fun r hr => ?_⟩⟩
      · simp only [Si32.step]; rw [if_pos c]
      have e : Si32.step s (.heads h f) = ({ s with head := h, foot := f }, Si32.ok 0) := by
        simp only [Si32.step]; rw [if_neg (by rw [c]; simp)]
      obtain ⟨y1, y2, y3, y4, y5, y6, y7⟩ := hset.own (H' := upd H1 q.S (.ins A.C_SheetSettings q.dx (F_SheetSettings (.ref q.wt) (.ref q.al) sv fv (.bl s.over) (.int s.first) (.ref r0) (.ref r1')))) fun b o hb hn => (upd_ne hn).trans (s1 b o hb)
      refine hend _ { q with hd := r0, ft := r1' } 0 (by rw [e]) ?_ rfl (fun b => Iff.rfl) gal gr0 gr1 (fun b o hb nb => (upd_ne fun z => nb (.inl z)).trans (s1 b o hb)) r hr
      rw [e]
      exact ⟨⟨_, _, upd_same, y7 _ _ _ hsc⟩, y1, y2, y3, y4, (upd_ne fun z => nr0 (.inl z)).trans (s1 _ _ hr0), (upd_ne fun z => nr1 (.inl z)).trans (s1 _ _ hr1), hset.n01, hset.n0, hset.n1, hset.nL, hset.ma, nr0, nr1⟩
    | pages => cases hc; exact absurd hnm (by decide)
    | page n => cases hc; exact absurd hnm (by decide)
    | where_ r c => cases hc; exact absurd hnm (by decide)
    | texts n => cases hc; exact absurd hnm (by decide)
end
end Sh

namespace Sh
open PySem PySem.Spec PyProof.Rows L2
open PySem.W (Codec)
theorem goodText_parts {b : List Nat} (h : Si32.goodText b = true) (pg : Int) (ps ar : Nat) : ∃ x, Si32.parts pg ps ar b = some x := by
  rw [goodText_eq b pg ps ar, Bool.and_eq_true] at h
  exact Option.isSome_iff_exists.mp h.2
section
variable {P : Program} {w : World} {K : PySem.W.Frag} {mg : Str → Option Value} {base : Heap} {A : Ad}
def spAQ (K : PySem.W.Frag) (A : Ad) : Sp := fun vs H Q E => ∃ (p : Addr) (q : Ads) (N : Addr → Prop) (s : Si32.St) (c : List (List Int)) (qc : Si32.Call) (na : Addr) (nm : Int) (a : List Int) (xs : List (List Int)),
  vs = [.ref p, nameOf nm, .ref na] ∧ c = (nm :: a) :: xs ∧ Is c qc ∧ 10 ≤ nm ∧ H na = some (.lst (iv a)) ∧ PgAt K A H N p q.S s ∧ SetA K A H q s ∧ Good s ∧
  ((Si32.step s qc).2 = Si32.ok (-1) → E (.ref A.X_OutOfRange) none H) ∧ ((Si32.step s qc).2 = Si32.ok (-6) → E (.ref A.X_NoSuchPage) none H) ∧
  ∀ (H' : Hp) (r : Addr), Same H H' → H r = none → H' r = some (.lst (iv ((Si32.step s qc).2.v :: (Si32.step s qc).2.l))) → Q (.ref r) H'
theorem ok_AQ (T : Txt K mg A) : Ok P w K mg base (L2.CX P w) 6 A.f_answer_question p_answer_question (spAQ K A) := by
  obtain ⟨fd, F, B⟩ := T.fn_answer_question.ex
  have nd := sc_answer_question.nd
  obtain ⟨_, B_SheetPages_tell_page, G_SheetPages_tell_page⟩ := (ok_TellPage (P := P) (w := w) (base := base) T).ex
  obtain ⟨_, B_SheetPages_tell_pages, G_SheetPages_tell_pages⟩ := (ok_TellPages (P := P) (w := w) (base := base) T).ex
  obtain ⟨_, B_SheetPages_tell_texts, G_SheetPages_tell_texts⟩ := (ok_TellTexts (P := P) (w := w) (base := base) T).ex
  obtain ⟨_, B_SheetPages_tell_where, G_SheetPages_tell_where⟩ := (ok_TellWhere (P := P) (w := w) (base := base) T).ex
  refine ⟨fd, B, F.okX sc_answer_question (fun vs H Q E h => ?_) (fun cdv A' outer sh H vs Q E hr h => ?_)⟩
  · obtain ⟨p, q, N, s, c, qc, na, nm, a, xs, rfl, _⟩ := h
    rfl
  · have tkE := takes_of (X := cxOf (L2.CX P w) P w K mg base n_answer_question "answer_question" (defScope s_answer_question) A.f_answer_question cdv A' outer sh H E) rfl rfl rfl rfl
    have pX := passes_call tkE (E := E) (fun _ _ _ _ h => h)
    refine ⟨_,
      (pss_cons (ps_if (pt_cmpR op_eq (pv 1) pe_str (nomark _)) (pss_one (ps_ret (pe_meth (pv 0) T.c_SheetPages T.m_SheetPages_tell_page G_SheetPages_tell_page (hr.mono (by decide)) B_SheetPages_tell_page .nil pX (pa_cons (pe_ix ix_list (pv 2) pe_int (fun _ _ => rfl)) pa_nil)))) pss_nil)
      (pss_cons (ps_if (pt_cmpR op_eq (pv 1) pe_str (nomark _)) (pss_one (ps_ret (pe_meth (pv 0) T.c_SheetPages T.m_SheetPages_tell_where G_SheetPages_tell_where hr B_SheetPages_tell_where .nil pX (pa_cons (pe_ix ix_list (pv 2) pe_int (fun _ _ => rfl)) (pa_cons (pe_ix ix_list (pv 2) pe_int (fun _ _ => rfl)) pa_nil))))) pss_nil)
      (pss_cons (ps_if (pt_cmpR op_eq (pv 1) pe_str (nomark _)) (pss_one (ps_ret (pe_meth (pv 0) T.c_SheetPages T.m_SheetPages_tell_texts G_SheetPages_tell_texts (hr.mono (by decide)) B_SheetPages_tell_texts .nil pX (pa_cons (pe_ix ix_list (pv 2) pe_int (fun _ _ => rfl)) pa_nil)))) pss_nil)
      (pss_one (ps_ret (pe_meth0 (pv 0) T.c_SheetPages T.m_SheetPages_tell_pages G_SheetPages_tell_pages (hr.mono (by decide)) B_SheetPages_tell_pages .nil pass0)))))), ?_⟩
    obtain ⟨p, q, N, s, c, qc, na, nm, a, xs, rfl, hc, hI, hnm, hna, hpg, hset, gd, e1, e6, k⟩ := h
    obtain ⟨dx, R0, R1, pl, us, hp, _⟩ := hpg.ex
    cases hI with
    | begins => cases hc; exact absurd hnm (by decide)
    | size w a b n hw ha hb hn => cases hc; exact absurd hnm (by decide)
    | paper x0 x1 x2 x3 x4 x5 => cases hc; exact absurd hnm (by decide)
    | areas l hl h4 hm ha => cases hc; exact absurd hnm (by decide)
    | untitled w hw => cases hc; exact absurd hnm (by decide)
    | titles w a b hw ha hb => cases hc; exact absurd hnm (by decide)
    | breaks w l hw hl hm => cases hc; exact absurd hnm (by decide)
    | scale p => cases hc; exact absurd hnm (by decide)
    | fit x y => cases hc; exact absurd hnm (by decide)
    | how o a d f => cases hc; exact absurd hnm (by decide)
    | heads h f hh hf mh mf => cases hc; exact absurd hnm (by decide)
    | pages =>
      cases hc
      refine ⟨_, rfl, rfl, _, rfl, if_false_of (by decide +kernel) ?_⟩
      refine ⟨_, rfl, rfl, _, rfl, if_false_of (by decide +kernel) ?_⟩
      refine ⟨_, rfl, rfl, _, rfl, if_false_of (by decide +kernel) ?_⟩
      exact ⟨_, rfl, p, dx, _, rfl, hp, nm_SheetPages_tell_pages, p, q.S, N, s, rfl, hpg, gd, fun H' r s1 h1 h2 => k H' r s1 h1 h2⟩
    | page n hn =>
      cases hc
      refine ⟨_, rfl, rfl, _, rfl, if_true_of (by decide +kernel) ⟨_, rfl, p, dx, _, rfl, hp, nm_SheetPages_tell_page, _, rfl, na, _, 0, .int (n : Nat), rfl, rfl, SqL.of hna, rfl, p, q.S, N, s, n, rfl, hpg, gd, fun h => e6 ?_, fun x hx H' r s1 h1 h2 => k H' r s1 h1 ?_⟩⟩
      · simp only [Si32.step]; rw [h]
      · have e : (Si32.step s (.page n)).2 = ⟨0, s.toldPage x⟩ := by simp only [Si32.step]; rw [hx]
        rw [e]; exact h2
    | where_ r c hr' hc' =>
      cases hc
      refine ⟨_, rfl, rfl, _, rfl, if_false_of (by decide +kernel) ?_⟩
      refine ⟨_, rfl, rfl, _, rfl, if_true_of (by decide +kernel) ⟨_, rfl, p, dx, _, rfl, hp, nm_SheetPages_tell_where, _, rfl, na, _, 0, .int (r : Nat), rfl, rfl, SqL.of hna, rfl, _, rfl, na, _, 1, .int (c : Nat), rfl, rfl, SqL.of hna, rfl, p, q, N, s, r, c, rfl, hpg, hset, gd, fun h => e1 ?_, fun h H' r' s1 h1 h2 => k H' r' s1 h1 ?_⟩⟩
      · simp only [Si32.step]; rw [if_pos (show Si32.ROWS ≤ r ∨ Si32.COLS ≤ c from h)]
      · have e : (Si32.step s (.where_ r c)).2 = ⟨((s.where_ r c).length : Int), (s.where_ r c).flatMap whereAns⟩ := by
          simp only [Si32.step]; rw [if_neg (show ¬ (Si32.ROWS ≤ r ∨ Si32.COLS ≤ c) from h)]
          rfl
        rw [e]; exact h2
    | texts n hn =>
      cases hc
      refine ⟨_, rfl, rfl, _, rfl, if_false_of (by decide +kernel) ?_⟩
      refine ⟨_, rfl, rfl, _, rfl, if_false_of (by decide +kernel) ?_⟩
      refine ⟨_, rfl, rfl, _, rfl, if_true_of (by decide +kernel) ⟨_, rfl, p, dx, _, rfl, hp, nm_SheetPages_tell_texts, _, rfl, na, _, 0, .int (n : Nat), rfl, rfl, SqL.of hna, rfl, p, q, N, s, n, rfl, hpg, hset, gd, fun h => e6 ?_, fun x pa pb hx ha hb H' r s1 h1 h2 => k H' r s1 h1 ?_⟩⟩
      · simp only [Si32.step]; rw [h]
      · have e : (Si32.step s (.texts n)).2 = ⟨0, Si32.ofParts pa ++ Si32.ofParts pb⟩ := by
          simp only [Si32.step]; rw [hx]; simp only [ha, hb]
        rw [e]; exact h2
end
end Sh

namespace Sh
open PySem PySem.Spec PyProof.Rows L2
open PySem.W (Codec)
/-- a refusal changes nothing -/
theorem refuse_same (s : Si32.St) (qc : Si32.Call) (h : (Si32.step s qc).2.v < 0) : (Si32.step s qc).1 = s := by
  cases qc with
  | begins => exact absurd h (by show ¬ ((0 : Int) < 0); decide)
  | size r a b n =>
    simp only [Si32.step] at h ⊢
    split
    · rfl
    · rename_i h1
      rw [if_neg h1] at h
      split
      · rfl
      · rename_i h2
        rw [if_neg h2] at h
        exact absurd h (by show ¬ (((s.way r).told.length : Int) + 1 < 0); omega)
  | paper p =>
    simp only [Si32.step] at h ⊢
    split
    · rfl
    · rename_i h1
      rw [if_neg h1] at h
      exact absurd h (by show ¬ ((0 : Int) < 0); decide)
  | areas l =>
    simp only [Si32.step] at h ⊢
    split
    · rfl
    · rename_i h1
      rw [if_neg h1] at h
      split
      · rfl
      · rename_i h2
        rw [if_neg h2] at h
        exact absurd h (by show ¬ ((l.length : Int) < 0); omega)
  | titles r t =>
    simp only [Si32.step] at h ⊢
    split
    · rfl
    · rename_i h1
      rw [if_neg h1] at h
      exact absurd h (by show ¬ ((0 : Int) < 0); decide)
  | breaks r l =>
    simp only [Si32.step] at h ⊢
    split
    · rfl
    · rename_i h1
      rw [if_neg h1] at h
      split
      · rfl
      · rename_i h2
        rw [if_neg h2] at h
        exact absurd h (by show ¬ ((0 : Int) < 0); decide)
  | scale x =>
    simp only [Si32.step] at h ⊢
    split
    · rfl
    · rename_i h1
      rw [if_neg h1] at h
      exact absurd h (by show ¬ ((0 : Int) < 0); decide)
  | how o a d f =>
    simp only [Si32.step] at h ⊢
    split
    · rfl
    · rename_i h1
      rw [if_neg h1] at h
      exact absurd h (by show ¬ ((0 : Int) < 0); decide)
  | heads hh f =>
    simp only [Si32.step] at h ⊢
    split
    · rfl
    · rename_i h1
      rw [if_neg h1] at h
      exact absurd h (by show ¬ ((0 : Int) < 0); decide)
  | pages => rfl
  | page n => rfl
  | where_ r c => rfl
  | texts n => rfl
/-! ### the sheet in the heap -/
structure ShAt (K : PySem.W.Frag) (A : Ad) (H : Hp) (g o : Addr) (q : Ads) (s : Si32.St) : Prop where
  set : SetA K A H q s
  sh : ∃ d kv, H o = some (.ins A.C_Sheet d (F_Sheet (.ref q.S) kv)) ∧ KeptAt K A H (fun b => b ≠ g ∧ b ≠ o) q.S s kv
  nMo : ¬ q.M o
  nMg : ¬ q.M g
  gal : q.al ≠ g
  ghd : q.hd ≠ g
  gft : q.ft ≠ g
  og : ∃ xs, H g = some (.lst xs)
theorem ShAt.keep {K : PySem.W.Frag} {A : Ad} {H H' : Hp} {g o : Addr} {q : Ads} {s : Si32.St} (h : ShAt K A H g o q s) (k : Same H H') : ShAt K A H' g o q s := by
  obtain ⟨d, kv, h1, h2⟩ := h.sh
  obtain ⟨xs, h3⟩ := h.og
  refine ⟨h.set.keep k, ⟨d, kv, k _ _ h1, ?_⟩, h.nMo, h.nMg, h.gal, h.ghd, h.gft, ⟨xs, k _ _ h3⟩⟩
  rcases h2 with rfl | ⟨p, rfl, hp⟩
  · exact .inl rfl
  · exact .inr ⟨p, rfl, hp.keep (fun b ob hb _ => k b ob hb) fun b ob _ n => n⟩
section
variable {P : Program} {w : World} {K : PySem.W.Frag} {mg : Str → Option Value} {base : Heap} {A : Ad}
def spAC (K : PySem.W.Frag) (A : Ad) : Sp := fun vs H Q _ => ∃ (g o : Addr) (q : Ads) (s : Si32.St) (c : List (List Int)) (qc : Si32.Call) (na la : Addr) (nm : Int) (a : List Int) (xs : List (List Int)) (rs : List Addr),
  vs = [.ref o, nameOf nm, .ref na, .ref la] ∧ c = (nm :: a) :: xs ∧ Is c qc ∧ H na = some (.lst (iv a)) ∧ H la = some (.lst (rs.map V.ref)) ∧ rs.length = xs.length ∧ (∀ (j : Nat) r x, rs[j]? = some r → xs[j]? = some x → H r = some (.lst (iv x)) ∧ ¬ q.M r ∧ r ≠ g) ∧
  ShAt K A H g o q s ∧ Good s ∧
  ∀ (H' : Hp) (q' : Ads) (r : Addr), ShAt K A H' g o q' (Si32.step s qc).1 → (∀ b, q'.M b → q.M b ∨ H b = none) → (∀ b ob, H b = some ob → ¬ q.M b → b ≠ o → H' b = some ob) → H r = none →
    H' r = some (.lst (iv ((Si32.step s qc).2.v :: (Si32.step s qc).2.l))) → Q (.ref r) H'
theorem name_in {c : List (List Int)} {qc : Si32.Call} (hI : Is c qc) {nm : Int} {a : List Int} {xs : List (List Int)} (hc : c = (nm :: a) :: xs) : inV (nameOf nm) row_QUESTIONS = decide (10 ≤ nm) ∧ flatV (nameOf nm) = true := by
  cases hI <;> cases hc <;> decide +kernel
theorem ques_same {c : List (List Int)} {qc : Si32.Call} (hI : Is c qc) {nm : Int} {a : List Int} {xs : List (List Int)} (hc : c = (nm :: a) :: xs) (hq : 10 ≤ nm) (s : Si32.St) : (Si32.step s qc).1 = s := by
  cases hI <;> cases hc <;> first | exact absurd hq (by decide) | rfl
theorem ok_AC (T : Txt K mg A) : Ok P w K mg base CX0 10 A.f_answer_call p_answer_call (spAC K A) := by
  obtain ⟨fd, F, B⟩ := T.fn_answer_call.ex
  have nd := sc_answer_call.nd
  obtain ⟨_, B_Sheet_ask, G_Sheet_ask⟩ := (ok_Ask (P := P) (w := w) (base := base) T).ex
  obtain ⟨_, B_Sheet_change, G_Sheet_change⟩ := (ok_Change (P := P) (w := w) (base := base) T).ex
  obtain ⟨_, B_answer_question, G_answer_question⟩ := (ok_AQ (P := P) (w := w) (base := base) T).ex
  obtain ⟨_, B_make_change, G_make_change⟩ := (ok_MC (P := P) (w := w) (base := base) T).ex
  refine ⟨fd, B, F.ok sc_answer_call (fun vs H Q E h => ?_) (fun cdv A' outer sh H vs Q E hr h => ⟨_,
      (pss_one (ps_try_many rfl rfl takes0 (fun W pn xe tk _ => (pss_cons (ps_if (pt_cmpR (r := rIn K false) op_in_seq (pv 1) (pe_glob (v := .ref A.t_QUESTIONS) rfl T.g_QUESTIONS rfl) (by rfl)) (pss_one (ps_ret (pe_callS G_answer_question (hr.mono (by decide)) rfl T.g_answer_question T.k_answer_question B_answer_question (fun σ => passAt tk σ) (by exact (pa_cons (pe_meth0 (pv 0) T.c_Sheet T.m_Sheet_ask G_Sheet_ask hr B_Sheet_ask .nil pass0) (pa_cons (pv 1) (pa_cons (pv 2) pa_nil))))))) pss_nil)
        (pss_one (ps_ret (pe_callS G_make_change (hr.mono (by decide)) rfl T.g_make_change T.k_make_change B_make_change (fun σ => passAt tk σ) (by exact (pa_cons (pe_meth0 (pv 0) T.c_Sheet T.m_Sheet_change G_Sheet_change (hr.mono (by decide)) B_Sheet_change .nil pass0) (pa_cons (pv 1) (pa_cons (pv 2) (pa_cons (pv 3) pa_nil)))))))))) (.cons ⟨rfl, by decide, .inl T.g_OutOfRange⟩ (fun a oe cls d pn _ _ => (pss_one (ps_ret (pe_lst (pa_cons (pe_un un_neg pe_int) pa_nil))))) (.cons ⟨rfl, by decide, .inl T.g_CannotBeTold⟩ (fun a oe cls d pn _ _ => (pss_one (ps_ret (pe_lst (pa_cons (pe_un un_neg pe_int) pa_nil))))) (.cons ⟨rfl, by decide, .inl T.g_TooMany⟩ (fun a oe cls d pn _ _ => (pss_one (ps_ret (pe_lst (pa_cons (pe_un un_neg pe_int) pa_nil))))) (.cons ⟨rfl, by decide, .inl T.g_NoSuchPage⟩ (fun a oe cls d pn _ _ => (pss_one (ps_ret (pe_lst (pa_cons (pe_un un_neg pe_int) pa_nil))))) .nil)))))), ?_⟩)⟩
  · obtain ⟨g, o, q, s, c, qc, na, la, nm, a, xs, rs, rfl, _⟩ := h
    rfl
  · obtain ⟨g, o, q, s, c, qc, na, la, nm, a, xs, rs, rfl, hc, hI, hna, hla, hrl, hrs, hsh, gd, k⟩ := h
    obtain ⟨hin, hfl⟩ := name_in hI hc
    obtain ⟨d, kv, ho, hkept⟩ := hsh.sh
    obtain ⟨gx, hg⟩ := hsh.og
    have og : o ≠ g := ne_of ho hg (by intro z; cases z)
    refine ⟨_, rfl, A.t_QUESTIONS, row_QUESTIONS, rfl, .inr (T.s_QUESTIONS _), hfl, by decide +kernel, _, rfl, ?_⟩
    by_cases hq : 10 ≤ nm
    · refine if_true_of (by show inV (nameOf nm) row_QUESTIONS = true; rw [hin]; exact decide_eq_true hq) ?_
      have NO : ¬ (fun b => b ≠ g ∧ b ≠ o) o := fun z => z.2 rfl
      obtain ⟨⟨dw0, tv0, hW0, _⟩, hL0, kv0, hb0, _⟩ := id hsh.set.a0
      obtain ⟨⟨dw1, tv1, hW1, _⟩, hL1, kv1, hb1, _⟩ := id hsh.set.a1
      have NM : ∀ b, q.M b → b ≠ g ∧ b ≠ o := fun b hb => ⟨fun z => hsh.nMg (z ▸ hb), fun z => hsh.nMo (z ▸ hb)⟩
      have ND : ∀ {b kvs}, H b = some (.dK kvs) → b ≠ g ∧ b ≠ o := fun h => ⟨ne_of h hg (by intro z; cases z), ne_of h ho (by intro z; cases z)⟩
      refine ⟨_, rfl, o, d, _, rfl, ho, nm_Sheet_ask, o, d, q, s, (fun b => b ≠ g ∧ b ≠ o), kv, rfl, ho, hsh.set, gd, hsh.nMo, NO, hkept, fun b hb => ⟨fun z => (by rw [z, hg] at hb; cases hb), fun z => (by rw [z, ho] at hb; cases hb)⟩, NM _ (.inr (.inl rfl)), NM _ (.inr (.inr (.inl rfl))), NM _ (.inr (.inr (.inr (.inl rfl)))), NM _ (.inr (.inr (.inr (.inr rfl)))), ND hb0, ND hb1, fun H1 p hs1 hpg1 ho1 k1 => ?_⟩
      have hsh1 : ShAt K A H1 g o q s := ⟨hs1, ⟨d, .ref p, ho1, .inr ⟨p, rfl, hpg1⟩⟩, hsh.nMo, hsh.nMg, hsh.gal, hsh.ghd, hsh.gft, ⟨gx, k1 _ _ hg (Ne.symm og)⟩⟩
      have free1 : ∀ b, H1 b = none → H b = none := fun b hb => by
        cases e : H b with
        | none => rfl
        | some ob =>
          by_cases hn : b = o
          · rw [hn, ho1] at hb; cases hb
          · rw [k1 b ob e hn] at hb; cases hb
      have hsame := ques_same hI hc hq s
      have fin : ∀ (H' : Hp) (r : Addr), Same H1 H' → H1 r = none → H' r = some (.lst (iv ((Si32.step s qc).2.v :: (Si32.step s qc).2.l))) → Q (.ref r) H' := fun H' r s1 h1 h2 => k H' q r (by rw [hsame]; exact hsh1.keep s1) (fun b hb => .inl hb) (fun b ob hb _ hn => s1 _ _ (k1 b ob hb hn)) (free1 r h1) h2
      have nao : na ≠ o := ne_of hna ho (by intro z; cases z)
      refine ⟨_, rfl, _, rfl, p, q, _, s, c, qc, na, nm, a, xs, rfl, hc, hI, hq, k1 _ _ hna nao, hpg1, hs1, gd, fun h => ?_, fun h => ?_, fun H' r s1 h1 h2 => fin H' r s1 h1 h2⟩
      · refine ⟨true, T.e_OutOfRange_OutOfRange, fun _ x hx => ?_, fun z => nomatch z⟩
        exact ⟨1, rfl, by show 1 ≤ sizeLine; decide, fun r hr => fin _ r (fun b ob hb => (upd_ne (ne_of_none hb hr)).trans hb) hr (by rw [upd_same, h]; rfl)⟩
      · refine ⟨false, T.e_NoSuchPage_OutOfRange, fun z => (nomatch z), fun _ => ⟨false, T.e_NoSuchPage_CannotBeTold, fun z => (nomatch z), fun _ => ⟨false, T.e_NoSuchPage_TooMany, fun z => (nomatch z), fun _ => ⟨true, T.e_NoSuchPage_NoSuchPage, fun _ x hx => ?_, fun z => nomatch z⟩⟩⟩⟩
        exact ⟨6, rfl, by show 1 ≤ sizeLine; decide, fun r hr => fin _ r (fun b ob hb => (upd_ne (ne_of_none hb hr)).trans hb) hr (by rw [upd_same, h]; rfl)⟩
    · refine if_false_of (by show inV (nameOf nm) row_QUESTIONS = false; rw [hin]; exact decide_eq_false hq) ?_
      refine ⟨_, rfl, o, d, _, rfl, ho, nm_Sheet_change, o, d, .ref q.S, kv, rfl, ho, ?_⟩
      generalize hH2 : upd H o (.ins A.C_Sheet d (F_Sheet (.ref q.S) .non)) = H2
      have ho2 : H2 o = some (.ins A.C_Sheet d (F_Sheet (.ref q.S) .non)) := by rw [← hH2]; exact upd_same
      have k2 : ∀ b ob, H b = some ob → b ≠ o → H2 b = some ob := fun b ob hb hn => by rw [← hH2, upd_ne hn]; exact hb
      have free2 : ∀ b, H2 b = none → H b = none := fun b hb => by
        cases e : H b with
        | none => rfl
        | some ob =>
          by_cases hn : b = o
          · rw [hn, ho2] at hb; cases hb
          · rw [k2 b ob e hn] at hb; cases hb
      have kl : ∀ {b xs}, H b = some (.lst xs) → H2 b = some (.lst xs) := fun h => k2 _ _ h (ne_of h ho (by intro z; cases z))
      have hset2 := hsh.set.not_ins ho hsh.nMo k2
      have hsh2 : ShAt K A H2 g o q s := ⟨hset2, ⟨d, .non, ho2, .inl rfl⟩, hsh.nMo, hsh.nMg, hsh.gal, hsh.ghd, hsh.gft, ⟨gx, kl hg⟩⟩
      have ref : ∀ (v : Int) (H' : Hp), v < 0 → (Si32.step s qc).2 = Si32.ok v → Same H2 H' → ∀ r, H' r = none → Q (.ref r) (upd H' r (.lst [.int v])) := fun v H' hv h s1 r hr => by
        have s2 : Same H' (upd H' r (.lst [.int v])) := fun b ob hb => (upd_ne (ne_of_none hb hr)).trans hb
        refine k _ q r ?_ (fun b hb => .inl hb) (fun b ob hb _ hn => s2 _ _ (s1 _ _ (k2 b ob hb hn))) (free2 r (s1.free hr)) (by rw [upd_same, h]; rfl)
        rw [refuse_same s qc (by rw [h]; exact hv)]
        exact (hsh2.keep s1).keep s2
      refine ⟨_, rfl, _, rfl, _, rfl, q, s, c, qc, na, la, g, nm, a, xs, rs, _, rfl, hc, hI, by omega, kl hna, kl hla, hrl, fun j r x q1 q2 => ?_, hset2, gd, kl hg, hsh.gal, hsh.ghd, hsh.gft, fun h H' s1 => ?_, fun h H' s1 => ?_, fun h H' s1 => ?_, fun H' q' r hs' hS' hM h1 h2 h3 hk hr hl => ?_⟩
      · obtain ⟨z1, z2, z3⟩ := hrs j r x q1 q2
        exact ⟨kl z1, z2, z3⟩
      · refine ⟨true, T.e_OutOfRange_OutOfRange, fun _ x hx => ?_, fun z => nomatch z⟩
        exact ⟨1, rfl, by show 1 ≤ sizeLine; decide, fun r hr => ref (-1) H' (by decide) h s1 r hr⟩
      · refine ⟨false, T.e_CannotBeTold_OutOfRange, fun z => (nomatch z), fun _ => ⟨true, T.e_CannotBeTold_CannotBeTold, fun _ x hx => ?_, fun z => nomatch z⟩⟩
        exact ⟨3, rfl, by show 1 ≤ sizeLine; decide, fun r hr => ref (-3) H' (by decide) h s1 r hr⟩
      · refine ⟨false, T.e_TooMany_OutOfRange, fun z => (nomatch z), fun _ => ⟨false, T.e_TooMany_CannotBeTold, fun z => (nomatch z), fun _ => ⟨true, T.e_TooMany_TooMany, fun _ x hx => ?_, fun z => nomatch z⟩⟩⟩
        exact ⟨5, rfl, by show 1 ≤ sizeLine; decide, fun r hr => ref (-5) H' (by decide) h s1 r hr⟩
      · have ho' : H' o = some (.ins A.C_Sheet d (F_Sheet (.ref q.S) .non)) := hk _ _ ho2 hsh.nMo
        refine k H' q' r ⟨hs', ⟨d, .non, by rw [hS']; exact ho', .inl rfl⟩, fun z => ?_, fun z => ?_, h1, h2, h3, ⟨gx, hk _ _ (kl hg) hsh.nMg⟩⟩ (fun b hb => (hM b hb).imp_right (free2 b)) (fun b ob hb nb hn => hk _ _ (k2 b ob hb hn) nb) (free2 r hr) hl
        · rcases hM o z with z | z
          · exact hsh.nMo z
          · rw [ho2] at z; cases z
        · rcases hM g z with z | z
          · exact hsh.nMg z
          · rw [kl hg] at z; cases z
end
end Sh

namespace Sh
open PySem PySem.Spec PyProof.Rows L2
open PySem.W (Codec)
theorem shapes_all : Shapes (fun _ => True) := by
  intro p n k _ h
  obtain ⟨p0, p1⟩ := shape_range h
  have hp : p = 0 ∨ p = 1 ∨ p = 2 ∨ p = 3 ∨ p = 4 ∨ p = 5 ∨ p = 6 ∨ p = 7 ∨ p = 8 ∨ p = 9 ∨ p = 10 ∨ p = 11 ∨ p = 12 ∨ p = 13 := by omega
  refine ⟨p0, ?_⟩
  have q : ∀ m l : Nat, some (m, l) = some (n, k) → rows_FORMS[p.toNat]? = some [nameOf p, .int (m : Int), .int (l : Int)] → rows_FORMS[p.toNat]? = some [nameOf p, .int (n : Int), .int (k : Int)] := fun m l e h' => by cases e; exact h'
  rcases hp with rfl | rfl | rfl | rfl | rfl | rfl | rfl | rfl | rfl | rfl | rfl | rfl | rfl | rfl <;> exact q _ _ h rfl
/-! ### the answers so far -/
def tld (raw : List (List (List Int))) (i : Nat) : List Int := PyFlat.told (PyFlat.played Si32Neutral.step Si32Neutral.start ((raw.take i).map PySi32.whole))
def stt (raw : List (List (List Int))) (i : Nat) : Si32.St := stateAt (raw.take i) Si32.init
theorem stt_succ {raw : List (List (List Int))} {i : Nat} {c : List (List Int)} {qc : Si32.Call} (h : raw[i]? = some c) (hd : dec c = some qc) : stt raw (i + 1) = (Si32.step (stt raw i) qc).1 := by
  unfold stt stateAt
  rw [take_snoc h, List.foldl_append]
  show (Si32Neutral.step _ (PySi32.whole c)).1 = _
  rw [step_dec hd]
theorem tld_succ {raw : List (List (List Int))} {i : Nat} {c : List (List Int)} {qc : Si32.Call} (h : raw[i]? = some c) (hd : dec c = some qc) :
    tld raw (i + 1) = tld raw i ++ ((((Si32.step (stt raw i) qc).2.v :: (Si32.step (stt raw i) qc).2.l).length : Int) :: ((Si32.step (stt raw i) qc).2.v :: (Si32.step (stt raw i) qc).2.l)) := by
  unfold tld
  rw [take_snoc h, played_app, told_app]
  congr 1
  show PyFlat.told [(Si32Neutral.step (stateAt (raw.take i) Si32Neutral.start) (PySi32.whole c)).2] = _
  rw [step_dec hd]
  show _ :: ((_ :: _) ++ ([] : List Int)) = _
  rw [List.append_nil]
  rfl
theorem tld_le {ns : List Int} {raw : List (List (List Int))} (hl : Line ns raw) (i : Nat) : (tld raw i).length ≤ 1000199 := by
  have h := short_len raw Si32.init 999999 hl.short
  have hf := hl.few
  have e : raw = raw.take i ++ raw.drop i := (List.take_append_drop i raw).symm
  have h2 : (PyFlat.told (PyFlat.played Si32Neutral.step Si32.init (raw.map PySi32.whole))).length = (tld raw i).length + (PyFlat.told (PyFlat.played Si32Neutral.step (stateAt (raw.take i) Si32.init) ((raw.drop i).map PySi32.whole))).length := by
    conv => lhs; rw [e]
    rw [played_app, told_app, List.length_append]
    rfl
  omega
theorem good_stt {ns : List Int} {raw : List (List (List Int))} (hl : Line ns raw) : ∀ i, i ≤ raw.length → Good (stt raw i)
  | 0, _ => good_init
  | i + 1, h => by
    have hc := List.getElem?_eq_getElem (show i < raw.length by omega)
    obtain ⟨_, qc, hI, hd⟩ := hl.each _ (List.mem_of_getElem? hc)
    rw [stt_succ hc hd]
    exact good_step (good_stt hl i (by omega)) hI
/-- the answers' list has grown, nothing else -/
theorem ShAt.grown {K : PySem.W.Frag} {A : Ad} {H H' : Hp} {g o : Addr} {q : Ads} {s : Si32.St} (h : ShAt K A H g o q s) (k : ∀ b ob, H b = some ob → b ≠ g → H' b = some ob) (hg : ∃ xs, H' g = some (.lst xs)) : ShAt K A H' g o q s := by
  obtain ⟨d, kv, h1, h2⟩ := h.sh
  obtain ⟨xs, h3⟩ := h.og
  have kt : ∀ {b : Addr} {us : List V}, H b = some (.tup us) → b ≠ g := fun hb => ne_of hb h3 (by intro z; cases z)
  have kd : ∀ {b : Addr} {us : List (Key × V)}, H b = some (.dK us) → b ≠ g := fun hb => ne_of hb h3 (by intro z; cases z)
  refine ⟨h.set.other fun b ob hb c => k b ob hb ?_, ⟨d, kv, k _ _ h1 (ne_of h1 h3 (by intro z; cases z)), ?_⟩, h.nMo, h.nMg, h.gal, h.ghd, h.gft, hg⟩
  · rcases c with c | rfl | rfl | rfl | ⟨us, rfl⟩ | ⟨kvs, rfl⟩
    · exact fun z => h.nMg (z ▸ c)
    · exact h.gal
    · exact h.ghd
    · exact h.gft
    · exact kt hb
    · exact kd hb
  · rcases h2 with rfl | ⟨p, rfl, hp⟩
    · exact .inl rfl
    · refine .inr ⟨p, rfl, hp.keep (fun b ob hb c => k b ob hb ?_) fun b ob _ n => n⟩
      rcases c with c | ⟨us, rfl⟩
      · exact c.1
      · exact kt hb
def spAns (K : PySem.W.Frag) : Sp := fun vs H Q _ => ∃ (a : Addr) (ns : List Int), vs = [.ref a] ∧ SqL K H a (ns.map V.int) ∧ PySi32.answers_asked ns = true ∧
  ∀ (H' : Hp) (p : Addr), H' p = some (.lst ((PySi32.answers ns).map V.int)) → Q (.ref p) H'
theorem ok_answers {P : Program} {w : World} {K : PySem.W.Frag} {mg : Str → Option Value} {A : Ad} (T : Txt K mg A) {base : Heap} {fd : FuncData} (F : Fun K "answers" "answers" s_answers A.f_answers fd) : FnOk P w K mg base CX0 11 A.f_answers fd p_answers (spAns K) := by
  have nd := sc_answers.nd
  obtain ⟨_, B_Sheet__init_, G_Sheet__init_⟩ := (ok_SheetInit (P := P) (w := w) (base := base) T).ex
  obtain ⟨_, B_answer_call, G_answer_call⟩ := (ok_AC (P := P) (w := w) (base := base) T).ex
  obtain ⟨_, B_read_calls, G_read_calls⟩ := (ok_Read (P := P) (w := w) (base := base) shapes_all T).ex
  refine F.ok sc_answers (fun vs H Q E h => ?_) (fun cdv A' outer sh H vs Q E hr h => ⟨_,
      (pss_cons (ps_set (i := 1) nd rfl (Or.inl rfl) (pe_make0 T.mk_Sheet G_Sheet__init_ (hr.mono (by decide)) rfl T.g_Sheet B_Sheet__init_ .nil pass0))
      (pss_cons (ps_set (i := 2) nd rfl (Or.inl rfl) (pe_lst pa_nil))
      (pss_cons (ps_for PassesOwn.never rfl (pi_list (pe_call G_read_calls (hr.mono (by decide)) rfl T.g_read_calls T.k_read_calls B_read_calls .nil pass0 (pa_cons (pv 0) pa_nil))) (pg_tup rfl (pgs_cons (pg_name (i := 3) nd rfl (Or.inl rfl)) (pgs_cons (pg_name (i := 4) nd rfl (Or.inl rfl)) (pgs_cons (pg_name (i := 5) nd rfl (Or.inl rfl)) pgs_nil)))) (pss_cons (ps_set (i := 6) nd rfl (Or.inl rfl) (pe_call G_answer_call hr rfl T.g_answer_call T.k_answer_call B_answer_call .nil pass0 (pa_cons (pv 1) (pa_cons (pv 3) (pa_cons (pv 4) (pa_cons (pv 5) pa_nil))))))
        (pss_cons (ps_expr (pe_bm PySem.F.plainAttrs_list PySem.F.slot_list_append PySem.F.type_list_append mt_append (pv 2) (pa_cons (pe_callB call_len_seq (by rfl) T.bl_len PySem.boot_len (pa_cons (pv 6) pa_nil)) pa_nil)))
        (pss_one (ps_expr (pe_bm PySem.F.plainAttrs_list PySem.F.slot_list_extend PySem.F.type_list_extend mt_extend (pv 2) (pa_cons (pv 6) pa_nil)))))))
      (pss_one (ps_ret (pv 2)))))), ?_⟩)
  · obtain ⟨a, ns, rfl, _⟩ := h
    rfl
  · obtain ⟨a, ns, rfl, hsq, hask, k⟩ := h
    obtain ⟨raw, hl⟩ := line_of hask
    refine fun o d g1 g2 g3 => ⟨o, d, rfl, upd_same, fun H1 q hset ho hM hal hhd hft k1 => ⟨rfl, ?_⟩⟩
    have kH1 : Same H H1 := fun b ob hb => k1 b ob (made_keep g1 g2 hb) (ne_of_none hb g1)
    refine ⟨by show 0 ≤ sizeLine; decide, fun g hg => ?_⟩
    have kH2 : Same H1 (upd H1 g (.lst [])) := fun b ob hb => (upd_ne (ne_of_none hb hg)).trans hb
    have nMg : ¬ q.M g := fun z => by
      obtain ⟨_, _, hS, _⟩ := hset.hS
      obtain ⟨⟨_, _, hW0, _⟩, hL0, _⟩ := id hset.a0
      obtain ⟨⟨_, _, hW1, _⟩, hL1, _⟩ := id hset.a1
      rcases z with rfl | rfl | rfl | rfl | rfl
      · rw [hg] at hS; cases hS
      · rw [hg] at hW0; cases hW0
      · rw [hg] at hW1; cases hW1
      · rw [hg] at hL0; cases hL0
      · rw [hg] at hL1; cases hL1
    have nMo : ¬ q.M o := fun z => by
      have := hM o z
      rw [upd_same] at this; cases this
    have gal : q.al ≠ g := fun z => by obtain ⟨_, zz, _⟩ := hset.ar; rw [z, hg] at zz; cases zz
    have ghd : q.hd ≠ g := fun z => by have zz := hset.hh; rw [z, hg] at zz; cases zz
    have gft : q.ft ≠ g := fun z => by have zz := hset.hf; rw [z, hg] at zz; cases zz
    have og : o ≠ g := ne_of_none ho hg
    generalize hH2 : upd H1 g (.lst []) = H2 at kH2
    have hg2 : H2 g = some (.lst []) := by rw [← hH2]; exact upd_same
    have hsh2 : ShAt K A H2 g o q Si32.init := ⟨hset.keep kH2, ⟨d, .non, kH2 _ _ ho, .inl rfl⟩, nMo, nMg, gal, ghd, gft, ⟨_, hg2⟩⟩
    refine ⟨_, rfl, a, raw, rfl, Same.seq (kH1.trans kH2) (by rw [← hl.flat]; exact hsq), hl.few, fun c hc => ⟨(hl.each c hc).1, trivial⟩, fun H3 r rs s3 hr0 hr3 hrl hrc => ?_⟩
    have hsh3 := hsh2.keep s3
    have hsome : ∀ b, H2 b = none → ¬ q.M b ∧ b ≠ g ∧ b ≠ o := fun b hb => by
      refine ⟨fun z => ?_, fun z => (by rw [z, hg2] at hb; cases hb), fun z => (by rw [z, kH2 _ _ ho] at hb; cases hb)⟩
      obtain ⟨_, _, hS, _⟩ := hsh2.set.hS
      obtain ⟨⟨_, _, hW0, _⟩, hL0, _⟩ := id hsh2.set.a0
      obtain ⟨⟨_, _, hW1, _⟩, hL1, _⟩ := id hsh2.set.a1
      rcases z with rfl | rfl | rfl | rfl | rfl
      · rw [hb] at hS; cases hS
      · rw [hb] at hW0; cases hW0
      · rw [hb] at hW1; cases hW1
      · rw [hb] at hL0; cases hL0
      · rw [hb] at hL1; cases hL1
    refine ⟨r, rfl, ⟨_, SqL.of hr3⟩, ?_⟩
    refine for_list (xs := rs) (fun i σ H' => ∃ q' : Ads, (∃ y3 y4 y5 y6, σ = [some (.ref a), some (.ref o), some (.ref g), y3, y4, y5, y6]) ∧ ShAt K A H' g o q' (stt raw i) ∧ H' g = some (.lst (iv (tld raw i))) ∧ H' r = some (.lst rs) ∧ ¬ q'.M r ∧
      ∀ (j : Nat) v c, rs[j]? = some v → raw[j]? = some c → CallAt H' (fun b => ¬ q'.M b ∧ b ≠ g ∧ b ≠ o) v c) ?_ ?_ ?_ ?_
    · refine ⟨q, ⟨_, _, _, _, rfl⟩, hsh3, s3 _ _ hg2, hr3, (hsome r hr0).1, fun j v c q1 q2 => (hrc j v c q1 q2).keep fun b ob hb n => ⟨hb, hsome b n.1⟩⟩
    · rintro i σ H' _ ⟨q', _, _, _, hr', _⟩
      exact SqL.of hr'
    · rintro i v σ H' hv ⟨q', ⟨y3, y4, y5, y6, rfl⟩, hsh', hg', hr', nMr, hcall⟩
      have hi : i < raw.length := by rw [← hrl]; exact (List.getElem?_eq_some_iff.mp hv).1
      have hci := List.getElem?_eq_getElem hi
      generalize raw[i] = c at hci
      obtain ⟨hok, qc, hI, hdec⟩ := hl.each c (List.mem_of_getElem? hci)
      have gd := good_stt hl i (by omega)
      obtain ⟨t, na, la, us, p, as, xs, ec, ev, ht, hna, hla, n1, n2, n3, hul, hur⟩ := hcall i v c hv hci
      subst ev
      have hsucc := stt_succ hci hdec
      have htld := tld_succ hci hdec
      have hle := tld_le hl (i + 1)
      rw [htld, List.length_append, List.length_cons] at hle
      refine ⟨t, _, rfl, SqT.of ht, rfl, _, _, rfl, _, _, rfl, _, _, rfl, rfl, ?_⟩
      refine ⟨_, rfl, _, rfl, _, rfl, _, rfl, g, o, q', stt raw i, c, qc, na, la, p, as, xs, us, rfl, ec, hI, hna, hla, hul, fun j r' x q1 q2 => ?_, hsh', gd, fun H4 q4 r4 hsh4 hM4 k4 hr4 hl4 => ?_⟩
      · obtain ⟨z1, z2⟩ := hur j r' x q1 q2
        exact ⟨z1, z2.1, z2.2.1⟩
      have go : g ≠ o := Ne.symm og
      have hg4 := k4 _ _ hg' hsh'.nMg go
      have r4g : r4 ≠ g := fun z => by rw [z, hg'] at hr4; cases hr4
      refine ⟨_, rfl, .inl ⟨rfl, _, SqL.of hg4⟩, _, rfl, r4, _, rfl, .inl (SqL.of hl4), g, _, _, rfl, rfl, hg4, by rw [iv_len, sizeLine_eq]; omega, ?_⟩
      refine ⟨_, rfl, .inl ⟨rfl, _, SqL.of upd_same⟩, _, rfl, g, r4, _, _, rfl, rfl, upd_same, (upd_ne r4g).trans hl4, by rw [List.length_append, iv_len, iv_len, sizeLine_eq]; show _ + 1 + _ ≤ _; omega, ?_⟩
      rw [upd_upd]
      have kg : ∀ b ob, H4 b = some ob → b ≠ g → upd H4 g (.lst (iv (tld raw i) ++ [V.int (List.length (iv ((Si32.step (stt raw i) qc).2.v :: (Si32.step (stt raw i) qc).2.l)) : Nat)] ++ iv ((Si32.step (stt raw i) qc).2.v :: (Si32.step (stt raw i) qc).2.l))) b = some ob := fun b ob hb hn => (upd_ne hn).trans hb
      have nM4 : ∀ b ob, H' b = some ob → ¬ q'.M b → ¬ q4.M b := fun b ob hb n z => by
        rcases hM4 b z with z | z
        · exact n z
        · rw [hb] at z; cases z
      have rg : r ≠ g := (hsome r hr0).2.1
      have ro : r ≠ o := (hsome r hr0).2.2
      refine ⟨q4, ⟨_, _, _, _, rfl⟩, by rw [hsucc]; exact hsh4.grown kg ⟨_, upd_same⟩, ?_, kg _ _ (k4 _ _ hr' nMr ro) rg, nM4 _ _ hr' nMr, fun j v' c' q1 q2 => (hcall j v' c' q1 q2).keep fun b ob hb n => ⟨kg _ _ (k4 _ _ hb n.1 n.2.2) n.2.1, nM4 _ _ hb n.1, n.2⟩⟩
      rw [upd_same, htld, iv_snoc, ← iv_app, iv_len, List.append_assoc]
      rfl
    · rintro σ H' ⟨q', ⟨y3, y4, y5, y6, rfl⟩, hsh', hg', _⟩
      refine ⟨_, rfl, k H' g ?_⟩
      rw [hg', hrl, hl.due]
      unfold tld
      rw [List.take_length]
      rfl
end Sh

namespace Sh
open PySem PySem.Spec PyProof.Rows L2
open PySem.W (Codec)
theorem all_mk {P : Program} {w : World} {K : PySem.W.Frag} {h : Heap} {mg : Str → Option Value} {fa : Addr} (X : K.In h) (G : h.Ns mainGlobals mg) (hfa : mg "answers" = some (.ref fa)) {C_AreaPages C_WayBands C_SheetPages C_WaySettings C_SheetSettings C_Sheet X_OutOfRange X_CannotBeTold X_TooMany X_NoSuchPage f_read_calls f_AreaPages__init_ f_AreaPages_count_pages f_AreaPages_row_band_of f_AreaPages_column_band_of f_AreaPages_has_cell f_AreaPages_page_of f_is_within f_band_place f_WayBands__init_ f_WayBands_again_from f_WayBands_again_end f_WayBands_count_again f_WayBands_again_size f_WayBands_band_end f_WayBands_find_bands f_WayBands_has_more_bands f_WayBands_page_size f_WayBands_distance f_check_text f_write_text f_digits_of f_SheetPages__init_ f_SheetPages_find_fitting_scale f_SheetPages_fits f_SheetPages_tell_pages f_SheetPages_area_pages_with f_SheetPages_tell_page f_SheetPages_tell_where f_SheetPages_tell_texts f_WaySettings__init_ f_WaySettings_check_span f_WaySettings_set_size f_WaySettings_set_titles f_WaySettings_set_breaks f_SheetSettings__init_ f_SheetSettings_begin f_SheetSettings_set_paper f_SheetSettings_set_areas f_SheetSettings_set_scale f_SheetSettings_set_fit f_SheetSettings_set_how f_SheetSettings_set_heads f_check_side f_Sheet__init_ f_Sheet_change f_Sheet_ask f_answers f_answer_call f_make_change f_answer_question t_FORMS t_QUESTIONS u_FORMS_0 u_FORMS_1 u_FORMS_2 u_FORMS_3 u_FORMS_4 u_FORMS_5 u_FORMS_6 u_FORMS_7 u_FORMS_8 u_FORMS_9 u_FORMS_10 u_FORMS_11 u_FORMS_12 u_FORMS_13 : Addr}
    {od_FORMS od_FORMS_0 od_FORMS_1 od_FORMS_2 od_FORMS_3 od_FORMS_4 od_FORMS_5 od_FORMS_6 od_FORMS_7 od_FORMS_8 od_FORMS_9 od_FORMS_10 od_FORMS_11 od_FORMS_12 od_FORMS_13 od_QUESTIONS : Option Addr} {n_FORMS n_FORMS_0 n_FORMS_1 n_FORMS_2 n_FORMS_3 n_FORMS_4 n_FORMS_5 n_FORMS_6 n_FORMS_7 n_FORMS_8 n_FORMS_9 n_FORMS_10 n_FORMS_11 n_FORMS_12 n_FORMS_13 n_QUESTIONS : Nat} {sl_FORMS sl_FORMS_0 sl_FORMS_1 sl_FORMS_2 sl_FORMS_3 sl_FORMS_4 sl_FORMS_5 sl_FORMS_6 sl_FORMS_7 sl_FORMS_8 sl_FORMS_9 sl_FORMS_10 sl_FORMS_11 sl_FORMS_12 sl_FORMS_13 sl_QUESTIONS : Array (Option Value)} {od0 an0 od1 an1 od2 an2 od3 an3 od4 an4 od5 an5 od6 an6 od7 an7 od8 an8 od9 an9 od10 an10 od11 an11 od12 an12 od13 an13 od14 an14 od15 an15 od16 an16 od17 an17 od18 an18 od19 an19 od20 an20 od21 an21 od22 an22 od23 an23 od24 an24 od25 an25 od26 an26 od27 an27 od28 an28 od29 an29 od30 an30 od31 an31 od32 an32 od33 an33 od34 an34 od35 an35 od36 an36 od37 an37 od38 an38 od39 an39 od40 an40 od41 an41 od42 an42 od43 an43 od44 an44 od45 an45 od46 an46 od47 an47 od48 an48 od49 an49 od50 an50 : Option Addr} {sl0 sl1 sl2 sl3 sl4 sl5 sl6 sl7 sl8 sl9 sl10 sl11 sl12 sl13 sl14 sl15 sl16 sl17 sl18 sl19 sl20 sl21 sl22 sl23 sl24 sl25 sl26 sl27 sl28 sl29 sl30 sl31 sl32 sl33 sl34 sl35 sl36 sl37 sl38 sl39 sl40 sl41 sl42 sl43 sl44 sl45 sl46 sl47 sl48 sl49 sl50 : Array (Option Value)} {oc0 kV0 dc0 pm0 cd0 ct0 oc1 kV1 dc1 pm1 cd1 ct1 oc2 kV2 dc2 pm2 cd2 ct2 oc3 kV3 dc3 pm3 cd3 ct3 oc4 kV4 dc4 pm4 cd4 ct4 oc5 kV5 dc5 pm5 cd5 ct5 oc6 kV6 dc6 pm6 cd6 ct6 oc7 kV7 dc7 pm7 cd7 ct7 oc8 kV8 dc8 pm8 cd8 ct8 oc9 kV9 dc9 pm9 cd9 ct9 oc10 kV10 dc10 pm10 cd10 ct10 oc11 kV11 dc11 pm11 cd11 ct11 oc12 kV12 dc12 pm12 cd12 ct12 oc13 kV13 dc13 pm13 cd13 ct13 oc14 kV14 dc14 pm14 cd14 ct14 oc15 kV15 dc15 pm15 cd15 ct15 oc16 kV16 dc16 pm16 cd16 ct16 oc17 kV17 dc17 pm17 cd17 ct17 oc18 kV18 dc18 pm18 cd18 ct18 oc19 kV19 dc19 pm19 cd19 ct19 oc20 kV20 dc20 pm20 cd20 ct20 oc21 kV21 dc21 pm21 cd21 ct21 oc22 kV22 dc22 pm22 cd22 ct22 oc23 kV23 dc23 pm23 cd23 ct23 oc24 kV24 dc24 pm24 cd24 ct24 oc25 kV25 dc25 pm25 cd25 ct25 oc26 kV26 dc26 pm26 cd26 ct26 oc27 kV27 dc27 pm27 cd27 ct27 oc28 kV28 dc28 pm28 cd28 ct28 oc29 kV29 dc29 pm29 cd29 ct29 oc30 kV30 dc30 pm30 cd30 ct30 oc31 kV31 dc31 pm31 cd31 ct31 oc32 kV32 dc32 pm32 cd32 ct32 oc33 kV33 dc33 pm33 cd33 ct33 oc34 kV34 dc34 pm34 cd34 ct34 oc35 kV35 dc35 pm35 cd35 ct35 oc36 kV36 dc36 pm36 cd36 ct36 oc37 kV37 dc37 pm37 cd37 ct37 oc38 kV38 dc38 pm38 cd38 ct38 oc39 kV39 dc39 pm39 cd39 ct39 oc40 kV40 dc40 pm40 cd40 ct40 oc41 kV41 dc41 pm41 cd41 ct41 oc42 kV42 dc42 pm42 cd42 ct42 oc43 kV43 dc43 pm43 cd43 ct43 oc44 kV44 dc44 pm44 cd44 ct44 oc45 kV45 dc45 pm45 cd45 ct45 oc46 kV46 dc46 pm46 cd46 ct46 oc47 kV47 dc47 pm47 cd47 ct47 oc48 kV48 dc48 pm48 cd48 ct48 oc49 kV49 dc49 pm49 cd49 ct49 oc50 kV50 dc50 pm50 cd50 ct50 : Value} {tk_FORMS_0_0 tk_FORMS_0_1 tk_FORMS_0_2 tk_FORMS_1_0 tk_FORMS_1_1 tk_FORMS_1_2 tk_FORMS_2_0 tk_FORMS_2_1 tk_FORMS_2_2 tk_FORMS_3_0 tk_FORMS_3_1 tk_FORMS_3_2 tk_FORMS_4_0 tk_FORMS_4_1 tk_FORMS_4_2 tk_FORMS_5_0 tk_FORMS_5_1 tk_FORMS_5_2 tk_FORMS_6_0 tk_FORMS_6_1 tk_FORMS_6_2 tk_FORMS_7_0 tk_FORMS_7_1 tk_FORMS_7_2 tk_FORMS_8_0 tk_FORMS_8_1 tk_FORMS_8_2 tk_FORMS_9_0 tk_FORMS_9_1 tk_FORMS_9_2 tk_FORMS_10_0 tk_FORMS_10_1 tk_FORMS_10_2 tk_FORMS_11_0 tk_FORMS_11_1 tk_FORMS_11_2 tk_FORMS_12_0 tk_FORMS_12_1 tk_FORMS_12_2 tk_FORMS_13_0 tk_FORMS_13_1 tk_FORMS_13_2 tk_QUESTIONS_0 tk_QUESTIONS_1 tk_QUESTIONS_2 tk_QUESTIONS_3 tk_LONGEST_TEXT tk_LARGEST_FITTING tk_SMALLEST_FITTING tk_MOST_SIZES tk_LARGEST_SIZE tk_MOST_BREAKS tk_LONGEST_SIDE tk_MOST_AREAS tk_SMALLEST_SCALE tk_LARGEST_SCALE tk_MOST_BANDS tk_FARTHEST_FIRST_NUMBER : Tok}
    (a_AreaPages : PySem.W.nsIn K mainGlobals "AreaPages" = some (some (.ref C_AreaPages)))
    (pg_AreaPages : PySem.W.plainGet K C_AreaPages Str.empty = true)
    (hd_AreaPages : PySem.W.hasDictIn K C_AreaPages = true)
    (po_AreaPages : PySem.W.plainOver K C_AreaPages = true)
    (sa_AreaPages : PySem.W.findIn K (.ref C_AreaPages) "__setattr__" = some (some (.builtin "object.__setattr__")))
    (mk_AreaPages : PySem.W.makesIn K C_AreaPages = true)
    (kc_AreaPages : PySem.W.keepIn K (.ref C_AreaPages) = true)
    (na_AreaPages_area_place : PySem.W.findIn K (.ref C_AreaPages) "area_place" = some none)
    (na_AreaPages_first_page : PySem.W.findIn K (.ref C_AreaPages) "first_page" = some none)
    (na_AreaPages_row_bands : PySem.W.findIn K (.ref C_AreaPages) "row_bands" = some none)
    (na_AreaPages_column_bands : PySem.W.findIn K (.ref C_AreaPages) "column_bands" = some none)
    (na_AreaPages_beside_first : PySem.W.findIn K (.ref C_AreaPages) "beside_first" = some none)
    (h_AreaPages__init_ : PySem.W.findIn K (.ref C_AreaPages) "__init__" = some (some (.ref f_AreaPages__init_)))
    (s_fn_AreaPages__init_ : PySem.W.isFn K (.ref f_AreaPages__init_) = true)
    (h_AreaPages_count_pages : PySem.W.findIn K (.ref C_AreaPages) "count_pages" = some (some (.ref f_AreaPages_count_pages)))
    (s_fn_AreaPages_count_pages : PySem.W.isFn K (.ref f_AreaPages_count_pages) = true)
    (h_AreaPages_row_band_of : PySem.W.findIn K (.ref C_AreaPages) "row_band_of" = some (some (.ref f_AreaPages_row_band_of)))
    (s_fn_AreaPages_row_band_of : PySem.W.isFn K (.ref f_AreaPages_row_band_of) = true)
    (h_AreaPages_column_band_of : PySem.W.findIn K (.ref C_AreaPages) "column_band_of" = some (some (.ref f_AreaPages_column_band_of)))
    (s_fn_AreaPages_column_band_of : PySem.W.isFn K (.ref f_AreaPages_column_band_of) = true)
    (h_AreaPages_has_cell : PySem.W.findIn K (.ref C_AreaPages) "has_cell" = some (some (.ref f_AreaPages_has_cell)))
    (s_fn_AreaPages_has_cell : PySem.W.isFn K (.ref f_AreaPages_has_cell) = true)
    (h_AreaPages_page_of : PySem.W.findIn K (.ref C_AreaPages) "page_of" = some (some (.ref f_AreaPages_page_of)))
    (s_fn_AreaPages_page_of : PySem.W.isFn K (.ref f_AreaPages_page_of) = true)
    (a_WayBands : PySem.W.nsIn K mainGlobals "WayBands" = some (some (.ref C_WayBands)))
    (pg_WayBands : PySem.W.plainGet K C_WayBands Str.empty = true)
    (hd_WayBands : PySem.W.hasDictIn K C_WayBands = true)
    (po_WayBands : PySem.W.plainOver K C_WayBands = true)
    (sa_WayBands : PySem.W.findIn K (.ref C_WayBands) "__setattr__" = some (some (.builtin "object.__setattr__")))
    (mk_WayBands : PySem.W.makesIn K C_WayBands = true)
    (kc_WayBands : PySem.W.keepIn K (.ref C_WayBands) = true)
    (na_WayBands_way : PySem.W.findIn K (.ref C_WayBands) "way" = some none)
    (na_WayBands_starts : PySem.W.findIn K (.ref C_WayBands) "starts" = some none)
    (h_WayBands__init_ : PySem.W.findIn K (.ref C_WayBands) "__init__" = some (some (.ref f_WayBands__init_)))
    (s_fn_WayBands__init_ : PySem.W.isFn K (.ref f_WayBands__init_) = true)
    (h_WayBands_again_from : PySem.W.findIn K (.ref C_WayBands) "again_from" = some (some (.ref f_WayBands_again_from)))
    (s_fn_WayBands_again_from : PySem.W.isFn K (.ref f_WayBands_again_from) = true)
    (h_WayBands_again_end : PySem.W.findIn K (.ref C_WayBands) "again_end" = some (some (.ref f_WayBands_again_end)))
    (s_fn_WayBands_again_end : PySem.W.isFn K (.ref f_WayBands_again_end) = true)
    (h_WayBands_count_again : PySem.W.findIn K (.ref C_WayBands) "count_again" = some (some (.ref f_WayBands_count_again)))
    (s_fn_WayBands_count_again : PySem.W.isFn K (.ref f_WayBands_count_again) = true)
    (h_WayBands_again_size : PySem.W.findIn K (.ref C_WayBands) "again_size" = some (some (.ref f_WayBands_again_size)))
    (s_fn_WayBands_again_size : PySem.W.isFn K (.ref f_WayBands_again_size) = true)
    (h_WayBands_band_end : PySem.W.findIn K (.ref C_WayBands) "band_end" = some (some (.ref f_WayBands_band_end)))
    (s_fn_WayBands_band_end : PySem.W.isFn K (.ref f_WayBands_band_end) = true)
    (h_WayBands_find_bands : PySem.W.findIn K (.ref C_WayBands) "find_bands" = some (some (.ref f_WayBands_find_bands)))
    (s_fn_WayBands_find_bands : PySem.W.isFn K (.ref f_WayBands_find_bands) = true)
    (h_WayBands_has_more_bands : PySem.W.findIn K (.ref C_WayBands) "has_more_bands" = some (some (.ref f_WayBands_has_more_bands)))
    (s_fn_WayBands_has_more_bands : PySem.W.isFn K (.ref f_WayBands_has_more_bands) = true)
    (h_WayBands_page_size : PySem.W.findIn K (.ref C_WayBands) "page_size" = some (some (.ref f_WayBands_page_size)))
    (s_fn_WayBands_page_size : PySem.W.isFn K (.ref f_WayBands_page_size) = true)
    (h_WayBands_distance : PySem.W.findIn K (.ref C_WayBands) "distance" = some (some (.ref f_WayBands_distance)))
    (s_fn_WayBands_distance : PySem.W.isFn K (.ref f_WayBands_distance) = true)
    (a_SheetPages : PySem.W.nsIn K mainGlobals "SheetPages" = some (some (.ref C_SheetPages)))
    (pg_SheetPages : PySem.W.plainGet K C_SheetPages Str.empty = true)
    (hd_SheetPages : PySem.W.hasDictIn K C_SheetPages = true)
    (po_SheetPages : PySem.W.plainOver K C_SheetPages = true)
    (sa_SheetPages : PySem.W.findIn K (.ref C_SheetPages) "__setattr__" = some (some (.builtin "object.__setattr__")))
    (mk_SheetPages : PySem.W.makesIn K C_SheetPages = true)
    (kc_SheetPages : PySem.W.keepIn K (.ref C_SheetPages) = true)
    (na_SheetPages_settings : PySem.W.findIn K (.ref C_SheetPages) "settings" = some none)
    (na_SheetPages_rows : PySem.W.findIn K (.ref C_SheetPages) "rows" = some none)
    (na_SheetPages_columns : PySem.W.findIn K (.ref C_SheetPages) "columns" = some none)
    (na_SheetPages_used_scale : PySem.W.findIn K (.ref C_SheetPages) "used_scale" = some none)
    (na_SheetPages_page_count : PySem.W.findIn K (.ref C_SheetPages) "page_count" = some none)
    (na_SheetPages_area_pages : PySem.W.findIn K (.ref C_SheetPages) "area_pages" = some none)
    (h_SheetPages__init_ : PySem.W.findIn K (.ref C_SheetPages) "__init__" = some (some (.ref f_SheetPages__init_)))
    (s_fn_SheetPages__init_ : PySem.W.isFn K (.ref f_SheetPages__init_) = true)
    (h_SheetPages_find_fitting_scale : PySem.W.findIn K (.ref C_SheetPages) "find_fitting_scale" = some (some (.ref f_SheetPages_find_fitting_scale)))
    (s_fn_SheetPages_find_fitting_scale : PySem.W.isFn K (.ref f_SheetPages_find_fitting_scale) = true)
    (h_SheetPages_fits : PySem.W.findIn K (.ref C_SheetPages) "fits" = some (some (.ref f_SheetPages_fits)))
    (s_fn_SheetPages_fits : PySem.W.isFn K (.ref f_SheetPages_fits) = true)
    (h_SheetPages_tell_pages : PySem.W.findIn K (.ref C_SheetPages) "tell_pages" = some (some (.ref f_SheetPages_tell_pages)))
    (s_fn_SheetPages_tell_pages : PySem.W.isFn K (.ref f_SheetPages_tell_pages) = true)
    (h_SheetPages_area_pages_with : PySem.W.findIn K (.ref C_SheetPages) "area_pages_with" = some (some (.ref f_SheetPages_area_pages_with)))
    (s_fn_SheetPages_area_pages_with : PySem.W.isFn K (.ref f_SheetPages_area_pages_with) = true)
    (h_SheetPages_tell_page : PySem.W.findIn K (.ref C_SheetPages) "tell_page" = some (some (.ref f_SheetPages_tell_page)))
    (s_fn_SheetPages_tell_page : PySem.W.isFn K (.ref f_SheetPages_tell_page) = true)
    (h_SheetPages_tell_where : PySem.W.findIn K (.ref C_SheetPages) "tell_where" = some (some (.ref f_SheetPages_tell_where)))
    (s_fn_SheetPages_tell_where : PySem.W.isFn K (.ref f_SheetPages_tell_where) = true)
    (h_SheetPages_tell_texts : PySem.W.findIn K (.ref C_SheetPages) "tell_texts" = some (some (.ref f_SheetPages_tell_texts)))
    (s_fn_SheetPages_tell_texts : PySem.W.isFn K (.ref f_SheetPages_tell_texts) = true)
    (a_WaySettings : PySem.W.nsIn K mainGlobals "WaySettings" = some (some (.ref C_WaySettings)))
    (pg_WaySettings : PySem.W.plainGet K C_WaySettings Str.empty = true)
    (hd_WaySettings : PySem.W.hasDictIn K C_WaySettings = true)
    (po_WaySettings : PySem.W.plainOver K C_WaySettings = true)
    (sa_WaySettings : PySem.W.findIn K (.ref C_WaySettings) "__setattr__" = some (some (.builtin "object.__setattr__")))
    (mk_WaySettings : PySem.W.makesIn K C_WaySettings = true)
    (kc_WaySettings : PySem.W.keepIn K (.ref C_WaySettings) = true)
    (na_WaySettings_place_count : PySem.W.findIn K (.ref C_WaySettings) "place_count" = some none)
    (na_WaySettings_sizes : PySem.W.findIn K (.ref C_WaySettings) "sizes" = some none)
    (na_WaySettings_sizes_told : PySem.W.findIn K (.ref C_WaySettings) "sizes_told" = some none)
    (na_WaySettings_edge : PySem.W.findIn K (.ref C_WaySettings) "edge" = some none)
    (na_WaySettings_space : PySem.W.findIn K (.ref C_WaySettings) "space" = some none)
    (na_WaySettings_in_middle : PySem.W.findIn K (.ref C_WaySettings) "in_middle" = some none)
    (na_WaySettings_titles : PySem.W.findIn K (.ref C_WaySettings) "titles" = some none)
    (na_WaySettings_breaks : PySem.W.findIn K (.ref C_WaySettings) "breaks" = some none)
    (h_WaySettings__init_ : PySem.W.findIn K (.ref C_WaySettings) "__init__" = some (some (.ref f_WaySettings__init_)))
    (s_fn_WaySettings__init_ : PySem.W.isFn K (.ref f_WaySettings__init_) = true)
    (h_WaySettings_check_span : PySem.W.findIn K (.ref C_WaySettings) "check_span" = some (some (.ref f_WaySettings_check_span)))
    (s_fn_WaySettings_check_span : PySem.W.isFn K (.ref f_WaySettings_check_span) = true)
    (h_WaySettings_set_size : PySem.W.findIn K (.ref C_WaySettings) "set_size" = some (some (.ref f_WaySettings_set_size)))
    (s_fn_WaySettings_set_size : PySem.W.isFn K (.ref f_WaySettings_set_size) = true)
    (h_WaySettings_set_titles : PySem.W.findIn K (.ref C_WaySettings) "set_titles" = some (some (.ref f_WaySettings_set_titles)))
    (s_fn_WaySettings_set_titles : PySem.W.isFn K (.ref f_WaySettings_set_titles) = true)
    (h_WaySettings_set_breaks : PySem.W.findIn K (.ref C_WaySettings) "set_breaks" = some (some (.ref f_WaySettings_set_breaks)))
    (s_fn_WaySettings_set_breaks : PySem.W.isFn K (.ref f_WaySettings_set_breaks) = true)
    (a_SheetSettings : PySem.W.nsIn K mainGlobals "SheetSettings" = some (some (.ref C_SheetSettings)))
    (pg_SheetSettings : PySem.W.plainGet K C_SheetSettings Str.empty = true)
    (hd_SheetSettings : PySem.W.hasDictIn K C_SheetSettings = true)
    (po_SheetSettings : PySem.W.plainOver K C_SheetSettings = true)
    (sa_SheetSettings : PySem.W.findIn K (.ref C_SheetSettings) "__setattr__" = some (some (.builtin "object.__setattr__")))
    (mk_SheetSettings : PySem.W.makesIn K C_SheetSettings = true)
    (kc_SheetSettings : PySem.W.keepIn K (.ref C_SheetSettings) = true)
    (na_SheetSettings_ways : PySem.W.findIn K (.ref C_SheetSettings) "ways" = some none)
    (na_SheetSettings_areas : PySem.W.findIn K (.ref C_SheetSettings) "areas" = some none)
    (na_SheetSettings_scale : PySem.W.findIn K (.ref C_SheetSettings) "scale" = some none)
    (na_SheetSettings_fit : PySem.W.findIn K (.ref C_SheetSettings) "fit" = some none)
    (na_SheetSettings_beside_first : PySem.W.findIn K (.ref C_SheetSettings) "beside_first" = some none)
    (na_SheetSettings_first_number : PySem.W.findIn K (.ref C_SheetSettings) "first_number" = some none)
    (na_SheetSettings_head : PySem.W.findIn K (.ref C_SheetSettings) "head" = some none)
    (na_SheetSettings_foot : PySem.W.findIn K (.ref C_SheetSettings) "foot" = some none)
    (h_SheetSettings__init_ : PySem.W.findIn K (.ref C_SheetSettings) "__init__" = some (some (.ref f_SheetSettings__init_)))
    (s_fn_SheetSettings__init_ : PySem.W.isFn K (.ref f_SheetSettings__init_) = true)
    (h_SheetSettings_begin : PySem.W.findIn K (.ref C_SheetSettings) "begin" = some (some (.ref f_SheetSettings_begin)))
    (s_fn_SheetSettings_begin : PySem.W.isFn K (.ref f_SheetSettings_begin) = true)
    (h_SheetSettings_set_paper : PySem.W.findIn K (.ref C_SheetSettings) "set_paper" = some (some (.ref f_SheetSettings_set_paper)))
    (s_fn_SheetSettings_set_paper : PySem.W.isFn K (.ref f_SheetSettings_set_paper) = true)
    (h_SheetSettings_set_areas : PySem.W.findIn K (.ref C_SheetSettings) "set_areas" = some (some (.ref f_SheetSettings_set_areas)))
    (s_fn_SheetSettings_set_areas : PySem.W.isFn K (.ref f_SheetSettings_set_areas) = true)
    (h_SheetSettings_set_scale : PySem.W.findIn K (.ref C_SheetSettings) "set_scale" = some (some (.ref f_SheetSettings_set_scale)))
    (s_fn_SheetSettings_set_scale : PySem.W.isFn K (.ref f_SheetSettings_set_scale) = true)
    (h_SheetSettings_set_fit : PySem.W.findIn K (.ref C_SheetSettings) "set_fit" = some (some (.ref f_SheetSettings_set_fit)))
    (s_fn_SheetSettings_set_fit : PySem.W.isFn K (.ref f_SheetSettings_set_fit) = true)
    (h_SheetSettings_set_how : PySem.W.findIn K (.ref C_SheetSettings) "set_how" = some (some (.ref f_SheetSettings_set_how)))
    (s_fn_SheetSettings_set_how : PySem.W.isFn K (.ref f_SheetSettings_set_how) = true)
    (h_SheetSettings_set_heads : PySem.W.findIn K (.ref C_SheetSettings) "set_heads" = some (some (.ref f_SheetSettings_set_heads)))
    (s_fn_SheetSettings_set_heads : PySem.W.isFn K (.ref f_SheetSettings_set_heads) = true)
    (a_Sheet : PySem.W.nsIn K mainGlobals "Sheet" = some (some (.ref C_Sheet)))
    (pg_Sheet : PySem.W.plainGet K C_Sheet Str.empty = true)
    (hd_Sheet : PySem.W.hasDictIn K C_Sheet = true)
    (po_Sheet : PySem.W.plainOver K C_Sheet = true)
    (sa_Sheet : PySem.W.findIn K (.ref C_Sheet) "__setattr__" = some (some (.builtin "object.__setattr__")))
    (mk_Sheet : PySem.W.makesIn K C_Sheet = true)
    (kc_Sheet : PySem.W.keepIn K (.ref C_Sheet) = true)
    (na_Sheet_settings : PySem.W.findIn K (.ref C_Sheet) "settings" = some none)
    (na_Sheet_kept_pages : PySem.W.findIn K (.ref C_Sheet) "kept_pages" = some none)
    (h_Sheet__init_ : PySem.W.findIn K (.ref C_Sheet) "__init__" = some (some (.ref f_Sheet__init_)))
    (s_fn_Sheet__init_ : PySem.W.isFn K (.ref f_Sheet__init_) = true)
    (h_Sheet_change : PySem.W.findIn K (.ref C_Sheet) "change" = some (some (.ref f_Sheet_change)))
    (s_fn_Sheet_change : PySem.W.isFn K (.ref f_Sheet_change) = true)
    (h_Sheet_ask : PySem.W.findIn K (.ref C_Sheet) "ask" = some (some (.ref f_Sheet_ask)))
    (s_fn_Sheet_ask : PySem.W.isFn K (.ref f_Sheet_ask) = true)
    (a_OutOfRange : PySem.W.nsIn K mainGlobals "OutOfRange" = some (some (.ref X_OutOfRange)))
    (x_OutOfRange : PySem.W.excIn K X_OutOfRange [.type "Exception", .type "BaseException", .type "object"] "Exception.__new__" = true)
    (k_OutOfRange : PySem.W.keepIn K (.ref X_OutOfRange) = true)
    (b_OutOfRange : PySem.W.subIn K (.ref X_OutOfRange) (.type "BaseException") = some true)
    (t_OutOfRange : PySem.W.typeIn K (.ref X_OutOfRange) = some (.type "type"))
    (i_OutOfRange : PySem.W.isClsIn K X_OutOfRange = true)
    (a_CannotBeTold : PySem.W.nsIn K mainGlobals "CannotBeTold" = some (some (.ref X_CannotBeTold)))
    (x_CannotBeTold : PySem.W.excIn K X_CannotBeTold [.type "Exception", .type "BaseException", .type "object"] "Exception.__new__" = true)
    (k_CannotBeTold : PySem.W.keepIn K (.ref X_CannotBeTold) = true)
    (b_CannotBeTold : PySem.W.subIn K (.ref X_CannotBeTold) (.type "BaseException") = some true)
    (t_CannotBeTold : PySem.W.typeIn K (.ref X_CannotBeTold) = some (.type "type"))
    (i_CannotBeTold : PySem.W.isClsIn K X_CannotBeTold = true)
    (a_TooMany : PySem.W.nsIn K mainGlobals "TooMany" = some (some (.ref X_TooMany)))
    (x_TooMany : PySem.W.excIn K X_TooMany [.type "Exception", .type "BaseException", .type "object"] "Exception.__new__" = true)
    (k_TooMany : PySem.W.keepIn K (.ref X_TooMany) = true)
    (b_TooMany : PySem.W.subIn K (.ref X_TooMany) (.type "BaseException") = some true)
    (t_TooMany : PySem.W.typeIn K (.ref X_TooMany) = some (.type "type"))
    (i_TooMany : PySem.W.isClsIn K X_TooMany = true)
    (a_NoSuchPage : PySem.W.nsIn K mainGlobals "NoSuchPage" = some (some (.ref X_NoSuchPage)))
    (x_NoSuchPage : PySem.W.excIn K X_NoSuchPage [.type "Exception", .type "BaseException", .type "object"] "Exception.__new__" = true)
    (k_NoSuchPage : PySem.W.keepIn K (.ref X_NoSuchPage) = true)
    (b_NoSuchPage : PySem.W.subIn K (.ref X_NoSuchPage) (.type "BaseException") = some true)
    (t_NoSuchPage : PySem.W.typeIn K (.ref X_NoSuchPage) = some (.type "type"))
    (i_NoSuchPage : PySem.W.isClsIn K X_NoSuchPage = true)
    (u_OutOfRange_OutOfRange : PySem.W.subIn K (.ref X_OutOfRange) (.ref X_OutOfRange) = some true)
    (u_OutOfRange_CannotBeTold : PySem.W.subIn K (.ref X_OutOfRange) (.ref X_CannotBeTold) = some false)
    (u_OutOfRange_TooMany : PySem.W.subIn K (.ref X_OutOfRange) (.ref X_TooMany) = some false)
    (u_OutOfRange_NoSuchPage : PySem.W.subIn K (.ref X_OutOfRange) (.ref X_NoSuchPage) = some false)
    (u_CannotBeTold_OutOfRange : PySem.W.subIn K (.ref X_CannotBeTold) (.ref X_OutOfRange) = some false)
    (u_CannotBeTold_CannotBeTold : PySem.W.subIn K (.ref X_CannotBeTold) (.ref X_CannotBeTold) = some true)
    (u_CannotBeTold_TooMany : PySem.W.subIn K (.ref X_CannotBeTold) (.ref X_TooMany) = some false)
    (u_CannotBeTold_NoSuchPage : PySem.W.subIn K (.ref X_CannotBeTold) (.ref X_NoSuchPage) = some false)
    (u_TooMany_OutOfRange : PySem.W.subIn K (.ref X_TooMany) (.ref X_OutOfRange) = some false)
    (u_TooMany_CannotBeTold : PySem.W.subIn K (.ref X_TooMany) (.ref X_CannotBeTold) = some false)
    (u_TooMany_TooMany : PySem.W.subIn K (.ref X_TooMany) (.ref X_TooMany) = some true)
    (u_TooMany_NoSuchPage : PySem.W.subIn K (.ref X_TooMany) (.ref X_NoSuchPage) = some false)
    (u_NoSuchPage_OutOfRange : PySem.W.subIn K (.ref X_NoSuchPage) (.ref X_OutOfRange) = some false)
    (u_NoSuchPage_CannotBeTold : PySem.W.subIn K (.ref X_NoSuchPage) (.ref X_CannotBeTold) = some false)
    (u_NoSuchPage_TooMany : PySem.W.subIn K (.ref X_NoSuchPage) (.ref X_TooMany) = some false)
    (u_NoSuchPage_NoSuchPage : PySem.W.subIn K (.ref X_NoSuchPage) (.ref X_NoSuchPage) = some true)
    (a_read_calls : PySem.W.nsIn K mainGlobals "read_calls" = some (some (.ref f_read_calls)))
    (l_read_calls : K.lookup f_read_calls = some ⟨oc0, od0, .func (PySem.W.fnOf "read_calls" "read_calls" (defArgs s_read_calls) (defBody s_read_calls) (defScope s_read_calls) .none kV0 dc0 pm0 an0 cd0 ct0), sl0⟩)
    (cd_read_calls : PySem.W.codeIn K cd0 "read_calls" = true)
    (kk_read_calls : PySem.W.keepIn K (.ref f_read_calls) = true)
    (l_AreaPages__init_ : K.lookup f_AreaPages__init_ = some ⟨oc1, od1, .func (PySem.W.fnOf "__init__" "AreaPages.__init__" (defArgs s_AreaPages__init_) (defBody s_AreaPages__init_) (defScope s_AreaPages__init_) .none kV1 dc1 pm1 an1 cd1 ct1), sl1⟩)
    (cd_AreaPages__init_ : PySem.W.codeIn K cd1 "AreaPages.__init__" = true)
    (kk_AreaPages__init_ : PySem.W.keepIn K (.ref f_AreaPages__init_) = true)
    (l_AreaPages_count_pages : K.lookup f_AreaPages_count_pages = some ⟨oc2, od2, .func (PySem.W.fnOf "count_pages" "AreaPages.count_pages" (defArgs s_AreaPages_count_pages) (defBody s_AreaPages_count_pages) (defScope s_AreaPages_count_pages) .none kV2 dc2 pm2 an2 cd2 ct2), sl2⟩)
    (cd_AreaPages_count_pages : PySem.W.codeIn K cd2 "AreaPages.count_pages" = true)
    (kk_AreaPages_count_pages : PySem.W.keepIn K (.ref f_AreaPages_count_pages) = true)
    (l_AreaPages_row_band_of : K.lookup f_AreaPages_row_band_of = some ⟨oc3, od3, .func (PySem.W.fnOf "row_band_of" "AreaPages.row_band_of" (defArgs s_AreaPages_row_band_of) (defBody s_AreaPages_row_band_of) (defScope s_AreaPages_row_band_of) .none kV3 dc3 pm3 an3 cd3 ct3), sl3⟩)
    (cd_AreaPages_row_band_of : PySem.W.codeIn K cd3 "AreaPages.row_band_of" = true)
    (kk_AreaPages_row_band_of : PySem.W.keepIn K (.ref f_AreaPages_row_band_of) = true)
    (l_AreaPages_column_band_of : K.lookup f_AreaPages_column_band_of = some ⟨oc4, od4, .func (PySem.W.fnOf "column_band_of" "AreaPages.column_band_of" (defArgs s_AreaPages_column_band_of) (defBody s_AreaPages_column_band_of) (defScope s_AreaPages_column_band_of) .none kV4 dc4 pm4 an4 cd4 ct4), sl4⟩)
    (cd_AreaPages_column_band_of : PySem.W.codeIn K cd4 "AreaPages.column_band_of" = true)
    (kk_AreaPages_column_band_of : PySem.W.keepIn K (.ref f_AreaPages_column_band_of) = true)
    (l_AreaPages_has_cell : K.lookup f_AreaPages_has_cell = some ⟨oc5, od5, .func (PySem.W.fnOf "has_cell" "AreaPages.has_cell" (defArgs s_AreaPages_has_cell) (defBody s_AreaPages_has_cell) (defScope s_AreaPages_has_cell) .none kV5 dc5 pm5 an5 cd5 ct5), sl5⟩)
    (cd_AreaPages_has_cell : PySem.W.codeIn K cd5 "AreaPages.has_cell" = true)
    (kk_AreaPages_has_cell : PySem.W.keepIn K (.ref f_AreaPages_has_cell) = true)
    (l_AreaPages_page_of : K.lookup f_AreaPages_page_of = some ⟨oc6, od6, .func (PySem.W.fnOf "page_of" "AreaPages.page_of" (defArgs s_AreaPages_page_of) (defBody s_AreaPages_page_of) (defScope s_AreaPages_page_of) .none kV6 dc6 pm6 an6 cd6 ct6), sl6⟩)
    (cd_AreaPages_page_of : PySem.W.codeIn K cd6 "AreaPages.page_of" = true)
    (kk_AreaPages_page_of : PySem.W.keepIn K (.ref f_AreaPages_page_of) = true)
    (a_is_within : PySem.W.nsIn K mainGlobals "is_within" = some (some (.ref f_is_within)))
    (l_is_within : K.lookup f_is_within = some ⟨oc7, od7, .func (PySem.W.fnOf "is_within" "is_within" (defArgs s_is_within) (defBody s_is_within) (defScope s_is_within) .none kV7 dc7 pm7 an7 cd7 ct7), sl7⟩)
    (cd_is_within : PySem.W.codeIn K cd7 "is_within" = true)
    (kk_is_within : PySem.W.keepIn K (.ref f_is_within) = true)
    (a_band_place : PySem.W.nsIn K mainGlobals "band_place" = some (some (.ref f_band_place)))
    (l_band_place : K.lookup f_band_place = some ⟨oc8, od8, .func (PySem.W.fnOf "band_place" "band_place" (defArgs s_band_place) (defBody s_band_place) (defScope s_band_place) .none kV8 dc8 pm8 an8 cd8 ct8), sl8⟩)
    (cd_band_place : PySem.W.codeIn K cd8 "band_place" = true)
    (kk_band_place : PySem.W.keepIn K (.ref f_band_place) = true)
    (l_WayBands__init_ : K.lookup f_WayBands__init_ = some ⟨oc9, od9, .func (PySem.W.fnOf "__init__" "WayBands.__init__" (defArgs s_WayBands__init_) (defBody s_WayBands__init_) (defScope s_WayBands__init_) .none kV9 dc9 pm9 an9 cd9 ct9), sl9⟩)
    (cd_WayBands__init_ : PySem.W.codeIn K cd9 "WayBands.__init__" = true)
    (kk_WayBands__init_ : PySem.W.keepIn K (.ref f_WayBands__init_) = true)
    (l_WayBands_again_from : K.lookup f_WayBands_again_from = some ⟨oc10, od10, .func (PySem.W.fnOf "again_from" "WayBands.again_from" (defArgs s_WayBands_again_from) (defBody s_WayBands_again_from) (defScope s_WayBands_again_from) .none kV10 dc10 pm10 an10 cd10 ct10), sl10⟩)
    (cd_WayBands_again_from : PySem.W.codeIn K cd10 "WayBands.again_from" = true)
    (kk_WayBands_again_from : PySem.W.keepIn K (.ref f_WayBands_again_from) = true)
    (l_WayBands_again_end : K.lookup f_WayBands_again_end = some ⟨oc11, od11, .func (PySem.W.fnOf "again_end" "WayBands.again_end" (defArgs s_WayBands_again_end) (defBody s_WayBands_again_end) (defScope s_WayBands_again_end) .none kV11 dc11 pm11 an11 cd11 ct11), sl11⟩)
    (cd_WayBands_again_end : PySem.W.codeIn K cd11 "WayBands.again_end" = true)
    (kk_WayBands_again_end : PySem.W.keepIn K (.ref f_WayBands_again_end) = true)
    (l_WayBands_count_again : K.lookup f_WayBands_count_again = some ⟨oc12, od12, .func (PySem.W.fnOf "count_again" "WayBands.count_again" (defArgs s_WayBands_count_again) (defBody s_WayBands_count_again) (defScope s_WayBands_count_again) .none kV12 dc12 pm12 an12 cd12 ct12), sl12⟩)
    (cd_WayBands_count_again : PySem.W.codeIn K cd12 "WayBands.count_again" = true)
    (kk_WayBands_count_again : PySem.W.keepIn K (.ref f_WayBands_count_again) = true)
    (l_WayBands_again_size : K.lookup f_WayBands_again_size = some ⟨oc13, od13, .func (PySem.W.fnOf "again_size" "WayBands.again_size" (defArgs s_WayBands_again_size) (defBody s_WayBands_again_size) (defScope s_WayBands_again_size) .none kV13 dc13 pm13 an13 cd13 ct13), sl13⟩)
    (cd_WayBands_again_size : PySem.W.codeIn K cd13 "WayBands.again_size" = true)
    (kk_WayBands_again_size : PySem.W.keepIn K (.ref f_WayBands_again_size) = true)
    (l_WayBands_band_end : K.lookup f_WayBands_band_end = some ⟨oc14, od14, .func (PySem.W.fnOf "band_end" "WayBands.band_end" (defArgs s_WayBands_band_end) (defBody s_WayBands_band_end) (defScope s_WayBands_band_end) .none kV14 dc14 pm14 an14 cd14 ct14), sl14⟩)
    (cd_WayBands_band_end : PySem.W.codeIn K cd14 "WayBands.band_end" = true)
    (kk_WayBands_band_end : PySem.W.keepIn K (.ref f_WayBands_band_end) = true)
    (l_WayBands_find_bands : K.lookup f_WayBands_find_bands = some ⟨oc15, od15, .func (PySem.W.fnOf "find_bands" "WayBands.find_bands" (defArgs s_WayBands_find_bands) (defBody s_WayBands_find_bands) (defScope s_WayBands_find_bands) .none kV15 dc15 pm15 an15 cd15 ct15), sl15⟩)
    (cd_WayBands_find_bands : PySem.W.codeIn K cd15 "WayBands.find_bands" = true)
    (kk_WayBands_find_bands : PySem.W.keepIn K (.ref f_WayBands_find_bands) = true)
    (l_WayBands_has_more_bands : K.lookup f_WayBands_has_more_bands = some ⟨oc16, od16, .func (PySem.W.fnOf "has_more_bands" "WayBands.has_more_bands" (defArgs s_WayBands_has_more_bands) (defBody s_WayBands_has_more_bands) (defScope s_WayBands_has_more_bands) .none kV16 dc16 pm16 an16 cd16 ct16), sl16⟩)
    (cd_WayBands_has_more_bands : PySem.W.codeIn K cd16 "WayBands.has_more_bands" = true)
    (kk_WayBands_has_more_bands : PySem.W.keepIn K (.ref f_WayBands_has_more_bands) = true)
    (l_WayBands_page_size : K.lookup f_WayBands_page_size = some ⟨oc17, od17, .func (PySem.W.fnOf "page_size" "WayBands.page_size" (defArgs s_WayBands_page_size) (defBody s_WayBands_page_size) (defScope s_WayBands_page_size) .none kV17 dc17 pm17 an17 cd17 ct17), sl17⟩)
    (cd_WayBands_page_size : PySem.W.codeIn K cd17 "WayBands.page_size" = true)
    (kk_WayBands_page_size : PySem.W.keepIn K (.ref f_WayBands_page_size) = true)
    (l_WayBands_distance : K.lookup f_WayBands_distance = some ⟨oc18, od18, .func (PySem.W.fnOf "distance" "WayBands.distance" (defArgs s_WayBands_distance) (defBody s_WayBands_distance) (defScope s_WayBands_distance) .none kV18 dc18 pm18 an18 cd18 ct18), sl18⟩)
    (cd_WayBands_distance : PySem.W.codeIn K cd18 "WayBands.distance" = true)
    (kk_WayBands_distance : PySem.W.keepIn K (.ref f_WayBands_distance) = true)
    (a_check_text : PySem.W.nsIn K mainGlobals "check_text" = some (some (.ref f_check_text)))
    (l_check_text : K.lookup f_check_text = some ⟨oc19, od19, .func (PySem.W.fnOf "check_text" "check_text" (defArgs s_check_text) (defBody s_check_text) (defScope s_check_text) .none kV19 dc19 pm19 an19 cd19 ct19), sl19⟩)
    (cd_check_text : PySem.W.codeIn K cd19 "check_text" = true)
    (kk_check_text : PySem.W.keepIn K (.ref f_check_text) = true)
    (a_write_text : PySem.W.nsIn K mainGlobals "write_text" = some (some (.ref f_write_text)))
    (l_write_text : K.lookup f_write_text = some ⟨oc20, od20, .func (PySem.W.fnOf "write_text" "write_text" (defArgs s_write_text) (defBody s_write_text) (defScope s_write_text) .none kV20 dc20 pm20 an20 cd20 ct20), sl20⟩)
    (cd_write_text : PySem.W.codeIn K cd20 "write_text" = true)
    (kk_write_text : PySem.W.keepIn K (.ref f_write_text) = true)
    (a_digits_of : PySem.W.nsIn K mainGlobals "digits_of" = some (some (.ref f_digits_of)))
    (l_digits_of : K.lookup f_digits_of = some ⟨oc21, od21, .func (PySem.W.fnOf "digits_of" "digits_of" (defArgs s_digits_of) (defBody s_digits_of) (defScope s_digits_of) .none kV21 dc21 pm21 an21 cd21 ct21), sl21⟩)
    (cd_digits_of : PySem.W.codeIn K cd21 "digits_of" = true)
    (kk_digits_of : PySem.W.keepIn K (.ref f_digits_of) = true)
    (l_SheetPages__init_ : K.lookup f_SheetPages__init_ = some ⟨oc22, od22, .func (PySem.W.fnOf "__init__" "SheetPages.__init__" (defArgs s_SheetPages__init_) (defBody s_SheetPages__init_) (defScope s_SheetPages__init_) .none kV22 dc22 pm22 an22 cd22 ct22), sl22⟩)
    (cd_SheetPages__init_ : PySem.W.codeIn K cd22 "SheetPages.__init__" = true)
    (kk_SheetPages__init_ : PySem.W.keepIn K (.ref f_SheetPages__init_) = true)
    (l_SheetPages_find_fitting_scale : K.lookup f_SheetPages_find_fitting_scale = some ⟨oc23, od23, .func (PySem.W.fnOf "find_fitting_scale" "SheetPages.find_fitting_scale" (defArgs s_SheetPages_find_fitting_scale) (defBody s_SheetPages_find_fitting_scale) (defScope s_SheetPages_find_fitting_scale) .none kV23 dc23 pm23 an23 cd23 ct23), sl23⟩)
    (cd_SheetPages_find_fitting_scale : PySem.W.codeIn K cd23 "SheetPages.find_fitting_scale" = true)
    (kk_SheetPages_find_fitting_scale : PySem.W.keepIn K (.ref f_SheetPages_find_fitting_scale) = true)
    (l_SheetPages_fits : K.lookup f_SheetPages_fits = some ⟨oc24, od24, .func (PySem.W.fnOf "fits" "SheetPages.fits" (defArgs s_SheetPages_fits) (defBody s_SheetPages_fits) (defScope s_SheetPages_fits) .none kV24 dc24 pm24 an24 cd24 ct24), sl24⟩)
    (cd_SheetPages_fits : PySem.W.codeIn K cd24 "SheetPages.fits" = true)
    (kk_SheetPages_fits : PySem.W.keepIn K (.ref f_SheetPages_fits) = true)
    (l_SheetPages_tell_pages : K.lookup f_SheetPages_tell_pages = some ⟨oc25, od25, .func (PySem.W.fnOf "tell_pages" "SheetPages.tell_pages" (defArgs s_SheetPages_tell_pages) (defBody s_SheetPages_tell_pages) (defScope s_SheetPages_tell_pages) .none kV25 dc25 pm25 an25 cd25 ct25), sl25⟩)
    (cd_SheetPages_tell_pages : PySem.W.codeIn K cd25 "SheetPages.tell_pages" = true)
    (kk_SheetPages_tell_pages : PySem.W.keepIn K (.ref f_SheetPages_tell_pages) = true)
    (l_SheetPages_area_pages_with : K.lookup f_SheetPages_area_pages_with = some ⟨oc26, od26, .func (PySem.W.fnOf "area_pages_with" "SheetPages.area_pages_with" (defArgs s_SheetPages_area_pages_with) (defBody s_SheetPages_area_pages_with) (defScope s_SheetPages_area_pages_with) .none kV26 dc26 pm26 an26 cd26 ct26), sl26⟩)
    (cd_SheetPages_area_pages_with : PySem.W.codeIn K cd26 "SheetPages.area_pages_with" = true)
    (kk_SheetPages_area_pages_with : PySem.W.keepIn K (.ref f_SheetPages_area_pages_with) = true)
    (l_SheetPages_tell_page : K.lookup f_SheetPages_tell_page = some ⟨oc27, od27, .func (PySem.W.fnOf "tell_page" "SheetPages.tell_page" (defArgs s_SheetPages_tell_page) (defBody s_SheetPages_tell_page) (defScope s_SheetPages_tell_page) .none kV27 dc27 pm27 an27 cd27 ct27), sl27⟩)
    (cd_SheetPages_tell_page : PySem.W.codeIn K cd27 "SheetPages.tell_page" = true)
    (kk_SheetPages_tell_page : PySem.W.keepIn K (.ref f_SheetPages_tell_page) = true)
    (l_SheetPages_tell_where : K.lookup f_SheetPages_tell_where = some ⟨oc28, od28, .func (PySem.W.fnOf "tell_where" "SheetPages.tell_where" (defArgs s_SheetPages_tell_where) (defBody s_SheetPages_tell_where) (defScope s_SheetPages_tell_where) .none kV28 dc28 pm28 an28 cd28 ct28), sl28⟩)
    (cd_SheetPages_tell_where : PySem.W.codeIn K cd28 "SheetPages.tell_where" = true)
    (kk_SheetPages_tell_where : PySem.W.keepIn K (.ref f_SheetPages_tell_where) = true)
    (l_SheetPages_tell_texts : K.lookup f_SheetPages_tell_texts = some ⟨oc29, od29, .func (PySem.W.fnOf "tell_texts" "SheetPages.tell_texts" (defArgs s_SheetPages_tell_texts) (defBody s_SheetPages_tell_texts) (defScope s_SheetPages_tell_texts) .none kV29 dc29 pm29 an29 cd29 ct29), sl29⟩)
    (cd_SheetPages_tell_texts : PySem.W.codeIn K cd29 "SheetPages.tell_texts" = true)
    (kk_SheetPages_tell_texts : PySem.W.keepIn K (.ref f_SheetPages_tell_texts) = true)
    (l_WaySettings__init_ : K.lookup f_WaySettings__init_ = some ⟨oc30, od30, .func (PySem.W.fnOf "__init__" "WaySettings.__init__" (defArgs s_WaySettings__init_) (defBody s_WaySettings__init_) (defScope s_WaySettings__init_) .none kV30 dc30 pm30 an30 cd30 ct30), sl30⟩)
    (cd_WaySettings__init_ : PySem.W.codeIn K cd30 "WaySettings.__init__" = true)
    (kk_WaySettings__init_ : PySem.W.keepIn K (.ref f_WaySettings__init_) = true)
    (l_WaySettings_check_span : K.lookup f_WaySettings_check_span = some ⟨oc31, od31, .func (PySem.W.fnOf "check_span" "WaySettings.check_span" (defArgs s_WaySettings_check_span) (defBody s_WaySettings_check_span) (defScope s_WaySettings_check_span) .none kV31 dc31 pm31 an31 cd31 ct31), sl31⟩)
    (cd_WaySettings_check_span : PySem.W.codeIn K cd31 "WaySettings.check_span" = true)
    (kk_WaySettings_check_span : PySem.W.keepIn K (.ref f_WaySettings_check_span) = true)
    (l_WaySettings_set_size : K.lookup f_WaySettings_set_size = some ⟨oc32, od32, .func (PySem.W.fnOf "set_size" "WaySettings.set_size" (defArgs s_WaySettings_set_size) (defBody s_WaySettings_set_size) (defScope s_WaySettings_set_size) .none kV32 dc32 pm32 an32 cd32 ct32), sl32⟩)
    (cd_WaySettings_set_size : PySem.W.codeIn K cd32 "WaySettings.set_size" = true)
    (kk_WaySettings_set_size : PySem.W.keepIn K (.ref f_WaySettings_set_size) = true)
    (l_WaySettings_set_titles : K.lookup f_WaySettings_set_titles = some ⟨oc33, od33, .func (PySem.W.fnOf "set_titles" "WaySettings.set_titles" (defArgs s_WaySettings_set_titles) (defBody s_WaySettings_set_titles) (defScope s_WaySettings_set_titles) .none kV33 dc33 pm33 an33 cd33 ct33), sl33⟩)
    (cd_WaySettings_set_titles : PySem.W.codeIn K cd33 "WaySettings.set_titles" = true)
    (kk_WaySettings_set_titles : PySem.W.keepIn K (.ref f_WaySettings_set_titles) = true)
    (l_WaySettings_set_breaks : K.lookup f_WaySettings_set_breaks = some ⟨oc34, od34, .func (PySem.W.fnOf "set_breaks" "WaySettings.set_breaks" (defArgs s_WaySettings_set_breaks) (defBody s_WaySettings_set_breaks) (defScope s_WaySettings_set_breaks) .none kV34 dc34 pm34 an34 cd34 ct34), sl34⟩)
    (cd_WaySettings_set_breaks : PySem.W.codeIn K cd34 "WaySettings.set_breaks" = true)
    (kk_WaySettings_set_breaks : PySem.W.keepIn K (.ref f_WaySettings_set_breaks) = true)
    (l_SheetSettings__init_ : K.lookup f_SheetSettings__init_ = some ⟨oc35, od35, .func (PySem.W.fnOf "__init__" "SheetSettings.__init__" (defArgs s_SheetSettings__init_) (defBody s_SheetSettings__init_) (defScope s_SheetSettings__init_) .none kV35 dc35 pm35 an35 cd35 ct35), sl35⟩)
    (cd_SheetSettings__init_ : PySem.W.codeIn K cd35 "SheetSettings.__init__" = true)
    (kk_SheetSettings__init_ : PySem.W.keepIn K (.ref f_SheetSettings__init_) = true)
    (l_SheetSettings_begin : K.lookup f_SheetSettings_begin = some ⟨oc36, od36, .func (PySem.W.fnOf "begin" "SheetSettings.begin" (defArgs s_SheetSettings_begin) (defBody s_SheetSettings_begin) (defScope s_SheetSettings_begin) .none kV36 dc36 pm36 an36 cd36 ct36), sl36⟩)
    (cd_SheetSettings_begin : PySem.W.codeIn K cd36 "SheetSettings.begin" = true)
    (kk_SheetSettings_begin : PySem.W.keepIn K (.ref f_SheetSettings_begin) = true)
    (l_SheetSettings_set_paper : K.lookup f_SheetSettings_set_paper = some ⟨oc37, od37, .func (PySem.W.fnOf "set_paper" "SheetSettings.set_paper" (defArgs s_SheetSettings_set_paper) (defBody s_SheetSettings_set_paper) (defScope s_SheetSettings_set_paper) .none kV37 dc37 pm37 an37 cd37 ct37), sl37⟩)
    (cd_SheetSettings_set_paper : PySem.W.codeIn K cd37 "SheetSettings.set_paper" = true)
    (kk_SheetSettings_set_paper : PySem.W.keepIn K (.ref f_SheetSettings_set_paper) = true)
    (l_SheetSettings_set_areas : K.lookup f_SheetSettings_set_areas = some ⟨oc38, od38, .func (PySem.W.fnOf "set_areas" "SheetSettings.set_areas" (defArgs s_SheetSettings_set_areas) (defBody s_SheetSettings_set_areas) (defScope s_SheetSettings_set_areas) .none kV38 dc38 pm38 an38 cd38 ct38), sl38⟩)
    (cd_SheetSettings_set_areas : PySem.W.codeIn K cd38 "SheetSettings.set_areas" = true)
    (kk_SheetSettings_set_areas : PySem.W.keepIn K (.ref f_SheetSettings_set_areas) = true)
    (l_SheetSettings_set_scale : K.lookup f_SheetSettings_set_scale = some ⟨oc39, od39, .func (PySem.W.fnOf "set_scale" "SheetSettings.set_scale" (defArgs s_SheetSettings_set_scale) (defBody s_SheetSettings_set_scale) (defScope s_SheetSettings_set_scale) .none kV39 dc39 pm39 an39 cd39 ct39), sl39⟩)
    (cd_SheetSettings_set_scale : PySem.W.codeIn K cd39 "SheetSettings.set_scale" = true)
    (kk_SheetSettings_set_scale : PySem.W.keepIn K (.ref f_SheetSettings_set_scale) = true)
    (l_SheetSettings_set_fit : K.lookup f_SheetSettings_set_fit = some ⟨oc40, od40, .func (PySem.W.fnOf "set_fit" "SheetSettings.set_fit" (defArgs s_SheetSettings_set_fit) (defBody s_SheetSettings_set_fit) (defScope s_SheetSettings_set_fit) .none kV40 dc40 pm40 an40 cd40 ct40), sl40⟩)
    (cd_SheetSettings_set_fit : PySem.W.codeIn K cd40 "SheetSettings.set_fit" = true)
    (kk_SheetSettings_set_fit : PySem.W.keepIn K (.ref f_SheetSettings_set_fit) = true)
    (l_SheetSettings_set_how : K.lookup f_SheetSettings_set_how = some ⟨oc41, od41, .func (PySem.W.fnOf "set_how" "SheetSettings.set_how" (defArgs s_SheetSettings_set_how) (defBody s_SheetSettings_set_how) (defScope s_SheetSettings_set_how) .none kV41 dc41 pm41 an41 cd41 ct41), sl41⟩)
    (cd_SheetSettings_set_how : PySem.W.codeIn K cd41 "SheetSettings.set_how" = true)
    (kk_SheetSettings_set_how : PySem.W.keepIn K (.ref f_SheetSettings_set_how) = true)
    (l_SheetSettings_set_heads : K.lookup f_SheetSettings_set_heads = some ⟨oc42, od42, .func (PySem.W.fnOf "set_heads" "SheetSettings.set_heads" (defArgs s_SheetSettings_set_heads) (defBody s_SheetSettings_set_heads) (defScope s_SheetSettings_set_heads) .none kV42 dc42 pm42 an42 cd42 ct42), sl42⟩)
    (cd_SheetSettings_set_heads : PySem.W.codeIn K cd42 "SheetSettings.set_heads" = true)
    (kk_SheetSettings_set_heads : PySem.W.keepIn K (.ref f_SheetSettings_set_heads) = true)
    (a_check_side : PySem.W.nsIn K mainGlobals "check_side" = some (some (.ref f_check_side)))
    (l_check_side : K.lookup f_check_side = some ⟨oc43, od43, .func (PySem.W.fnOf "check_side" "check_side" (defArgs s_check_side) (defBody s_check_side) (defScope s_check_side) .none kV43 dc43 pm43 an43 cd43 ct43), sl43⟩)
    (cd_check_side : PySem.W.codeIn K cd43 "check_side" = true)
    (kk_check_side : PySem.W.keepIn K (.ref f_check_side) = true)
    (l_Sheet__init_ : K.lookup f_Sheet__init_ = some ⟨oc44, od44, .func (PySem.W.fnOf "__init__" "Sheet.__init__" (defArgs s_Sheet__init_) (defBody s_Sheet__init_) (defScope s_Sheet__init_) .none kV44 dc44 pm44 an44 cd44 ct44), sl44⟩)
    (cd_Sheet__init_ : PySem.W.codeIn K cd44 "Sheet.__init__" = true)
    (kk_Sheet__init_ : PySem.W.keepIn K (.ref f_Sheet__init_) = true)
    (l_Sheet_change : K.lookup f_Sheet_change = some ⟨oc45, od45, .func (PySem.W.fnOf "change" "Sheet.change" (defArgs s_Sheet_change) (defBody s_Sheet_change) (defScope s_Sheet_change) .none kV45 dc45 pm45 an45 cd45 ct45), sl45⟩)
    (cd_Sheet_change : PySem.W.codeIn K cd45 "Sheet.change" = true)
    (kk_Sheet_change : PySem.W.keepIn K (.ref f_Sheet_change) = true)
    (l_Sheet_ask : K.lookup f_Sheet_ask = some ⟨oc46, od46, .func (PySem.W.fnOf "ask" "Sheet.ask" (defArgs s_Sheet_ask) (defBody s_Sheet_ask) (defScope s_Sheet_ask) .none kV46 dc46 pm46 an46 cd46 ct46), sl46⟩)
    (cd_Sheet_ask : PySem.W.codeIn K cd46 "Sheet.ask" = true)
    (kk_Sheet_ask : PySem.W.keepIn K (.ref f_Sheet_ask) = true)
    (a_answers : PySem.W.nsIn K mainGlobals "answers" = some (some (.ref f_answers)))
    (l_answers : K.lookup f_answers = some ⟨oc47, od47, .func (PySem.W.fnOf "answers" "answers" (defArgs s_answers) (defBody s_answers) (defScope s_answers) .none kV47 dc47 pm47 an47 cd47 ct47), sl47⟩)
    (cd_answers : PySem.W.codeIn K cd47 "answers" = true)
    (kk_answers : PySem.W.keepIn K (.ref f_answers) = true)
    (a_answer_call : PySem.W.nsIn K mainGlobals "answer_call" = some (some (.ref f_answer_call)))
    (l_answer_call : K.lookup f_answer_call = some ⟨oc48, od48, .func (PySem.W.fnOf "answer_call" "answer_call" (defArgs s_answer_call) (defBody s_answer_call) (defScope s_answer_call) .none kV48 dc48 pm48 an48 cd48 ct48), sl48⟩)
    (cd_answer_call : PySem.W.codeIn K cd48 "answer_call" = true)
    (kk_answer_call : PySem.W.keepIn K (.ref f_answer_call) = true)
    (a_make_change : PySem.W.nsIn K mainGlobals "make_change" = some (some (.ref f_make_change)))
    (l_make_change : K.lookup f_make_change = some ⟨oc49, od49, .func (PySem.W.fnOf "make_change" "make_change" (defArgs s_make_change) (defBody s_make_change) (defScope s_make_change) .none kV49 dc49 pm49 an49 cd49 ct49), sl49⟩)
    (cd_make_change : PySem.W.codeIn K cd49 "make_change" = true)
    (kk_make_change : PySem.W.keepIn K (.ref f_make_change) = true)
    (a_answer_question : PySem.W.nsIn K mainGlobals "answer_question" = some (some (.ref f_answer_question)))
    (l_answer_question : K.lookup f_answer_question = some ⟨oc50, od50, .func (PySem.W.fnOf "answer_question" "answer_question" (defArgs s_answer_question) (defBody s_answer_question) (defScope s_answer_question) .none kV50 dc50 pm50 an50 cd50 ct50), sl50⟩)
    (cd_answer_question : PySem.W.codeIn K cd50 "answer_question" = true)
    (kk_answer_question : PySem.W.keepIn K (.ref f_answer_question) = true)
    (z_FORMS : PySem.W.nsIn K mainGlobals "FORMS" = some (some (.ref t_FORMS)))
    (lk_FORMS : K.lookup t_FORMS = some ⟨.type "tuple", od_FORMS, .seq #[.ref u_FORMS_0, .ref u_FORMS_1, .ref u_FORMS_2, .ref u_FORMS_3, .ref u_FORMS_4, .ref u_FORMS_5, .ref u_FORMS_6, .ref u_FORMS_7, .ref u_FORMS_8, .ref u_FORMS_9, .ref u_FORMS_10, .ref u_FORMS_11, .ref u_FORMS_12, .ref u_FORMS_13] n_FORMS, sl_FORMS⟩)
    (lk_FORMS_0 : K.lookup u_FORMS_0 = some ⟨.type "tuple", od_FORMS_0, .seq #[.str "begins" tk_FORMS_0_0, .int 0 tk_FORMS_0_1, .int 0 tk_FORMS_0_2] n_FORMS_0, sl_FORMS_0⟩)
    (lk_FORMS_1 : K.lookup u_FORMS_1 = some ⟨.type "tuple", od_FORMS_1, .seq #[.str "size" tk_FORMS_1_0, .int 4 tk_FORMS_1_1, .int 0 tk_FORMS_1_2] n_FORMS_1, sl_FORMS_1⟩)
    (lk_FORMS_2 : K.lookup u_FORMS_2 = some ⟨.type "tuple", od_FORMS_2, .seq #[.str "paper" tk_FORMS_2_0, .int 6 tk_FORMS_2_1, .int 0 tk_FORMS_2_2] n_FORMS_2, sl_FORMS_2⟩)
    (lk_FORMS_3 : K.lookup u_FORMS_3 = some ⟨.type "tuple", od_FORMS_3, .seq #[.str "areas" tk_FORMS_3_0, .int 0 tk_FORMS_3_1, .int 1 tk_FORMS_3_2] n_FORMS_3, sl_FORMS_3⟩)
    (lk_FORMS_4 : K.lookup u_FORMS_4 = some ⟨.type "tuple", od_FORMS_4, .seq #[.str "titles" tk_FORMS_4_0, .int 1 tk_FORMS_4_1, .int 1 tk_FORMS_4_2] n_FORMS_4, sl_FORMS_4⟩)
    (lk_FORMS_5 : K.lookup u_FORMS_5 = some ⟨.type "tuple", od_FORMS_5, .seq #[.str "breaks" tk_FORMS_5_0, .int 1 tk_FORMS_5_1, .int 1 tk_FORMS_5_2] n_FORMS_5, sl_FORMS_5⟩)
    (lk_FORMS_6 : K.lookup u_FORMS_6 = some ⟨.type "tuple", od_FORMS_6, .seq #[.str "scale" tk_FORMS_6_0, .int 1 tk_FORMS_6_1, .int 0 tk_FORMS_6_2] n_FORMS_6, sl_FORMS_6⟩)
    (lk_FORMS_7 : K.lookup u_FORMS_7 = some ⟨.type "tuple", od_FORMS_7, .seq #[.str "fit" tk_FORMS_7_0, .int 2 tk_FORMS_7_1, .int 0 tk_FORMS_7_2] n_FORMS_7, sl_FORMS_7⟩)
    (lk_FORMS_8 : K.lookup u_FORMS_8 = some ⟨.type "tuple", od_FORMS_8, .seq #[.str "how" tk_FORMS_8_0, .int 4 tk_FORMS_8_1, .int 0 tk_FORMS_8_2] n_FORMS_8, sl_FORMS_8⟩)
    (lk_FORMS_9 : K.lookup u_FORMS_9 = some ⟨.type "tuple", od_FORMS_9, .seq #[.str "heads" tk_FORMS_9_0, .int 0 tk_FORMS_9_1, .int 2 tk_FORMS_9_2] n_FORMS_9, sl_FORMS_9⟩)
    (lk_FORMS_10 : K.lookup u_FORMS_10 = some ⟨.type "tuple", od_FORMS_10, .seq #[.str "pages" tk_FORMS_10_0, .int 0 tk_FORMS_10_1, .int 0 tk_FORMS_10_2] n_FORMS_10, sl_FORMS_10⟩)
    (lk_FORMS_11 : K.lookup u_FORMS_11 = some ⟨.type "tuple", od_FORMS_11, .seq #[.str "page" tk_FORMS_11_0, .int 1 tk_FORMS_11_1, .int 0 tk_FORMS_11_2] n_FORMS_11, sl_FORMS_11⟩)
    (lk_FORMS_12 : K.lookup u_FORMS_12 = some ⟨.type "tuple", od_FORMS_12, .seq #[.str "where" tk_FORMS_12_0, .int 2 tk_FORMS_12_1, .int 0 tk_FORMS_12_2] n_FORMS_12, sl_FORMS_12⟩)
    (lk_FORMS_13 : K.lookup u_FORMS_13 = some ⟨.type "tuple", od_FORMS_13, .seq #[.str "texts" tk_FORMS_13_0, .int 1 tk_FORMS_13_1, .int 0 tk_FORMS_13_2] n_FORMS_13, sl_FORMS_13⟩)
    (z_LONGEST_TEXT : PySem.W.nsIn K mainGlobals "LONGEST_TEXT" = some (some (.int 255 tk_LONGEST_TEXT)))
    (z_LARGEST_FITTING : PySem.W.nsIn K mainGlobals "LARGEST_FITTING" = some (some (.int 100 tk_LARGEST_FITTING)))
    (z_SMALLEST_FITTING : PySem.W.nsIn K mainGlobals "SMALLEST_FITTING" = some (some (.int 10 tk_SMALLEST_FITTING)))
    (z_MOST_SIZES : PySem.W.nsIn K mainGlobals "MOST_SIZES" = some (some (.int 200 tk_MOST_SIZES)))
    (z_LARGEST_SIZE : PySem.W.nsIn K mainGlobals "LARGEST_SIZE" = some (some (.int 10000 tk_LARGEST_SIZE)))
    (z_MOST_BREAKS : PySem.W.nsIn K mainGlobals "MOST_BREAKS" = some (some (.int 500 tk_MOST_BREAKS)))
    (z_LONGEST_SIDE : PySem.W.nsIn K mainGlobals "LONGEST_SIDE" = some (some (.int 100000 tk_LONGEST_SIDE)))
    (z_MOST_AREAS : PySem.W.nsIn K mainGlobals "MOST_AREAS" = some (some (.int 32 tk_MOST_AREAS)))
    (z_SMALLEST_SCALE : PySem.W.nsIn K mainGlobals "SMALLEST_SCALE" = some (some (.int 10 tk_SMALLEST_SCALE)))
    (z_LARGEST_SCALE : PySem.W.nsIn K mainGlobals "LARGEST_SCALE" = some (some (.int 400 tk_LARGEST_SCALE)))
    (z_MOST_BANDS : PySem.W.nsIn K mainGlobals "MOST_BANDS" = some (some (.int 1000 tk_MOST_BANDS)))
    (z_FARTHEST_FIRST_NUMBER : PySem.W.nsIn K mainGlobals "FARTHEST_FIRST_NUMBER" = some (some (.int 1000000 tk_FARTHEST_FIRST_NUMBER)))
    (z_QUESTIONS : PySem.W.nsIn K mainGlobals "QUESTIONS" = some (some (.ref t_QUESTIONS)))
    (lk_QUESTIONS : K.lookup t_QUESTIONS = some ⟨.type "tuple", od_QUESTIONS, .seq #[.str "pages" tk_QUESTIONS_0, .str "page" tk_QUESTIONS_1, .str "where" tk_QUESTIONS_2, .str "texts" tk_QUESTIONS_3] n_QUESTIONS, sl_QUESTIONS⟩)
    (v_abs : PySem.W.nsIn K mainGlobals "abs" = some none)
    (v_len : PySem.W.nsIn K mainGlobals "len" = some none)
    (v_min : PySem.W.nsIn K mainGlobals "min" = some none)
    (v_ord : PySem.W.nsIn K mainGlobals "ord" = some none)
    (v_range : PySem.W.nsIn K mainGlobals "range" = some none)
    (v_str : PySem.W.nsIn K mainGlobals "str" = some none)
    (v_tuple : PySem.W.nsIn K mainGlobals "tuple" = some none)
    : ∃ fd : FuncData, (∀ (s : Shared) (us : List Value), us.length = p_answers.length → BindsTo s fd ⟨us, []⟩ (p_answers.zip us)) ∧ ∀ base : Heap, K.In base → base.Ns mainGlobals mg → FnOk P w K mg base CX0 11 fa fd p_answers (spAns K) := by
  have e := hfa.symm.trans (PySem.W.mg_of X G a_answers)
  cases e
  have T := txt_mk X G a_AreaPages pg_AreaPages hd_AreaPages po_AreaPages sa_AreaPages mk_AreaPages kc_AreaPages na_AreaPages_area_place na_AreaPages_first_page na_AreaPages_row_bands na_AreaPages_column_bands na_AreaPages_beside_first h_AreaPages__init_ s_fn_AreaPages__init_ h_AreaPages_count_pages s_fn_AreaPages_count_pages h_AreaPages_row_band_of s_fn_AreaPages_row_band_of h_AreaPages_column_band_of s_fn_AreaPages_column_band_of h_AreaPages_has_cell s_fn_AreaPages_has_cell h_AreaPages_page_of s_fn_AreaPages_page_of a_WayBands pg_WayBands hd_WayBands po_WayBands sa_WayBands mk_WayBands kc_WayBands na_WayBands_way na_WayBands_starts h_WayBands__init_ s_fn_WayBands__init_ h_WayBands_again_from s_fn_WayBands_again_from h_WayBands_again_end s_fn_WayBands_again_end h_WayBands_count_again s_fn_WayBands_count_again h_WayBands_again_size s_fn_WayBands_again_size h_WayBands_band_end s_fn_WayBands_band_end h_WayBands_find_bands s_fn_WayBands_find_bands h_WayBands_has_more_bands s_fn_WayBands_has_more_bands h_WayBands_page_size s_fn_WayBands_page_size h_WayBands_distance s_fn_WayBands_distance a_SheetPages pg_SheetPages hd_SheetPages po_SheetPages sa_SheetPages mk_SheetPages kc_SheetPages na_SheetPages_settings na_SheetPages_rows na_SheetPages_columns na_SheetPages_used_scale na_SheetPages_page_count na_SheetPages_area_pages h_SheetPages__init_ s_fn_SheetPages__init_ h_SheetPages_find_fitting_scale s_fn_SheetPages_find_fitting_scale h_SheetPages_fits s_fn_SheetPages_fits h_SheetPages_tell_pages s_fn_SheetPages_tell_pages h_SheetPages_area_pages_with s_fn_SheetPages_area_pages_with h_SheetPages_tell_page s_fn_SheetPages_tell_page h_SheetPages_tell_where s_fn_SheetPages_tell_where h_SheetPages_tell_texts s_fn_SheetPages_tell_texts a_WaySettings pg_WaySettings hd_WaySettings po_WaySettings sa_WaySettings mk_WaySettings kc_WaySettings na_WaySettings_place_count na_WaySettings_sizes na_WaySettings_sizes_told na_WaySettings_edge na_WaySettings_space na_WaySettings_in_middle na_WaySettings_titles na_WaySettings_breaks h_WaySettings__init_ s_fn_WaySettings__init_ h_WaySettings_check_span s_fn_WaySettings_check_span h_WaySettings_set_size s_fn_WaySettings_set_size h_WaySettings_set_titles s_fn_WaySettings_set_titles h_WaySettings_set_breaks s_fn_WaySettings_set_breaks a_SheetSettings pg_SheetSettings hd_SheetSettings po_SheetSettings sa_SheetSettings mk_SheetSettings kc_SheetSettings na_SheetSettings_ways na_SheetSettings_areas na_SheetSettings_scale na_SheetSettings_fit na_SheetSettings_beside_first na_SheetSettings_first_number na_SheetSettings_head na_SheetSettings_foot h_SheetSettings__init_ s_fn_SheetSettings__init_ h_SheetSettings_begin s_fn_SheetSettings_begin h_SheetSettings_set_paper s_fn_SheetSettings_set_paper h_SheetSettings_set_areas s_fn_SheetSettings_set_areas h_SheetSettings_set_scale s_fn_SheetSettings_set_scale h_SheetSettings_set_fit s_fn_SheetSettings_set_fit h_SheetSettings_set_how s_fn_SheetSettings_set_how h_SheetSettings_set_heads s_fn_SheetSettings_set_heads a_Sheet pg_Sheet hd_Sheet po_Sheet sa_Sheet mk_Sheet kc_Sheet na_Sheet_settings na_Sheet_kept_pages h_Sheet__init_ s_fn_Sheet__init_ h_Sheet_change s_fn_Sheet_change h_Sheet_ask s_fn_Sheet_ask a_OutOfRange x_OutOfRange k_OutOfRange b_OutOfRange t_OutOfRange i_OutOfRange a_CannotBeTold x_CannotBeTold k_CannotBeTold b_CannotBeTold t_CannotBeTold i_CannotBeTold a_TooMany x_TooMany k_TooMany b_TooMany t_TooMany i_TooMany a_NoSuchPage x_NoSuchPage k_NoSuchPage b_NoSuchPage t_NoSuchPage i_NoSuchPage u_OutOfRange_OutOfRange u_OutOfRange_CannotBeTold u_OutOfRange_TooMany u_OutOfRange_NoSuchPage u_CannotBeTold_OutOfRange u_CannotBeTold_CannotBeTold u_CannotBeTold_TooMany u_CannotBeTold_NoSuchPage u_TooMany_OutOfRange u_TooMany_CannotBeTold u_TooMany_TooMany u_TooMany_NoSuchPage u_NoSuchPage_OutOfRange u_NoSuchPage_CannotBeTold u_NoSuchPage_TooMany u_NoSuchPage_NoSuchPage a_read_calls l_read_calls cd_read_calls kk_read_calls l_AreaPages__init_ cd_AreaPages__init_ kk_AreaPages__init_ l_AreaPages_count_pages cd_AreaPages_count_pages kk_AreaPages_count_pages l_AreaPages_row_band_of cd_AreaPages_row_band_of kk_AreaPages_row_band_of l_AreaPages_column_band_of cd_AreaPages_column_band_of kk_AreaPages_column_band_of l_AreaPages_has_cell cd_AreaPages_has_cell kk_AreaPages_has_cell l_AreaPages_page_of cd_AreaPages_page_of kk_AreaPages_page_of a_is_within l_is_within cd_is_within kk_is_within a_band_place l_band_place cd_band_place kk_band_place l_WayBands__init_ cd_WayBands__init_ kk_WayBands__init_ l_WayBands_again_from cd_WayBands_again_from kk_WayBands_again_from l_WayBands_again_end cd_WayBands_again_end kk_WayBands_again_end l_WayBands_count_again cd_WayBands_count_again kk_WayBands_count_again l_WayBands_again_size cd_WayBands_again_size kk_WayBands_again_size l_WayBands_band_end cd_WayBands_band_end kk_WayBands_band_end l_WayBands_find_bands cd_WayBands_find_bands kk_WayBands_find_bands l_WayBands_has_more_bands cd_WayBands_has_more_bands kk_WayBands_has_more_bands l_WayBands_page_size cd_WayBands_page_size kk_WayBands_page_size l_WayBands_distance cd_WayBands_distance kk_WayBands_distance a_check_text l_check_text cd_check_text kk_check_text a_write_text l_write_text cd_write_text kk_write_text a_digits_of l_digits_of cd_digits_of kk_digits_of l_SheetPages__init_ cd_SheetPages__init_ kk_SheetPages__init_ l_SheetPages_find_fitting_scale cd_SheetPages_find_fitting_scale kk_SheetPages_find_fitting_scale l_SheetPages_fits cd_SheetPages_fits kk_SheetPages_fits l_SheetPages_tell_pages cd_SheetPages_tell_pages kk_SheetPages_tell_pages l_SheetPages_area_pages_with cd_SheetPages_area_pages_with kk_SheetPages_area_pages_with l_SheetPages_tell_page cd_SheetPages_tell_page kk_SheetPages_tell_page l_SheetPages_tell_where cd_SheetPages_tell_where kk_SheetPages_tell_where l_SheetPages_tell_texts cd_SheetPages_tell_texts kk_SheetPages_tell_texts l_WaySettings__init_ cd_WaySettings__init_ kk_WaySettings__init_ l_WaySettings_check_span cd_WaySettings_check_span kk_WaySettings_check_span l_WaySettings_set_size cd_WaySettings_set_size kk_WaySettings_set_size l_WaySettings_set_titles cd_WaySettings_set_titles kk_WaySettings_set_titles l_WaySettings_set_breaks cd_WaySettings_set_breaks kk_WaySettings_set_breaks l_SheetSettings__init_ cd_SheetSettings__init_ kk_SheetSettings__init_ l_SheetSettings_begin cd_SheetSettings_begin kk_SheetSettings_begin l_SheetSettings_set_paper cd_SheetSettings_set_paper kk_SheetSettings_set_paper l_SheetSettings_set_areas cd_SheetSettings_set_areas kk_SheetSettings_set_areas l_SheetSettings_set_scale cd_SheetSettings_set_scale kk_SheetSettings_set_scale l_SheetSettings_set_fit cd_SheetSettings_set_fit kk_SheetSettings_set_fit l_SheetSettings_set_how cd_SheetSettings_set_how kk_SheetSettings_set_how l_SheetSettings_set_heads cd_SheetSettings_set_heads kk_SheetSettings_set_heads a_check_side l_check_side cd_check_side kk_check_side l_Sheet__init_ cd_Sheet__init_ kk_Sheet__init_ l_Sheet_change cd_Sheet_change kk_Sheet_change l_Sheet_ask cd_Sheet_ask kk_Sheet_ask a_answers l_answers cd_answers kk_answers a_answer_call l_answer_call cd_answer_call kk_answer_call a_make_change l_make_change cd_make_change kk_make_change a_answer_question l_answer_question cd_answer_question kk_answer_question z_FORMS lk_FORMS lk_FORMS_0 lk_FORMS_1 lk_FORMS_2 lk_FORMS_3 lk_FORMS_4 lk_FORMS_5 lk_FORMS_6 lk_FORMS_7 lk_FORMS_8 lk_FORMS_9 lk_FORMS_10 lk_FORMS_11 lk_FORMS_12 lk_FORMS_13 z_LONGEST_TEXT z_LARGEST_FITTING z_SMALLEST_FITTING z_MOST_SIZES z_LARGEST_SIZE z_MOST_BREAKS z_LONGEST_SIDE z_MOST_AREAS z_SMALLEST_SCALE z_LARGEST_SCALE z_MOST_BANDS z_FARTHEST_FIRST_NUMBER z_QUESTIONS lk_QUESTIONS v_abs v_len v_min v_ord v_range v_str v_tuple
  have F := fun_mk (st := s_answers) l_answers cd_answers kk_answers
  exact ⟨_, fun s us hu => match us, hu with | [_], _ => .of_eq rfl, fun base _ _ => ok_answers T F⟩
end Sh
open PySem PySem.W PyProof.Rows
theorem PySem.Challenge.cw_sheetpages_s01_answers_holds : PySem.Challenge.rw_sheetpages_s01_answers.Holds := by
  w_on; k_headS; (case hw => exact ⟨[.list [.int 0]], by decide +kernel, by decide +kernel⟩)
  k_fillS
  refine L2.walk_specK (r := PySem.Challenge.rw_sheetpages_s01_answers) (k := 11) (CX := L2.CX0) (ps := Sh.p_answers) (sp := Sh.spAns) (by decide +kernel) rfl rfl ⟨rfl, by decide, by decide⟩ (fun w h Y => PySem.W.kIn_of Y) ?F ?S (fun _ _ _ _ z => z)
  case F =>
    intro w mg fa h Y KX G hmg
    refine' Sh.all_mk KX G hmg ?a_AreaPages ?pg_AreaPages ?hd_AreaPages ?po_AreaPages ?sa_AreaPages ?mk_AreaPages ?kc_AreaPages ?na_AreaPages_area_place ?na_AreaPages_first_page ?na_AreaPages_row_bands ?na_AreaPages_column_bands ?na_AreaPages_beside_first ?h_AreaPages__init_ ?s_fn_AreaPages__init_ ?h_AreaPages_count_pages ?s_fn_AreaPages_count_pages ?h_AreaPages_row_band_of ?s_fn_AreaPages_row_band_of ?h_AreaPages_column_band_of ?s_fn_AreaPages_column_band_of ?h_AreaPages_has_cell ?s_fn_AreaPages_has_cell ?h_AreaPages_page_of ?s_fn_AreaPages_page_of ?a_WayBands ?pg_WayBands ?hd_WayBands ?po_WayBands ?sa_WayBands ?mk_WayBands ?kc_WayBands ?na_WayBands_way ?na_WayBands_starts ?h_WayBands__init_ ?s_fn_WayBands__init_ ?h_WayBands_again_from ?s_fn_WayBands_again_from ?h_WayBands_again_end ?s_fn_WayBands_again_end ?h_WayBands_count_again ?s_fn_WayBands_count_again ?h_WayBands_again_size ?s_fn_WayBands_again_size ?h_WayBands_band_end ?s_fn_WayBands_band_end ?h_WayBands_find_bands ?s_fn_WayBands_find_bands ?h_WayBands_has_more_bands ?s_fn_WayBands_has_more_bands ?h_WayBands_page_size ?s_fn_WayBands_page_size ?h_WayBands_distance ?s_fn_WayBands_distance ?a_SheetPages ?pg_SheetPages ?hd_SheetPages ?po_SheetPages ?sa_SheetPages ?mk_SheetPages ?kc_SheetPages ?na_SheetPages_settings ?na_SheetPages_rows ?na_SheetPages_columns ?na_SheetPages_used_scale ?na_SheetPages_page_count ?na_SheetPages_area_pages ?h_SheetPages__init_ ?s_fn_SheetPages__init_ ?h_SheetPages_find_fitting_scale ?s_fn_SheetPages_find_fitting_scale ?h_SheetPages_fits ?s_fn_SheetPages_fits ?h_SheetPages_tell_pages ?s_fn_SheetPages_tell_pages ?h_SheetPages_area_pages_with ?s_fn_SheetPages_area_pages_with ?h_SheetPages_tell_page ?s_fn_SheetPages_tell_page ?h_SheetPages_tell_where ?s_fn_SheetPages_tell_where ?h_SheetPages_tell_texts ?s_fn_SheetPages_tell_texts ?a_WaySettings ?pg_WaySettings ?hd_WaySettings ?po_WaySettings ?sa_WaySettings ?mk_WaySettings ?kc_WaySettings ?na_WaySettings_place_count ?na_WaySettings_sizes ?na_WaySettings_sizes_told ?na_WaySettings_edge ?na_WaySettings_space ?na_WaySettings_in_middle ?na_WaySettings_titles ?na_WaySettings_breaks ?h_WaySettings__init_ ?s_fn_WaySettings__init_ ?h_WaySettings_check_span ?s_fn_WaySettings_check_span ?h_WaySettings_set_size ?s_fn_WaySettings_set_size ?h_WaySettings_set_titles ?s_fn_WaySettings_set_titles ?h_WaySettings_set_breaks ?s_fn_WaySettings_set_breaks ?a_SheetSettings ?pg_SheetSettings ?hd_SheetSettings ?po_SheetSettings ?sa_SheetSettings ?mk_SheetSettings ?kc_SheetSettings ?na_SheetSettings_ways ?na_SheetSettings_areas ?na_SheetSettings_scale ?na_SheetSettings_fit ?na_SheetSettings_beside_first ?na_SheetSettings_first_number ?na_SheetSettings_head ?na_SheetSettings_foot ?h_SheetSettings__init_ ?s_fn_SheetSettings__init_ ?h_SheetSettings_begin ?s_fn_SheetSettings_begin ?h_SheetSettings_set_paper ?s_fn_SheetSettings_set_paper ?h_SheetSettings_set_areas ?s_fn_SheetSettings_set_areas ?h_SheetSettings_set_scale ?s_fn_SheetSettings_set_scale ?h_SheetSettings_set_fit ?s_fn_SheetSettings_set_fit ?h_SheetSettings_set_how ?s_fn_SheetSettings_set_how ?h_SheetSettings_set_heads ?s_fn_SheetSettings_set_heads ?a_Sheet ?pg_Sheet ?hd_Sheet ?po_Sheet ?sa_Sheet ?mk_Sheet ?kc_Sheet ?na_Sheet_settings ?na_Sheet_kept_pages ?h_Sheet__init_ ?s_fn_Sheet__init_ ?h_Sheet_change ?s_fn_Sheet_change ?h_Sheet_ask ?s_fn_Sheet_ask ?a_OutOfRange ?x_OutOfRange ?k_OutOfRange ?b_OutOfRange ?t_OutOfRange ?i_OutOfRange ?a_CannotBeTold ?x_CannotBeTold ?k_CannotBeTold ?b_CannotBeTold ?t_CannotBeTold ?i_CannotBeTold ?a_TooMany ?x_TooMany ?k_TooMany ?b_TooMany ?t_TooMany ?i_TooMany ?a_NoSuchPage ?x_NoSuchPage ?k_NoSuchPage ?b_NoSuchPage ?t_NoSuchPage ?i_NoSuchPage ?u_OutOfRange_OutOfRange ?u_OutOfRange_CannotBeTold ?u_OutOfRange_TooMany ?u_OutOfRange_NoSuchPage ?u_CannotBeTold_OutOfRange ?u_CannotBeTold_CannotBeTold ?u_CannotBeTold_TooMany ?u_CannotBeTold_NoSuchPage ?u_TooMany_OutOfRange ?u_TooMany_CannotBeTold ?u_TooMany_TooMany ?u_TooMany_NoSuchPage ?u_NoSuchPage_OutOfRange ?u_NoSuchPage_CannotBeTold ?u_NoSuchPage_TooMany ?u_NoSuchPage_NoSuchPage ?a_read_calls ?l_read_calls ?cd_read_calls ?kk_read_calls ?l_AreaPages__init_ ?cd_AreaPages__init_ ?kk_AreaPages__init_ ?l_AreaPages_count_pages ?cd_AreaPages_count_pages ?kk_AreaPages_count_pages ?l_AreaPages_row_band_of ?cd_AreaPages_row_band_of ?kk_AreaPages_row_band_of ?l_AreaPages_column_band_of ?cd_AreaPages_column_band_of ?kk_AreaPages_column_band_of ?l_AreaPages_has_cell ?cd_AreaPages_has_cell ?kk_AreaPages_has_cell ?l_AreaPages_page_of ?cd_AreaPages_page_of ?kk_AreaPages_page_of ?a_is_within ?l_is_within ?cd_is_within ?kk_is_within ?a_band_place ?l_band_place ?cd_band_place ?kk_band_place ?l_WayBands__init_ ?cd_WayBands__init_ ?kk_WayBands__init_ ?l_WayBands_again_from ?cd_WayBands_again_from ?kk_WayBands_again_from ?l_WayBands_again_end ?cd_WayBands_again_end ?kk_WayBands_again_end ?l_WayBands_count_again ?cd_WayBands_count_again ?kk_WayBands_count_again ?l_WayBands_again_size ?cd_WayBands_again_size ?kk_WayBands_again_size ?l_WayBands_band_end ?cd_WayBands_band_end ?kk_WayBands_band_end ?l_WayBands_find_bands ?cd_WayBands_find_bands ?kk_WayBands_find_bands ?l_WayBands_has_more_bands ?cd_WayBands_has_more_bands ?kk_WayBands_has_more_bands ?l_WayBands_page_size ?cd_WayBands_page_size ?kk_WayBands_page_size ?l_WayBands_distance ?cd_WayBands_distance ?kk_WayBands_distance ?a_check_text ?l_check_text ?cd_check_text ?kk_check_text ?a_write_text ?l_write_text ?cd_write_text ?kk_write_text ?a_digits_of ?l_digits_of ?cd_digits_of ?kk_digits_of ?l_SheetPages__init_ ?cd_SheetPages__init_ ?kk_SheetPages__init_ ?l_SheetPages_find_fitting_scale ?cd_SheetPages_find_fitting_scale ?kk_SheetPages_find_fitting_scale ?l_SheetPages_fits ?cd_SheetPages_fits ?kk_SheetPages_fits ?l_SheetPages_tell_pages ?cd_SheetPages_tell_pages ?kk_SheetPages_tell_pages ?l_SheetPages_area_pages_with ?cd_SheetPages_area_pages_with ?kk_SheetPages_area_pages_with ?l_SheetPages_tell_page ?cd_SheetPages_tell_page ?kk_SheetPages_tell_page ?l_SheetPages_tell_where ?cd_SheetPages_tell_where ?kk_SheetPages_tell_where ?l_SheetPages_tell_texts ?cd_SheetPages_tell_texts ?kk_SheetPages_tell_texts ?l_WaySettings__init_ ?cd_WaySettings__init_ ?kk_WaySettings__init_ ?l_WaySettings_check_span ?cd_WaySettings_check_span ?kk_WaySettings_check_span ?l_WaySettings_set_size ?cd_WaySettings_set_size ?kk_WaySettings_set_size ?l_WaySettings_set_titles ?cd_WaySettings_set_titles ?kk_WaySettings_set_titles ?l_WaySettings_set_breaks ?cd_WaySettings_set_breaks ?kk_WaySettings_set_breaks ?l_SheetSettings__init_ ?cd_SheetSettings__init_ ?kk_SheetSettings__init_ ?l_SheetSettings_begin ?cd_SheetSettings_begin ?kk_SheetSettings_begin ?l_SheetSettings_set_paper ?cd_SheetSettings_set_paper ?kk_SheetSettings_set_paper ?l_SheetSettings_set_areas ?cd_SheetSettings_set_areas ?kk_SheetSettings_set_areas ?l_SheetSettings_set_scale ?cd_SheetSettings_set_scale ?kk_SheetSettings_set_scale ?l_SheetSettings_set_fit ?cd_SheetSettings_set_fit ?kk_SheetSettings_set_fit ?l_SheetSettings_set_how ?cd_SheetSettings_set_how ?kk_SheetSettings_set_how ?l_SheetSettings_set_heads ?cd_SheetSettings_set_heads ?kk_SheetSettings_set_heads ?a_check_side ?l_check_side ?cd_check_side ?kk_check_side ?l_Sheet__init_ ?cd_Sheet__init_ ?kk_Sheet__init_ ?l_Sheet_change ?cd_Sheet_change ?kk_Sheet_change ?l_Sheet_ask ?cd_Sheet_ask ?kk_Sheet_ask ?a_answers ?l_answers ?cd_answers ?kk_answers ?a_answer_call ?l_answer_call ?cd_answer_call ?kk_answer_call ?a_make_change ?l_make_change ?cd_make_change ?kk_make_change ?a_answer_question ?l_answer_question ?cd_answer_question ?kk_answer_question ?z_FORMS ?lk_FORMS ?lk_FORMS_0 ?lk_FORMS_1 ?lk_FORMS_2 ?lk_FORMS_3 ?lk_FORMS_4 ?lk_FORMS_5 ?lk_FORMS_6 ?lk_FORMS_7 ?lk_FORMS_8 ?lk_FORMS_9 ?lk_FORMS_10 ?lk_FORMS_11 ?lk_FORMS_12 ?lk_FORMS_13 ?z_LONGEST_TEXT ?z_LARGEST_FITTING ?z_SMALLEST_FITTING ?z_MOST_SIZES ?z_LARGEST_SIZE ?z_MOST_BREAKS ?z_LONGEST_SIDE ?z_MOST_AREAS ?z_SMALLEST_SCALE ?z_LARGEST_SCALE ?z_MOST_BANDS ?z_FARTHEST_FIRST_NUMBER ?z_QUESTIONS ?lk_QUESTIONS ?v_abs ?v_len ?v_min ?v_ord ?v_range ?v_str ?v_tuple
    (case a_AreaPages => k_is)
    (case pg_AreaPages => k_is)
    (case hd_AreaPages => k_is)
    (case po_AreaPages => k_is)
    (case sa_AreaPages => k_is)
    (case mk_AreaPages => k_is)
    (case kc_AreaPages => k_is)
    (case na_AreaPages_area_place => k_is)
    (case na_AreaPages_first_page => k_is)
    (case na_AreaPages_row_bands => k_is)
    (case na_AreaPages_column_bands => k_is)
    (case na_AreaPages_beside_first => k_is)
    (case h_AreaPages__init_ => k_is)
    (case s_fn_AreaPages__init_ => k_is)
    (case h_AreaPages_count_pages => k_is)
    (case s_fn_AreaPages_count_pages => k_is)
    (case h_AreaPages_row_band_of => k_is)
    (case s_fn_AreaPages_row_band_of => k_is)
    (case h_AreaPages_column_band_of => k_is)
    (case s_fn_AreaPages_column_band_of => k_is)
    (case h_AreaPages_has_cell => k_is)
    (case s_fn_AreaPages_has_cell => k_is)
    (case h_AreaPages_page_of => k_is)
    (case s_fn_AreaPages_page_of => k_is)
    (case a_WayBands => k_is)
    (case pg_WayBands => k_is)
    (case hd_WayBands => k_is)
    (case po_WayBands => k_is)
    (case sa_WayBands => k_is)
    (case mk_WayBands => k_is)
    (case kc_WayBands => k_is)
    (case na_WayBands_way => k_is)
    (case na_WayBands_starts => k_is)
    (case h_WayBands__init_ => k_is)
    (case s_fn_WayBands__init_ => k_is)
    (case h_WayBands_again_from => k_is)
    (case s_fn_WayBands_again_from => k_is)
    (case h_WayBands_again_end => k_is)
    (case s_fn_WayBands_again_end => k_is)
    (case h_WayBands_count_again => k_is)
    (case s_fn_WayBands_count_again => k_is)
    (case h_WayBands_again_size => k_is)
    (case s_fn_WayBands_again_size => k_is)
    (case h_WayBands_band_end => k_is)
    (case s_fn_WayBands_band_end => k_is)
    (case h_WayBands_find_bands => k_is)
    (case s_fn_WayBands_find_bands => k_is)
    (case h_WayBands_has_more_bands => k_is)
    (case s_fn_WayBands_has_more_bands => k_is)
    (case h_WayBands_page_size => k_is)
    (case s_fn_WayBands_page_size => k_is)
    (case h_WayBands_distance => k_is)
    (case s_fn_WayBands_distance => k_is)
    (case a_SheetPages => k_is)
    (case pg_SheetPages => k_is)
    (case hd_SheetPages => k_is)
    (case po_SheetPages => k_is)
    (case sa_SheetPages => k_is)
    (case mk_SheetPages => k_is)
    (case kc_SheetPages => k_is)
    (case na_SheetPages_settings => k_is)
    (case na_SheetPages_rows => k_is)
    (case na_SheetPages_columns => k_is)
    (case na_SheetPages_used_scale => k_is)
    (case na_SheetPages_page_count => k_is)
    (case na_SheetPages_area_pages => k_is)
    (case h_SheetPages__init_ => k_is)
    (case s_fn_SheetPages__init_ => k_is)
    (case h_SheetPages_find_fitting_scale => k_is)
    (case s_fn_SheetPages_find_fitting_scale => k_is)
    (case h_SheetPages_fits => k_is)
    (case s_fn_SheetPages_fits => k_is)
    (case h_SheetPages_tell_pages => k_is)
    (case s_fn_SheetPages_tell_pages => k_is)
    (case h_SheetPages_area_pages_with => k_is)
    (case s_fn_SheetPages_area_pages_with => k_is)
    (case h_SheetPages_tell_page => k_is)
    (case s_fn_SheetPages_tell_page => k_is)
    (case h_SheetPages_tell_where => k_is)
    (case s_fn_SheetPages_tell_where => k_is)
    (case h_SheetPages_tell_texts => k_is)
    (case s_fn_SheetPages_tell_texts => k_is)
    (case a_WaySettings => k_is)
    (case pg_WaySettings => k_is)
    (case hd_WaySettings => k_is)
    (case po_WaySettings => k_is)
    (case sa_WaySettings => k_is)
    (case mk_WaySettings => k_is)
    (case kc_WaySettings => k_is)
    (case na_WaySettings_place_count => k_is)
    (case na_WaySettings_sizes => k_is)
    (case na_WaySettings_sizes_told => k_is)
    (case na_WaySettings_edge => k_is)
    (case na_WaySettings_space => k_is)
    (case na_WaySettings_in_middle => k_is)
    (case na_WaySettings_titles => k_is)
    (case na_WaySettings_breaks => k_is)
    (case h_WaySettings__init_ => k_is)
    (case s_fn_WaySettings__init_ => k_is)
    (case h_WaySettings_check_span => k_is)
    (case s_fn_WaySettings_check_span => k_is)
    (case h_WaySettings_set_size => k_is)
    (case s_fn_WaySettings_set_size => k_is)
    (case h_WaySettings_set_titles => k_is)
    (case s_fn_WaySettings_set_titles => k_is)
    (case h_WaySettings_set_breaks => k_is)
    (case s_fn_WaySettings_set_breaks => k_is)
    (case a_SheetSettings => k_is)
    (case pg_SheetSettings => k_is)
    (case hd_SheetSettings => k_is)
    (case po_SheetSettings => k_is)
    (case sa_SheetSettings => k_is)
    (case mk_SheetSettings => k_is)
    (case kc_SheetSettings => k_is)
    (case na_SheetSettings_ways => k_is)
    (case na_SheetSettings_areas => k_is)
    (case na_SheetSettings_scale => k_is)
    (case na_SheetSettings_fit => k_is)
    (case na_SheetSettings_beside_first => k_is)
    (case na_SheetSettings_first_number => k_is)
    (case na_SheetSettings_head => k_is)
    (case na_SheetSettings_foot => k_is)
    (case h_SheetSettings__init_ => k_is)
    (case s_fn_SheetSettings__init_ => k_is)
    (case h_SheetSettings_begin => k_is)
    (case s_fn_SheetSettings_begin => k_is)
    (case h_SheetSettings_set_paper => k_is)
    (case s_fn_SheetSettings_set_paper => k_is)
    (case h_SheetSettings_set_areas => k_is)
    (case s_fn_SheetSettings_set_areas => k_is)
    (case h_SheetSettings_set_scale => k_is)
    (case s_fn_SheetSettings_set_scale => k_is)
    (case h_SheetSettings_set_fit => k_is)
    (case s_fn_SheetSettings_set_fit => k_is)
    (case h_SheetSettings_set_how => k_is)
    (case s_fn_SheetSettings_set_how => k_is)
    (case h_SheetSettings_set_heads => k_is)
    (case s_fn_SheetSettings_set_heads => k_is)
    (case a_Sheet => k_is)
    (case pg_Sheet => k_is)
    (case hd_Sheet => k_is)
    (case po_Sheet => k_is)
    (case sa_Sheet => k_is)
    (case mk_Sheet => k_is)
    (case kc_Sheet => k_is)
    (case na_Sheet_settings => k_is)
    (case na_Sheet_kept_pages => k_is)
    (case h_Sheet__init_ => k_is)
    (case s_fn_Sheet__init_ => k_is)
    (case h_Sheet_change => k_is)
    (case s_fn_Sheet_change => k_is)
    (case h_Sheet_ask => k_is)
    (case s_fn_Sheet_ask => k_is)
    (case a_OutOfRange => k_is)
    (case x_OutOfRange => k_exc)
    (case k_OutOfRange => k_is)
    (case b_OutOfRange => k_is)
    (case t_OutOfRange => k_is)
    (case i_OutOfRange => k_is)
    (case a_CannotBeTold => k_is)
    (case x_CannotBeTold => k_exc)
    (case k_CannotBeTold => k_is)
    (case b_CannotBeTold => k_is)
    (case t_CannotBeTold => k_is)
    (case i_CannotBeTold => k_is)
    (case a_TooMany => k_is)
    (case x_TooMany => k_exc)
    (case k_TooMany => k_is)
    (case b_TooMany => k_is)
    (case t_TooMany => k_is)
    (case i_TooMany => k_is)
    (case a_NoSuchPage => k_is)
    (case x_NoSuchPage => k_exc)
    (case k_NoSuchPage => k_is)
    (case b_NoSuchPage => k_is)
    (case t_NoSuchPage => k_is)
    (case i_NoSuchPage => k_is)
    (case u_OutOfRange_OutOfRange => first | rfl | k_is)
    (case u_OutOfRange_CannotBeTold => first | rfl | k_is)
    (case u_OutOfRange_TooMany => first | rfl | k_is)
    (case u_OutOfRange_NoSuchPage => first | rfl | k_is)
    (case u_CannotBeTold_OutOfRange => first | rfl | k_is)
    (case u_CannotBeTold_CannotBeTold => first | rfl | k_is)
    (case u_CannotBeTold_TooMany => first | rfl | k_is)
    (case u_CannotBeTold_NoSuchPage => first | rfl | k_is)
    (case u_TooMany_OutOfRange => first | rfl | k_is)
    (case u_TooMany_CannotBeTold => first | rfl | k_is)
    (case u_TooMany_TooMany => first | rfl | k_is)
    (case u_TooMany_NoSuchPage => first | rfl | k_is)
    (case u_NoSuchPage_OutOfRange => first | rfl | k_is)
    (case u_NoSuchPage_CannotBeTold => first | rfl | k_is)
    (case u_NoSuchPage_TooMany => first | rfl | k_is)
    (case u_NoSuchPage_NoSuchPage => first | rfl | k_is)
    (case a_read_calls => k_is)
    (case l_read_calls => k_is)
    (case cd_read_calls => k_is)
    (case kk_read_calls => k_is)
    (case l_AreaPages__init_ => k_is)
    (case cd_AreaPages__init_ => k_is)
    (case kk_AreaPages__init_ => k_is)
    (case l_AreaPages_count_pages => k_is)
    (case cd_AreaPages_count_pages => k_is)
    (case kk_AreaPages_count_pages => k_is)
    (case l_AreaPages_row_band_of => k_is)
    (case cd_AreaPages_row_band_of => k_is)
    (case kk_AreaPages_row_band_of => k_is)
    (case l_AreaPages_column_band_of => k_is)
    (case cd_AreaPages_column_band_of => k_is)
    (case kk_AreaPages_column_band_of => k_is)
    (case l_AreaPages_has_cell => k_is)
    (case cd_AreaPages_has_cell => k_is)
    (case kk_AreaPages_has_cell => k_is)
    (case l_AreaPages_page_of => k_is)
    (case cd_AreaPages_page_of => k_is)
    (case kk_AreaPages_page_of => k_is)
    (case a_is_within => k_is)
    (case l_is_within => k_is)
    (case cd_is_within => k_is)
    (case kk_is_within => k_is)
    (case a_band_place => k_is)
    (case l_band_place => k_is)
    (case cd_band_place => k_is)
    (case kk_band_place => k_is)
    (case l_WayBands__init_ => k_is)
    (case cd_WayBands__init_ => k_is)
    (case kk_WayBands__init_ => k_is)
    (case l_WayBands_again_from => k_is)
    (case cd_WayBands_again_from => k_is)
    (case kk_WayBands_again_from => k_is)
    (case l_WayBands_again_end => k_is)
    (case cd_WayBands_again_end => k_is)
    (case kk_WayBands_again_end => k_is)
    (case l_WayBands_count_again => k_is)
    (case cd_WayBands_count_again => k_is)
    (case kk_WayBands_count_again => k_is)
    (case l_WayBands_again_size => k_is)
    (case cd_WayBands_again_size => k_is)
    (case kk_WayBands_again_size => k_is)
    (case l_WayBands_band_end => k_is)
    (case cd_WayBands_band_end => k_is)
    (case kk_WayBands_band_end => k_is)
    (case l_WayBands_find_bands => k_is)
    (case cd_WayBands_find_bands => k_is)
    (case kk_WayBands_find_bands => k_is)
    (case l_WayBands_has_more_bands => k_is)
    (case cd_WayBands_has_more_bands => k_is)
    (case kk_WayBands_has_more_bands => k_is)
    (case l_WayBands_page_size => k_is)
    (case cd_WayBands_page_size => k_is)
    (case kk_WayBands_page_size => k_is)
    (case l_WayBands_distance => k_is)
    (case cd_WayBands_distance => k_is)
    (case kk_WayBands_distance => k_is)
    (case a_check_text => k_is)
    (case l_check_text => k_is)
    (case cd_check_text => k_is)
    (case kk_check_text => k_is)
    (case a_write_text => k_is)
    (case l_write_text => k_is)
    (case cd_write_text => k_is)
    (case kk_write_text => k_is)
    (case a_digits_of => k_is)
    (case l_digits_of => k_is)
    (case cd_digits_of => k_is)
    (case kk_digits_of => k_is)
    (case l_SheetPages__init_ => k_is)
    (case cd_SheetPages__init_ => k_is)
    (case kk_SheetPages__init_ => k_is)
    (case l_SheetPages_find_fitting_scale => k_is)
    (case cd_SheetPages_find_fitting_scale => k_is)
    (case kk_SheetPages_find_fitting_scale => k_is)
    (case l_SheetPages_fits => k_is)
    (case cd_SheetPages_fits => k_is)
    (case kk_SheetPages_fits => k_is)
    (case l_SheetPages_tell_pages => k_is)
    (case cd_SheetPages_tell_pages => k_is)
    (case kk_SheetPages_tell_pages => k_is)
    (case l_SheetPages_area_pages_with => k_is)
    (case cd_SheetPages_area_pages_with => k_is)
    (case kk_SheetPages_area_pages_with => k_is)
    (case l_SheetPages_tell_page => k_is)
    (case cd_SheetPages_tell_page => k_is)
    (case kk_SheetPages_tell_page => k_is)
    (case l_SheetPages_tell_where => k_is)
    (case cd_SheetPages_tell_where => k_is)
    (case kk_SheetPages_tell_where => k_is)
    (case l_SheetPages_tell_texts => k_is)
    (case cd_SheetPages_tell_texts => k_is)
    (case kk_SheetPages_tell_texts => k_is)
    (case l_WaySettings__init_ => k_is)
    (case cd_WaySettings__init_ => k_is)
    (case kk_WaySettings__init_ => k_is)
    (case l_WaySettings_check_span => k_is)
    (case cd_WaySettings_check_span => k_is)
    (case kk_WaySettings_check_span => k_is)
    (case l_WaySettings_set_size => k_is)
    (case cd_WaySettings_set_size => k_is)
    (case kk_WaySettings_set_size => k_is)
    (case l_WaySettings_set_titles => k_is)
    (case cd_WaySettings_set_titles => k_is)
    (case kk_WaySettings_set_titles => k_is)
    (case l_WaySettings_set_breaks => k_is)
    (case cd_WaySettings_set_breaks => k_is)
    (case kk_WaySettings_set_breaks => k_is)
    (case l_SheetSettings__init_ => k_is)
    (case cd_SheetSettings__init_ => k_is)
    (case kk_SheetSettings__init_ => k_is)
    (case l_SheetSettings_begin => k_is)
    (case cd_SheetSettings_begin => k_is)
    (case kk_SheetSettings_begin => k_is)
    (case l_SheetSettings_set_paper => k_is)
    (case cd_SheetSettings_set_paper => k_is)
    (case kk_SheetSettings_set_paper => k_is)
    (case l_SheetSettings_set_areas => k_is)
    (case cd_SheetSettings_set_areas => k_is)
    (case kk_SheetSettings_set_areas => k_is)
    (case l_SheetSettings_set_scale => k_is)
    (case cd_SheetSettings_set_scale => k_is)
    (case kk_SheetSettings_set_scale => k_is)
    (case l_SheetSettings_set_fit => k_is)
    (case cd_SheetSettings_set_fit => k_is)
    (case kk_SheetSettings_set_fit => k_is)
    (case l_SheetSettings_set_how => k_is)
    (case cd_SheetSettings_set_how => k_is)
    (case kk_SheetSettings_set_how => k_is)
    (case l_SheetSettings_set_heads => k_is)
    (case cd_SheetSettings_set_heads => k_is)
    (case kk_SheetSettings_set_heads => k_is)
    (case a_check_side => k_is)
    (case l_check_side => k_is)
    (case cd_check_side => k_is)
    (case kk_check_side => k_is)
    (case l_Sheet__init_ => k_is)
    (case cd_Sheet__init_ => k_is)
    (case kk_Sheet__init_ => k_is)
    (case l_Sheet_change => k_is)
    (case cd_Sheet_change => k_is)
    (case kk_Sheet_change => k_is)
    (case l_Sheet_ask => k_is)
    (case cd_Sheet_ask => k_is)
    (case kk_Sheet_ask => k_is)
    (case a_answers => k_is)
    (case l_answers => k_is)
    (case cd_answers => k_is)
    (case kk_answers => k_is)
    (case a_answer_call => k_is)
    (case l_answer_call => k_is)
    (case cd_answer_call => k_is)
    (case kk_answer_call => k_is)
    (case a_make_change => k_is)
    (case l_make_change => k_is)
    (case cd_make_change => k_is)
    (case kk_make_change => k_is)
    (case a_answer_question => k_is)
    (case l_answer_question => k_is)
    (case cd_answer_question => k_is)
    (case kk_answer_question => k_is)
    (case z_FORMS => k_is)
    (case lk_FORMS => k_is)
    (case lk_FORMS_0 => k_is)
    (case lk_FORMS_1 => k_is)
    (case lk_FORMS_2 => k_is)
    (case lk_FORMS_3 => k_is)
    (case lk_FORMS_4 => k_is)
    (case lk_FORMS_5 => k_is)
    (case lk_FORMS_6 => k_is)
    (case lk_FORMS_7 => k_is)
    (case lk_FORMS_8 => k_is)
    (case lk_FORMS_9 => k_is)
    (case lk_FORMS_10 => k_is)
    (case lk_FORMS_11 => k_is)
    (case lk_FORMS_12 => k_is)
    (case lk_FORMS_13 => k_is)
    (case z_LONGEST_TEXT => k_is)
    (case z_LARGEST_FITTING => k_is)
    (case z_SMALLEST_FITTING => k_is)
    (case z_MOST_SIZES => k_is)
    (case z_LARGEST_SIZE => k_is)
    (case z_MOST_BREAKS => k_is)
    (case z_LONGEST_SIDE => k_is)
    (case z_MOST_AREAS => k_is)
    (case z_SMALLEST_SCALE => k_is)
    (case z_LARGEST_SCALE => k_is)
    (case z_MOST_BANDS => k_is)
    (case z_FARTHEST_FIRST_NUMBER => k_is)
    (case z_QUESTIONS => k_is)
    (case lk_QUESTIONS => k_is)
    (case v_abs => k_is)
    (case v_len => k_is)
    (case v_min => k_is)
    (case v_ord => k_is)
    (case v_range => k_is)
    (case v_str => k_is)
    (case v_tuple => k_is)
  case S =>
    intro K H xs a hO hwi hask hx
    cases hx with
    | cons h1 h2 =>
      cases h2
      cases h1 with
      | lst hs ha =>
        have e := L2.ints_dw a.1 _ ha
        subst e
        exact ⟨_, a.1, rfl, hs, hask, fun H' p hp => .lst (L2.SqL.of hp) (L2.dw_ints _)⟩

