import PyProof.Rows.All
import Wide.All
import OpenK.AllK
import Wide.FinOn
import Open.SpecLaws
import KE.OsGo
import HandS.ForSpec
import HandS.Comp
import HandS.Dict
import HandS.Iter
import HandS.Text
import HandS.Walk
import HandS.Wide
import HandS.WideBits
import PySem.Challenge.RW_timedletters_s01_answers
set_option Elab.async false
set_option maxRecDepth 100000
set_option maxHeartbeats 4000000
set_option exponentiation.threshold 600
/-! ## TMath -/
/-! # The mathematics: the specification's words, told so that the program's loops can be held against them -/
namespace Tm
/-! ### numbers of 64 bytes -/
theorem number_snoc (b : List Nat) (x : Nat) : Ks184Neutral.number (b ++ [x]) = 256 * Ks184Neutral.number b + x := by
  unfold Ks184Neutral.number
  rw [List.foldl_append]
  rfl
theorem number_go : ∀ (b : List Nat) (v : Nat), (∀ x ∈ b, x < 256) → b.foldl (fun v x => 256 * v + x) v < 256 ^ b.length * (v + 1)
  | [], v, _ => by simp
  | x :: r, v, h => by
    have ih := number_go r (256 * v + x) (fun y hy => h y (List.mem_cons_of_mem _ hy))
    have hx : x < 256 := h x (List.mem_cons_self ..)
    show r.foldl _ (256 * v + x) < 256 ^ (r.length + 1) * (v + 1)
    refine Nat.lt_of_lt_of_le ih ?_
    rw [Nat.pow_succ, Nat.mul_assoc]
    exact Nat.mul_le_mul_left _ (by omega)
theorem number_lt {b : List Nat} (h : ∀ x ∈ b, x < 256) : Ks184Neutral.number b < 256 ^ b.length := by
  have q := number_go b 0 h
  rw [Nat.zero_add, Nat.mul_one] at q
  exact q
theorem number_take_lt {b : List Nat} (h : ∀ x ∈ b, x < 256) (hl : b.length ≤ 64) : Ks184Neutral.number b < 2 ^ 512 := by
  refine Nat.lt_of_lt_of_le (number_lt h) ?_
  rw [show (2 : Nat) ^ 512 = 256 ^ 64 by decide +kernel]
  exact Nat.pow_le_pow_right (by decide) hl
theorem bytesOf_length (y : Nat) : (Ks184Neutral.bytesOf y).length = 64 := by simp [Ks184Neutral.bytesOf]
theorem bytesOf_get {y i : Nat} (h : i < 64) : (Ks184Neutral.bytesOf y)[i]? = some (y / 256 ^ (63 - i) % 256) := by
  simp [Ks184Neutral.bytesOf, h]
/-- the byte at i by a shift -/
theorem byte_shift {y i : Nat} (h : i < 64) : y / 2 ^ (504 - 8 * i) % 256 = y / 256 ^ (63 - i) % 256 := by
  have e : (2 : Nat) ^ (504 - 8 * i) = 256 ^ (63 - i) := by
    rw [show (256 : Nat) = 2 ^ 8 by decide, ← Nat.pow_mul]
    congr 1
    omega
  rw [e]
theorem bytesOf_lt {y x : Nat} (h : x ∈ Ks184Neutral.bytesOf y) : x < 256 := by
  unfold Ks184Neutral.bytesOf at h
  obtain ⟨i, _, rfl⟩ := List.mem_map.mp h
  exact Nat.mod_lt _ (by decide)
/-! ### the face -/
theorem face_min {n a : Nat} (h : 0 < n) : Ks184.face n a = if n - a % n < a % n then n - a % n else a % n := by
  have hr : a % n < n := Nat.mod_lt _ h
  unfold Ks184.face
  by_cases c : n - a % n < a % n
  · rw [if_pos c, Nat.min_eq_right (Nat.le_of_lt c)]
    exact Nat.mod_eq_of_lt (by omega)
  · rw [if_neg c, Nat.min_eq_left (by omega)]
    exact Nat.mod_eq_of_lt hr
theorem face_lt {n a : Nat} (h : 0 < n) : Ks184.face n a < n := Nat.mod_lt _ h
/-- as whole numbers with a sign, as min tells it -/
theorem face_int {n a : Nat} (h : 0 < n) : (if (n : Int) - ((a % n : Nat) : Int) < ((a % n : Nat) : Int) then (n : Int) - ((a % n : Nat) : Int) else ((a % n : Nat) : Int)) = ((Ks184.face n a : Nat) : Int) := by
  have hr : a % n < n := Nat.mod_lt _ h
  rw [face_min h]
  by_cases c : n - a % n < a % n
  · rw [if_pos c, if_pos (by omega)]
    omega
  · rw [if_neg c, if_neg (by omega)]
/-! ### raised, turn by turn -/
theorem raised_zero (n a : Nat) : Ks184.raised n a 0 = a % n := rfl
theorem raised_succ (n : Nat) : ∀ (t a : Nat), Ks184.raised n a (t + 1) = Ks184.raised n a t * Ks184.raised n a t % n
  | 0, a => by
    show a * a % n % n = a % n * (a % n) % n
    rw [Nat.mod_mod, ← Nat.mul_mod]
  | t + 1, a => raised_succ n t (a * a % n)
theorem raised_lt {n a t : Nat} (h : 0 < n) : Ks184.raised n a t < n := by
  cases t with
  | zero => exact Nat.mod_lt _ h
  | succ t =>
    rw [raised_succ]
    exact Nat.mod_lt _ h
/-! ### a power -/
theorem powered_eq (n : Nat) : ∀ (f a e : Nat), e < 2 ^ f → Ks184.powered n f a e = a ^ e % n
  | 0, a, e, h => by
    have e0 : e = 0 := by
      have : (2 : Nat) ^ 0 = 1 := rfl
      omega
    subst e0
    rfl
  | f + 1, a, e, h => by
    show (if e = 0 then 1 % n else let x := Ks184.powered n f (a * a % n) (e / 2); if e % 2 = 1 then a * x % n else x) = a ^ e % n
    by_cases c : e = 0
    · subst c
      rfl
    · rw [if_neg c]
      have hb : e / 2 < 2 ^ f := by
        rw [Nat.pow_succ] at h
        omega
      have ih := powered_eq n f (a * a % n) (e / 2) hb
      have e2 : (a * a % n) ^ (e / 2) % n = (a * a) ^ (e / 2) % n := (Nat.pow_mod _ _ _).symm
      show (if e % 2 = 1 then a * Ks184.powered n f (a * a % n) (e / 2) % n else Ks184.powered n f (a * a % n) (e / 2)) = a ^ e % n
      rw [ih, e2]
      have e3 : (a * a) ^ (e / 2) = a ^ (2 * (e / 2)) := by rw [← Nat.pow_two, ← Nat.pow_mul]
      by_cases o : e % 2 = 1
      · rw [if_pos o, Nat.mul_mod_mod, e3, ← Nat.pow_succ']
        congr 2
        omega
      · rw [if_neg o, e3]
        congr 2
        omega
theorem power_eq {n a e : Nat} (h : e < 2 ^ 520) : Ks184.power n a e = a ^ e % n := powered_eq n 520 a e h
/-- one turn of square and multiply -/
theorem turn_odd {n r s e : Nat} (o : e % 2 = 1) : r * s % n * (s * s % n) ^ (e / 2) % n = r * s ^ e % n := by
  rw [Nat.mul_mod, Nat.mod_mod, ← Nat.pow_mod, ← Nat.mul_mod, ← Nat.pow_two, ← Nat.pow_mul, Nat.mul_assoc, ← Nat.pow_succ']
  congr 3
  omega
theorem turn_even {n r s e : Nat} (o : ¬ e % 2 = 1) : r * (s * s % n) ^ (e / 2) % n = r * s ^ e % n := by
  rw [Nat.mul_mod, ← Nat.pow_mod, ← Nat.mul_mod, ← Nat.pow_two, ← Nat.pow_mul]
  congr 3
  omega
theorem turn_start (n a e : Nat) : 1 % n * (a % n) ^ e % n = a ^ e % n := by
  rw [Nat.mul_mod, Nat.mod_mod, ← Nat.pow_mod, ← Nat.mul_mod, Nat.one_mul]
theorem turn_end {n r s : Nat} (h : r < n) : r * s ^ 0 % n = r := by
  rw [Nat.pow_zero, Nat.mul_one, Nat.mod_eq_of_lt h]
/-! ### small, fit -/
theorem fit_iff (w : Ks184.What) : w.fit = true ↔ (w.n % 2 = 1 ∧ 2 ^ 504 ≤ w.n ∧ Ks184.small w.n w.x = true ∧ w.x ≠ 1 ∧ 1 ≤ w.k ∧ w.k ≤ 20) := by
  unfold Ks184.What.fit Ks184.LEAST Ks184.ROUNDS
  simp only [Bool.and_eq_true, beq_iff_eq, decide_eq_true_eq, bne_iff_ne, ne_eq, and_assoc]
theorem small_iff (n a : Nat) : Ks184.small n a = true ↔ (1 ≤ a ∧ a ≤ (n - 1) / 2) := by
  unfold Ks184.small
  simp only [Bool.and_eq_true, decide_eq_true_eq]
/-- the same as whole numbers with a sign -/
theorem small_int (n a : Nat) : Ks184.small n a = (decide ((1 : Int) ≤ (a : Int)) && decide ((a : Int) ≤ ((n : Int) - 1) / 2)) := by
  rw [Bool.eq_iff_iff, small_iff]
  simp only [Bool.and_eq_true, decide_eq_true_eq]
  omega
theorem fit_pos {w : Ks184.What} (h : w.fit = true) : 0 < w.n := by
  have q := ((fit_iff w).mp h).1
  omega
theorem small_lt {n a : Nat} (h : Ks184.small n a = true) : a < n := by
  have q := (small_iff n a).mp h
  omega
end Tm

/-! ## TSpec -/
/-! # The calls in the list, and what the specification answers to each -/
namespace Tm
open Ks184Neutral (number nats bytes64 bytesOf given step)
/-! ### one call's answer, written out -/
/-- what a lot's telling is -/
def told1 : Ks184.Ev → List Int
  | .mix y _ => (1 : Int) :: bytes64 y
  | .lot _ a b d t _ => (2 : Int) :: (bytes64 a ++ bytes64 b ++ bytes64 d ++ [(t : Int)])
/-- an answer's numbers -/
def tell (x : Ks184.Ans × List Ks184.Ev) : List Int := x.1.ret :: (x.1.nums.flatMap bytes64 ++ Ks184Neutral.ints x.1.bytes ++ ((x.2.length : Int) :: x.2.flatMap told1))
theorem step_seal (s : Ks184Neutral.S) (k : Int) (n x m l : List Int) : step s [[0, k], n, x, m, l] = (s, tell (Ks184.act given (s.getD ⟨⟨0, 0, 0⟩, 0, 0⟩) (.seal_ ⟨number (nats n), number (nats x), k.toNat⟩ (number (nats m)) (nats l))).2) := rfl
theorem step_right (s : Ks184Neutral.S) (k : Int) (n x y l : List Int) : step s [[5, k], n, x, y, l] = (s, tell (Ks184.act given (s.getD ⟨⟨0, 0, 0⟩, 0, 0⟩) (.right ⟨number (nats n), number (nats x), k.toNat⟩ (number (nats y)) (Ks184Neutral.numbers (nats l)))).2) := rfl
theorem step_value (q : Ks184.Abs) : step (some q) [[3]] = (some (Ks184.act given q .value).1, tell (Ks184.act given q .value).2) := rfl
theorem step_show (q : Ks184.Abs) : step (some q) [[4]] = (some (Ks184.act given q .show_).1, tell (Ks184.act given q .show_).2) := rfl
theorem step_seal_no (s : Ks184Neutral.S) {k : Int} {n x m l : List Int} (h : Ks184.What.fit ⟨number (nats n), number (nats x), k.toNat⟩ = false ∨ number (nats m) = 0) : step s [[0, k], n, x, m, l] = (s, [-22, 0]) := by
  have e : ∀ q, Ks184.act given q (.seal_ ⟨number (nats n), number (nats x), k.toNat⟩ (number (nats m)) (nats l)) = (q, Ks184.say (-22), []) := fun q => if_pos h
  rw [step_seal, e]
  rfl
theorem step_seal_yes (s : Ks184Neutral.S) {k : Int} {n x m l : List Int} (h : ¬ (Ks184.What.fit ⟨number (nats n), number (nats x), k.toNat⟩ = false ∨ number (nats m) = 0)) {y : Nat} (hy : Ks184.What.quick ⟨number (nats n), number (nats x), k.toNat⟩ (number (nats m)) = y) :
    step s [[0, k], n, x, m, l] = (s, 0 :: (Ks184Neutral.ints (Ks184.xor (nats l) (given.mix y)) ++ (1 :: 1 :: bytes64 y))) := by
  subst hy
  have e : ∀ q, Ks184.act given q (.seal_ ⟨number (nats n), number (nats x), k.toNat⟩ (number (nats m)) (nats l)) =
      (q, { ret := 0, bytes := Ks184.xor (nats l) (given.mix (Ks184.What.quick ⟨number (nats n), number (nats x), k.toNat⟩ (number (nats m)))) }, [.mix (Ks184.What.quick ⟨number (nats n), number (nats x), k.toNat⟩ (number (nats m))) (given.mix (Ks184.What.quick ⟨number (nats n), number (nats x), k.toNat⟩ (number (nats m))))]) := fun q => if_neg h
  rw [step_seal, e]
  show (s, (0 : Int) :: (Ks184Neutral.ints (Ks184.xor (nats l) (given.mix _)) ++ (1 :: ((1 :: bytes64 _) ++ [])))) = _
  rw [List.append_nil]
theorem step_begin_no (s : Ks184Neutral.S) {k : Int} {n x : List Int} (h : Ks184.What.fit ⟨number (nats n), number (nats x), k.toNat⟩ = false) : step s [[1, k], n, x] = (s, [-22, 0]) := by
  have e : step s [[1, k], n, x] = if Ks184.What.fit ⟨number (nats n), number (nats x), k.toNat⟩ = true then (some (Ks184.begun ⟨number (nats n), number (nats x), k.toNat⟩), [0, 0]) else (s, [-22, 0]) := rfl
  rw [e, h]
  rfl
theorem step_begin_yes (s : Ks184Neutral.S) {k : Int} {n x : List Int} (h : Ks184.What.fit ⟨number (nats n), number (nats x), k.toNat⟩ = true) : step s [[1, k], n, x] = (some (Ks184.begun ⟨number (nats n), number (nats x), k.toNat⟩), [0, 0]) := by
  have e : step s [[1, k], n, x] = if Ks184.What.fit ⟨number (nats n), number (nats x), k.toNat⟩ = true then (some (Ks184.begun ⟨number (nats n), number (nats x), k.toNat⟩), [0, 0]) else (s, [-22, 0]) := rfl
  rw [e, h]
  rfl
theorem step_work_none (t : Int) : step none [[2, t]] = (none, [-61]) := rfl
theorem step_work_some (q : Ks184.Abs) (t : Int) : step (some q) [[2, t]] =
    (some { q with done := q.done + min t.toNat q.left, now := Ks184.raised q.what.n q.now (min t.toNat q.left) }, [((q.left - min t.toNat q.left : Nat) : Int), 0]) := rfl
theorem step_value_none : step none [[3]] = (none, [-61]) := rfl
theorem step_value_left {q : Ks184.Abs} (h : 0 < q.left) : step (some q) [[3]] = (some q, [-1, 0]) := by
  have e : Ks184.act given q .value = (q, Ks184.say (-1), []) := if_pos h
  rw [step_value, e]
  rfl
theorem step_value_done {q : Ks184.Abs} (h : ¬ 0 < q.left) : step (some q) [[3]] = (some q, 0 :: (bytes64 (Ks184.face q.what.n q.now) ++ [0])) := by
  have e : Ks184.act given q .value = (q, { ret := 0, nums := [Ks184.face q.what.n q.now] }, []) := if_neg h
  rw [step_value, e]
  show (some q, (0 : Int) :: ((bytes64 (Ks184.face q.what.n q.now) ++ []) ++ [] ++ [0])) = _
  rw [List.append_nil, List.append_nil]
theorem step_show_none : step none [[4]] = (none, [-61]) := rfl
theorem step_show_left {q : Ks184.Abs} (h : 0 < q.left) : step (some q) [[4]] = (some q, [-1, 0]) := by
  have e : Ks184.act given q .show_ = (q, Ks184.say (-1), []) := if_pos h
  rw [step_show, e]
  rfl
theorem step_show_done {q : Ks184.Abs} (h : ¬ 0 < q.left) {p : List Nat} (hp : Ks184.proof given q.what.n q.what.k q.what.x (Ks184.face q.what.n q.now) = p) {es : List Ks184.Ev} (he : Ks184.asks given q.what.n q.what.k q.what.x (Ks184.face q.what.n q.now) p = es) :
    step (some q) [[4]] = (some q, (q.what.k : Int) :: (p.flatMap bytes64 ++ ((es.length : Int) :: es.flatMap told1))) := by
  subst hp he
  have e : Ks184.act given q .show_ = (q, { ret := (q.what.k : Nat), nums := Ks184.proof given q.what.n q.what.k q.what.x (Ks184.face q.what.n q.now) }, Ks184.asks given q.what.n q.what.k q.what.x (Ks184.face q.what.n q.now) (Ks184.proof given q.what.n q.what.k q.what.x (Ks184.face q.what.n q.now))) := if_neg h
  rw [step_show, e]
  unfold tell
  dsimp only
  show (some q, (q.what.k : Int) :: ((List.flatMap bytes64 _ ++ []) ++ (_ :: List.flatMap told1 _))) = _
  rw [List.append_nil]
theorem step_right_22 (s : Ks184Neutral.S) {k : Int} {n x y l : List Int} (h : Ks184.What.fit ⟨number (nats n), number (nats x), k.toNat⟩ = false) : step s [[5, k], n, x, y, l] = (s, [-22, 0]) := by
  have e : ∀ q, Ks184.act given q (.right ⟨number (nats n), number (nats x), k.toNat⟩ (number (nats y)) (Ks184Neutral.numbers (nats l))) = (q, Ks184.say (-22), []) := fun q => if_pos h
  rw [step_right, e]
  rfl
theorem step_right_13 (s : Ks184Neutral.S) {k : Int} {n x y l : List Int} (h : ¬ Ks184.What.fit ⟨number (nats n), number (nats x), k.toNat⟩ = false)
    (h2 : Ks184.small (number (nats n)) (number (nats y)) = false ∨ (Ks184Neutral.numbers (nats l)).all (Ks184.small (number (nats n))) = false) : step s [[5, k], n, x, y, l] = (s, [-13, 0]) := by
  have e : ∀ q, Ks184.act given q (.right ⟨number (nats n), number (nats x), k.toNat⟩ (number (nats y)) (Ks184Neutral.numbers (nats l))) = (q, Ks184.say (-13), []) := fun q => (if_neg h).trans (if_pos h2)
  rw [step_right, e]
  rfl
theorem step_right_go (s : Ks184Neutral.S) {k : Int} {n x y l : List Int} (h : ¬ Ks184.What.fit ⟨number (nats n), number (nats x), k.toNat⟩ = false)
    (h2 : ¬ (Ks184.small (number (nats n)) (number (nats y)) = false ∨ (Ks184Neutral.numbers (nats l)).all (Ks184.small (number (nats n))) = false)) {r : Int}
    (hr : (if Ks184.What.right ⟨number (nats n), number (nats x), k.toNat⟩ given (number (nats y)) (Ks184Neutral.numbers (nats l)) = true then (0 : Int) else -13) = r)
    {es : List Ks184.Ev} (he : Ks184.asks given (number (nats n)) k.toNat (number (nats x)) (number (nats y)) (Ks184Neutral.numbers (nats l)) = es) :
    step s [[5, k], n, x, y, l] = (s, r :: ((es.length : Int) :: es.flatMap told1)) := by
  subst hr he
  have e : ∀ q, Ks184.act given q (.right ⟨number (nats n), number (nats x), k.toNat⟩ (number (nats y)) (Ks184Neutral.numbers (nats l))) =
      (q, Ks184.say (if Ks184.What.right ⟨number (nats n), number (nats x), k.toNat⟩ given (number (nats y)) (Ks184Neutral.numbers (nats l)) = true then (0 : Int) else -13), Ks184.asks given (number (nats n)) k.toNat (number (nats x)) (number (nats y)) (Ks184Neutral.numbers (nats l))) := fun q => (if_neg h).trans (if_neg h2)
  rw [step_right, e]
  rfl
theorem step_read (s : Ks184Neutral.S) {y l : List Int} : step s [[6], y, l] = (s, 0 :: (Ks184Neutral.ints (Ks184.xor (nats l) (given.mix (number (nats y)))) ++ (1 :: 1 :: bytes64 (number (nats y))))) := by
  show (s, (0 : Int) :: (Ks184Neutral.ints (Ks184.xor (nats l) (given.mix (number (nats y)))) ++ (1 :: ((1 :: bytes64 (number (nats y))) ++ [])))) = _
  rw [List.append_nil]
/-! ### the proof by halves, round by round -/
/-- the two numbers behind the last round -/
def fin (g : Ks184.Given) (n : Nat) : Nat → Nat → Nat → List Nat → Nat × Nat
  | 0, a, b, _ => (a, b)
  | t + 1, a, b, p => let c := p.headD 0; let x := Ks184.next n (g.lot n a b c (t + 1)) a b c; fin g n t x.1 x.2 (p.drop 1)
theorem rounds_ne (g : Ks184.Given) (n : Nat) (t a b : Nat) (p : List Nat) : Ks184.rounds g n t a b p ≠ [] := by
  cases t <;> (intro h; cases h)
theorem last_fin (g : Ks184.Given) (n : Nat) : ∀ (t a b : Nat) (p : List Nat), (Ks184.rounds g n t a b p).getLast? = some (fin g n t a b p)
  | 0, _, _, _ => rfl
  | t + 1, a, b, p => by
    have ih := last_fin g n t (Ks184.next n (g.lot n a b (p.headD 0) (t + 1)) a b (p.headD 0)).1 (Ks184.next n (g.lot n a b (p.headD 0) (t + 1)) a b (p.headD 0)).2 (p.drop 1)
    show ((a, b) :: Ks184.rounds g n t _ _ (p.drop 1)).getLast? = some (fin g n t _ _ (p.drop 1))
    rw [← ih]
    cases e : Ks184.rounds g n t (Ks184.next n (g.lot n a b (p.headD 0) (t + 1)) a b (p.headD 0)).1 (Ks184.next n (g.lot n a b (p.headD 0) (t + 1)) a b (p.headD 0)).2 (p.drop 1) with
    | nil => exact absurd e (rounds_ne _ _ _ _ _ _)
    | cons z r => exact List.getLast?_cons_cons
theorem right_fin (w : Ks184.What) (g : Ks184.Given) {y : Nat} {p : List Nat} (hy : Ks184.small w.n y = true) (hp : p.all (Ks184.small w.n) = true) :
    w.right g y p = (Ks184.face w.n ((fin g w.n w.k w.x y p).1 * (fin g w.n w.k w.x y p).1) == (fin g w.n w.k w.x y p).2) := by
  unfold Ks184.What.right
  rw [hy, hp, last_fin]
  rfl
/-! ### the list read, call by call -/
/-- so many bytes -/
def Row (k : Nat) (r : List Int) : Prop := r.length = k ∧ ∀ z ∈ r, (0 : Int) ≤ z ∧ z < 256
def Small32 (k : Int) : Prop := 0 ≤ k ∧ k < 4294967296
/-- s begins with the call c, whose numbers are as the document tells them; behind it stands t -/
inductive Due : List Int → List (List Int) → List Int → Prop
  | seal_ {k : Int} {r n r2 x r3 m r4 l t : List Int} (hk : Small32 k) (h1 : PyFlat.row r = some (n, r2)) (h2 : PyFlat.row r2 = some (x, r3)) (h3 : PyFlat.row r3 = some (m, r4)) (h4 : PyFlat.row r4 = some (l, t))
      (b1 : Row 64 n) (b2 : Row 64 x) (b3 : Row 64 m) (b4 : Row 32 l) : Due (0 :: k :: r) [[0, k], n, x, m, l] t
  | begin_ {k : Int} {r n r2 x t : List Int} (hk : Small32 k) (h1 : PyFlat.row r = some (n, r2)) (h2 : PyFlat.row r2 = some (x, t)) (b1 : Row 64 n) (b2 : Row 64 x) : Due (1 :: k :: r) [[1, k], n, x] t
  | work {k : Int} {t : List Int} (hk : Small32 k) : Due (2 :: k :: t) [[2, k]] t
  | value {t : List Int} : Due (3 :: t) [[3]] t
  | show_ {t : List Int} : Due (4 :: t) [[4]] t
  | right {k : Int} {r n r2 x r3 y r4 l t : List Int} (hk : Small32 k) (h1 : PyFlat.row r = some (n, r2)) (h2 : PyFlat.row r2 = some (x, r3)) (h3 : PyFlat.row r3 = some (y, r4)) (h4 : PyFlat.row r4 = some (l, t))
      (b1 : Row 64 n) (b2 : Row 64 x) (b3 : Row 64 y) (b4 : Row l.length l) (b5 : l.length ≤ 1280) (b6 : l.length % 64 = 0) (b7 : Ks184.What.fit ⟨number (nats n), number (nats x), k.toNat⟩ = true → l.length = 64 * k.toNat) : Due (5 :: k :: r) [[5, k], n, x, y, l] t
  | read {r y r2 l t : List Int} (h1 : PyFlat.row r = some (y, r2)) (h2 : PyFlat.row r2 = some (l, t)) (b1 : Row 64 y) (b2 : Row 32 l) : Due (6 :: r) [[6], y, l] t
theorem rows0 {r t : List Int} {xs : List (List Int)} (h : PyFlat.rows 0 r = some (xs, t)) : xs = [] ∧ t = r := by
  cases h
  exact ⟨rfl, rfl⟩
theorem rows1 {k : Nat} {r t : List Int} {xs : List (List Int)} (h : PyFlat.rows (k + 1) r = some (xs, t)) : ∃ x s ys, PyFlat.row r = some (x, s) ∧ PyFlat.rows k s = some (ys, t) ∧ xs = x :: ys := by
  unfold PyFlat.rows at h
  cases e1 : PyFlat.row r with
  | none =>
    rw [e1] at h
    cases h
  | some z =>
    obtain ⟨x, s⟩ := z
    rw [e1] at h
    dsimp only at h
    cases e2 : PyFlat.rows k s with
    | none =>
      rw [e2] at h
      cases h
    | some u =>
      obtain ⟨ys, t2⟩ := u
      rw [e2] at h
      cases h
      exact ⟨x, s, ys, rfl, e2, rfl⟩
theorem call_of {p : Int} {r t : List Int} {c : List (List Int)} {n k : Nat} (hs : PyKs184.shape p = some (n, k)) (h : PyFlat.call PyKs184.shape (p :: r) = some (c, t)) : n ≤ r.length ∧ ∃ xs, PyFlat.rows k (r.drop n) = some (xs, t) ∧ c = (p :: r.take n) :: xs := by
  unfold PyFlat.call at h
  dsimp only at h
  rw [hs] at h
  dsimp only at h
  by_cases c1 : r.length < n
  · rw [if_pos c1] at h
    cases h
  · rw [if_neg c1] at h
    cases e : PyFlat.rows k (r.drop n) with
    | none =>
      rw [e] at h
      cases h
    | some u =>
      obtain ⟨xs, t2⟩ := u
      rw [e] at h
      cases h
      exact ⟨by omega, xs, rfl, rfl⟩
theorem one_of {r : List Int} (h : 1 ≤ r.length) : ∃ k s, r = k :: s := by
  cases r with
  | nil => exact absurd h (by decide)
  | cons k s => exact ⟨k, s, rfl⟩
theorem within_all {r : List Int} (h : r.all (PyInside.within 0 255) = true) : ∀ z ∈ r, (0 : Int) ≤ z ∧ z < 256 := fun z hz => by
  have q := List.all_eq_true.mp h z hz
  unfold PyInside.within at q
  rw [Bool.and_eq_true, decide_eq_true_eq, decide_eq_true_eq] at q
  exact ⟨q.1, by omega⟩
theorem lists_cons {lo hi : Int} {least most : Nat} {b : List (Int × Int × Nat × Nat)} {r : List Int} {rs : List (List Int)} (h : PyInside.lists ((lo, hi, least, most) :: b) (r :: rs) = true) :
    least ≤ r.length ∧ r.length ≤ most ∧ r.all (PyInside.within lo hi) = true ∧ PyInside.lists b rs = true := by
  unfold PyInside.lists at h
  simp only [Bool.and_eq_true, decide_eq_true_eq] at h
  exact ⟨h.1.1.1, h.1.1.2, h.1.2, h.2⟩
theorem row_of {k : Nat} {b : List (Int × Int × Nat × Nat)} {r : List Int} {rs : List (List Int)} (h : PyInside.lists ((0, 255, k, k) :: b) (r :: rs) = true) : Row k r ∧ PyInside.lists b rs = true := by
  obtain ⟨h1, h2, h3, h4⟩ := lists_cons h
  exact ⟨⟨by omega, within_all h3⟩, h4⟩
theorem each_of {k : Int} (h : PyInside.each [(0, 4294967295)] [k] = true) : Small32 k := by
  unfold PyInside.each PyInside.within at h
  simp only [Bool.and_eq_true, decide_eq_true_eq] at h
  exact ⟨h.1.1, by omega⟩
/-- what the last part of the form says of right's proof -/
theorem long_right {k : Int} {n x y l : List Int} (h : Ks184Neutral.long [[5, k], n, x, y, l] = true) : (if Ks184.What.fit ⟨number (nats n), number (nats x), k.toNat⟩ then (nats l).length == 64 * k.toNat else (nats l).length % 64 == 0 && decide ((nats l).length ≤ 1280)) = true := by
  have e : Ks184Neutral.long [[5, k], n, x, y, l] = ((decide (k.toNat ≤ 10) || decide (20 < k.toNat)) && (nats n).length == 64 && (nats x).length == 64 && (nats y).length == 64 && (if Ks184.What.fit ⟨number (nats n), number (nats x), k.toNat⟩ then (nats l).length == 64 * k.toNat else (nats l).length % 64 == 0 && decide ((nats l).length ≤ 1280))) := rfl
  rw [e, Bool.and_eq_true] at h
  exact h.2
theorem form_long {c : List (List Int)} (h : Ks184Neutral.form c = true) : Ks184Neutral.long c = true := by
  unfold Ks184Neutral.form at h
  split at h
  · cases h
  · simp only [Bool.and_eq_true] at h
    exact h.2
theorem due_of {s t : List Int} {c : List (List Int)} (h : PyFlat.call PyKs184.shape s = some (c, t)) (hb : PyInside.call PyKs184.bound c = true) (hf : Ks184Neutral.form c = true) : Due s c t := by
  cases s with
  | nil => cases h
  | cons p r =>
    by_cases c0 : p = 0
    · subst c0
      obtain ⟨h0, xs, hr1, rfl⟩ := call_of (n := 1) (k := 4) rfl h
      obtain ⟨k, r, rfl⟩ := one_of h0
      obtain ⟨n, r2, ys1, e1, hr2, rfl⟩ := rows1 hr1
      obtain ⟨x, r3, ys2, e2, hr3, rfl⟩ := rows1 hr2
      obtain ⟨m, r4, ys3, e3, hr4, rfl⟩ := rows1 hr3
      obtain ⟨l, r5, ys4, e4, hr5, rfl⟩ := rows1 hr4
      obtain ⟨rfl, rfl⟩ := rows0 hr5
      have hb' : (PyInside.each [(0, 4294967295)] [k] && PyInside.lists [(0, 255, 64, 64), (0, 255, 64, 64), (0, 255, 64, 64), (0, 255, 32, 32)] [n, x, m, l]) = true := hb
      rw [Bool.and_eq_true] at hb'
      obtain ⟨hk, hl⟩ := hb'
      obtain ⟨b1, hl⟩ := row_of hl
      obtain ⟨b2, hl⟩ := row_of hl
      obtain ⟨b3, hl⟩ := row_of hl
      obtain ⟨b4, hl⟩ := row_of hl
      exact .seal_ (each_of hk) e1 e2 e3 e4 b1 b2 b3 b4
    by_cases c1 : p = 1
    · subst c1
      obtain ⟨h0, xs, hr1, rfl⟩ := call_of (n := 1) (k := 2) rfl h
      obtain ⟨k, r, rfl⟩ := one_of h0
      obtain ⟨n, r2, ys1, e1, hr2, rfl⟩ := rows1 hr1
      obtain ⟨x, r3, ys2, e2, hr3, rfl⟩ := rows1 hr2
      obtain ⟨rfl, rfl⟩ := rows0 hr3
      have hb' : (PyInside.each [(0, 4294967295)] [k] && PyInside.lists [(0, 255, 64, 64), (0, 255, 64, 64)] [n, x]) = true := hb
      rw [Bool.and_eq_true] at hb'
      obtain ⟨hk, hl⟩ := hb'
      obtain ⟨b1, hl⟩ := row_of hl
      obtain ⟨b2, hl⟩ := row_of hl
      exact .begin_ (each_of hk) e1 e2 b1 b2
    by_cases c2 : p = 2
    · subst c2
      obtain ⟨h0, xs, hr1, rfl⟩ := call_of (n := 1) (k := 0) rfl h
      obtain ⟨k, r, rfl⟩ := one_of h0
      obtain ⟨rfl, rfl⟩ := rows0 hr1
      have hb' : (PyInside.each [(0, 4294967295)] [k] && true) = true := hb
      rw [Bool.and_true] at hb'
      exact .work (each_of hb')
    by_cases c3 : p = 3
    · subst c3
      obtain ⟨_, xs, hr1, rfl⟩ := call_of (n := 0) (k := 0) rfl h
      obtain ⟨rfl, rfl⟩ := rows0 hr1
      exact .value
    by_cases c4 : p = 4
    · subst c4
      obtain ⟨_, xs, hr1, rfl⟩ := call_of (n := 0) (k := 0) rfl h
      obtain ⟨rfl, rfl⟩ := rows0 hr1
      exact .show_
    by_cases c5 : p = 5
    · subst c5
      obtain ⟨h0, xs, hr1, rfl⟩ := call_of (n := 1) (k := 4) rfl h
      obtain ⟨k, r, rfl⟩ := one_of h0
      obtain ⟨n, r2, ys1, e1, hr2, rfl⟩ := rows1 hr1
      obtain ⟨x, r3, ys2, e2, hr3, rfl⟩ := rows1 hr2
      obtain ⟨m, r4, ys3, e3, hr4, rfl⟩ := rows1 hr3
      obtain ⟨l, r5, ys4, e4, hr5, rfl⟩ := rows1 hr4
      obtain ⟨rfl, rfl⟩ := rows0 hr5
      have hb' : (PyInside.each [(0, 4294967295)] [k] && PyInside.lists [(0, 255, 64, 64), (0, 255, 64, 64), (0, 255, 64, 64), (0, 255, 0, 1280)] [n, x, m, l]) = true := hb
      rw [Bool.and_eq_true] at hb'
      obtain ⟨hk, hl⟩ := hb'
      obtain ⟨b1, hl⟩ := row_of hl
      obtain ⟨b2, hl⟩ := row_of hl
      obtain ⟨b3, hl⟩ := row_of hl
      obtain ⟨_, b5, b4, _⟩ := lists_cons hl
      have q := long_right (form_long hf)
      have el : (nats l).length = l.length := List.length_map ..
      rw [el] at q
      have hfit : Ks184.What.fit ⟨number (nats n), number (nats x), k.toNat⟩ = true → l.length = 64 * k.toNat := fun z => by
        rw [if_pos z] at q
        exact beq_iff_eq.mp q
      refine .right (each_of hk) e1 e2 e3 e4 b1 b2 b3 ⟨rfl, within_all b4⟩ b5 ?_ hfit
      cases z : Ks184.What.fit ⟨number (nats n), number (nats x), k.toNat⟩ with
      | true =>
        rw [hfit z]
        exact Nat.mul_mod_right ..
      | false =>
        rw [z, if_neg Bool.false_ne_true, Bool.and_eq_true] at q
        exact beq_iff_eq.mp q.1
    by_cases c6 : p = 6
    · subst c6
      obtain ⟨_, xs, hr1, rfl⟩ := call_of (n := 0) (k := 2) rfl h
      obtain ⟨n, r2, ys1, e1, hr2, rfl⟩ := rows1 hr1
      obtain ⟨x, r3, ys2, e2, hr3, rfl⟩ := rows1 hr2
      obtain ⟨rfl, rfl⟩ := rows0 hr3
      have hb' : PyInside.lists [(0, 255, 64, 64), (0, 255, 32, 32)] [n, x] = true := hb
      obtain ⟨b1, hl⟩ := row_of hb'
      obtain ⟨b2, hl⟩ := row_of hl
      exact .read e1 e2 b1 b2
    · exfalso
      unfold PyFlat.call PyKs184.shape at h
      dsimp only at h
      rw [if_neg c0, if_neg c1, if_neg c2, if_neg c3, if_neg c4, if_neg c5, if_neg c6] at h
      cases h
/-! ### all calls -/
theorem whole_id (c : List (List Int)) : PyKs184.whole c = c := by
  unfold PyKs184.whole
  split <;> rfl
theorem whole_map (cs : List (List (List Int))) : cs.map PyKs184.whole = cs := by
  rw [show PyKs184.whole = id from funext whole_id, List.map_id]
/-- s is the list of these calls, each due -/
inductive Dues : List Int → List (List (List Int)) → Prop
  | nil : Dues [] []
  | cons {s t : List Int} {c : List (List Int)} {cs : List (List (List Int))} (h : Due s c t) (r : Dues t cs) : Dues s (c :: cs)
theorem dues_of : ∀ (f : Nat) (s : List Int) (cs : List (List (List Int))), PyFlat.calls PyKs184.shape f s = some cs → (∀ c ∈ cs, PyInside.call PyKs184.bound c = true ∧ Ks184Neutral.form c = true) → Dues s cs
  | 0, [], cs, h, _ => by
    cases h
    exact .nil
  | f + 1, [], cs, h, _ => by
    cases h
    exact .nil
  | 0, p :: r, cs, h, _ => by cases h
  | f + 1, p :: r, cs, h, hc => by
    unfold PyFlat.calls at h
    cases e1 : PyFlat.call PyKs184.shape (p :: r) with
    | none =>
      rw [e1] at h
      cases h
    | some u =>
      obtain ⟨c, t⟩ := u
      rw [e1] at h
      dsimp only at h
      cases e2 : PyFlat.calls PyKs184.shape f t with
      | none =>
        rw [e2] at h
        cases h
      | some cs2 =>
        rw [e2] at h
        cases h
        have q := hc c (List.mem_cons_self ..)
        exact .cons (due_of e1 q.1 q.2) (dues_of f t cs2 e2 fun c2 h2 => hc c2 (List.mem_cons_of_mem _ h2))
theorem runs_played : ∀ (s : Ks184Neutral.S) (cs : List (List (List Int))), Ks184Neutral.runs s cs = PyFlat.played step s cs
  | _, [] => rfl
  | s, c :: r => by
    show (step s c).2 :: Ks184Neutral.runs (step s c).1 r = (step s c).2 :: PyFlat.played step (step s c).1 r
    rw [runs_played]
theorem foldl_sum : ∀ (l : List Nat) (a : Nat), l.foldl (· + ·) a = a + l.sum
  | [], a => by simp
  | x :: r, a => by
    rw [List.foldl_cons, foldl_sum r, List.sum_cons, Nat.add_assoc]
theorem told_length : ∀ l : List (List Int), (PyFlat.told l).length = l.length + (l.map List.length).sum
  | [] => rfl
  | a :: r => by
    have ih := told_length r
    show (((a.length : Int) :: a) ++ PyFlat.told r).length = _
    rw [List.length_append, ih, List.length_cons, List.length_cons, List.map_cons, List.sum_cons]
    omega
theorem played_length : ∀ (cs : List (List (List Int))) (s : Ks184Neutral.S), (PyFlat.played step s cs).length = cs.length
  | [], _ => rfl
  | _ :: r, _ => congrArg (· + 1) (played_length r _)
theorem told_cons (a : List Int) (l : List (List Int)) : PyFlat.told (a :: l) = (a.length : Int) :: (a ++ PyFlat.told l) := rfl
theorem told_append (l m : List (List Int)) : PyFlat.told (l ++ m) = PyFlat.told l ++ PyFlat.told m := List.flatMap_append ..
/-- what a request that may be asked is: its calls, and how long the answer is at most -/
theorem asked_of {l : List Int} (h : PyKs184.answers_asked l = true) : ∃ cs, Dues l cs ∧ PyKs184.answers l = PyFlat.told (PyFlat.played step none cs) ∧ (PyFlat.told (PyFlat.played step none cs)).length < 1005001 := by
  unfold PyKs184.answers_asked at h
  cases e : PyFlat.calls PyKs184.shape l.length l with
  | none =>
    rw [e] at h
    cases h
  | some raw =>
    rw [e] at h
    dsimp only at h
    simp only [Bool.and_eq_true] at h
    obtain ⟨⟨⟨⟨_, h2⟩, h3⟩, h4⟩, _⟩ := h
    rw [whole_map] at h4
    unfold Ks184Neutral.asked at h4
    simp only [Bool.and_eq_true, decide_eq_true_eq] at h4
    obtain ⟨⟨⟨⟨_, _⟩, hm⟩, hord⟩, hsum⟩ := h4
    refine ⟨raw, dues_of _ _ _ e fun c hc => ⟨List.all_eq_true.mp h3 c hc, List.all_eq_true.mp hord c hc⟩, ?_, ?_⟩
    · unfold PyKs184.answers PyKs184.calls
      rw [e]
      dsimp only
      rw [whole_map]
      rfl
    · rw [told_length, played_length]
      rw [foldl_sum, Nat.zero_add] at hsum
      have e2 : Ks184Neutral.f raw = PyFlat.played step none raw := runs_played none raw
      rw [e2] at hsum
      omega
end Tm

/-! ## THalf -/
/-! # The proof by halves: its numbers in a row, its rounds one by one -/
namespace Tm
open Ks184Neutral (number numbers nats given)
theorem numbers_length (b : List Nat) : (numbers b).length = b.length / 64 := by simp [Ks184Neutral.numbers]
theorem numbers_get {b : List Nat} {i : Nat} (h : i < b.length / 64) : (numbers b)[i]? = some (number ((b.drop (64 * i)).take 64)) := by
  simp [Ks184Neutral.numbers, h]
theorem numbers_nil : numbers [] = [] := rfl
theorem numbers_cons {b : List Nat} (h : 64 ≤ b.length) : numbers b = number (b.take 64) :: numbers (b.drop 64) := by
  refine List.ext_getElem? fun i => ?_
  cases i with
  | zero =>
    rw [numbers_get (by omega)]
    rfl
  | succ i =>
    rw [List.getElem?_cons_succ]
    have el : (b.drop 64).length = b.length - 64 := List.length_drop ..
    by_cases c : i < (b.length - 64) / 64
    · rw [numbers_get (b := b.drop 64) (by rw [el]; exact c), numbers_get (b := b) (by omega), List.drop_drop]
      congr 4
      omega
    · rw [List.getElem?_eq_none (by rw [numbers_length]; omega), List.getElem?_eq_none (by rw [numbers_length, el]; omega)]
theorem mem_numbers_lt {b : List Nat} (h : ∀ x ∈ b, x < 256) {c : Nat} (hc : c ∈ numbers b) : c < 2 ^ 512 := by
  unfold Ks184Neutral.numbers at hc
  obtain ⟨i, _, rfl⟩ := List.mem_map.mp hc
  refine number_take_lt (fun x hx => h x (List.mem_of_mem_drop (List.mem_of_mem_take hx))) ?_
  rw [List.length_take]
  exact Nat.min_le_left ..
theorem lot_eq (n a b c t : Nat) : given.lot n a b c t = (n + a + 3 * b + 5 * c + 7 * t) % 4294967296 := rfl
theorem lot_lt (n a b c t : Nat) : given.lot n a b c t < 2 ^ 32 := Nat.mod_lt _ (by decide)
theorem half_eq (n a t : Nat) : Ks184.half n a (t + 1) = Ks184.face n (Ks184.raised n a (2 ^ t)) := rfl
theorem next_lt {n r a b c : Nat} (h : 0 < n) : (Ks184.next n r a b c).1 < n ∧ (Ks184.next n r a b c).2 < n := ⟨face_lt h, face_lt h⟩
theorem proof_succ (g : Ks184.Given) (n t a b : Nat) : Ks184.proof g n (t + 1) a b = Ks184.half n a (t + 1) :: Ks184.proof g n t (Ks184.next n (g.lot n a b (Ks184.half n a (t + 1)) (t + 1)) a b (Ks184.half n a (t + 1))).1 (Ks184.next n (g.lot n a b (Ks184.half n a (t + 1)) (t + 1)) a b (Ks184.half n a (t + 1))).2 := rfl
theorem asks_succ (g : Ks184.Given) (n t a b c : Nat) (p : List Nat) : Ks184.asks g n (t + 1) a b (c :: p) = .lot n a b c (t + 1) (g.lot n a b c (t + 1)) :: Ks184.asks g n t (Ks184.next n (g.lot n a b c (t + 1)) a b c).1 (Ks184.next n (g.lot n a b c (t + 1)) a b c).2 p := rfl
theorem fin_succ (g : Ks184.Given) (n t a b c : Nat) (p : List Nat) : fin g n (t + 1) a b (c :: p) = fin g n t (Ks184.next n (g.lot n a b c (t + 1)) a b c).1 (Ks184.next n (g.lot n a b c (t + 1)) a b c).2 p := rfl
theorem proof_length (g : Ks184.Given) (n : Nat) : ∀ t a b, (Ks184.proof g n t a b).length = t
  | 0, _, _ => rfl
  | t + 1, _, _ => congrArg (· + 1) (proof_length g n t _ _)
theorem asks_length (g : Ks184.Given) (n : Nat) : ∀ t a b p, (Ks184.asks g n t a b p).length = t
  | 0, _, _, _ => rfl
  | t + 1, _, _, _ => congrArg (· + 1) (asks_length g n t _ _ _)
theorem bytes64_length (y : Nat) : (Ks184Neutral.bytes64 y).length = 64 := by
  unfold Ks184Neutral.bytes64 Ks184Neutral.ints
  rw [List.length_map, bytesOf_length]
theorem flat64_length : ∀ p : List Nat, (p.flatMap Ks184Neutral.bytes64).length = 64 * p.length
  | [] => rfl
  | c :: p => by
    rw [List.flatMap_cons, List.length_append, bytes64_length, flat64_length p, List.length_cons]
    omega
end Tm

/-! ## TBase -/
namespace Tl
open PySem PySem.Spec PyProof.Rows L2
/-! ### short words -/
/-- the i-th statement of the program -/
def top (i : Nat) : Stmt := PySem.Challenge.pw_timedletters_s01_answers.main.body.getD i (.Pass ⟨0, 0, 0, 0⟩)
/-- whole numbers from 0 on, as the proof sees them -/
abbrev nV (l : List Nat) : List V := l.map fun n : Nat => V.int (n : Int)
theorem nV_get {l : List Nat} {i : Nat} {x : V} (h : (nV l)[i]? = some x) : ∃ z, l[i]? = some z ∧ x = V.int (z : Int) := by
  rw [List.getElem?_map] at h
  cases e : l[i]? with
  | none =>
    rw [e] at h
    cases h
  | some z =>
    rw [e] at h
    exact ⟨z, rfl, (Option.some.inj h).symm⟩
theorem nV_at {l : List Nat} {i z : Nat} (h : l[i]? = some z) : (nV l)[i]? = some (V.int (z : Int)) := by
  rw [List.getElem?_map, h]
  rfl
/-- one item more -/
theorem take_more {α : Type} : ∀ {l : List α} {i : Nat} {x : α}, l[i]? = some x → l.take (i + 1) = l.take i ++ [x]
  | [], i, x, h => by simp at h
  | a :: l, 0, x, h => by
    have e : a = x := Option.some.inj h
    subst e
    rfl
  | a :: l, i + 1, x, h => by
    have ih := take_more (l := l) (i := i) (x := x) h
    show a :: l.take (i + 1) = a :: l.take i ++ [x]
    rw [ih]
    rfl
theorem take_all {α : Type} (l : List α) : l.take l.length = l := List.take_length
theorem int_lt {a b : Nat} (h : a < b) : decide ((a : Int) < (b : Int)) = true := decide_eq_true (by omega)
/-- two whole numbers told alike -/
theorem eqV {i j : Int} : decide (V.int i = V.int j) = decide (i = j) := by
  by_cases h : i = j
  · rw [h, decide_eq_true rfl, decide_eq_true rfl]
  · rw [decide_eq_false h, decide_eq_false (fun e => h (V.int.inj e))]
theorem if_true_of {c : Bool} {A B : Prop} (hc : c = true) (h : A) : if c = true then A else B := by
  rw [if_pos hc]
  exact h
theorem if_false_of {c : Bool} {A B : Prop} (hc : c = false) (h : B) : if c = true then A else B := by
  rw [hc, if_neg Bool.false_ne_true]
  exact h
theorem abs_lt {a b : Nat} (h : a < 2 ^ b) : ((a : Nat) : Int).natAbs < 2 ^ b := by
  rw [Int.natAbs_natCast]
  exact h
/-- numbers below 2^512 multiply well -/
theorem mul512 {a b : Nat} (ha : a < 2 ^ 512) (hb : b < 2 ^ 512) : CMulW (a : Int) (b : Int) := wide_mul (abs_lt ha) (abs_lt hb) (by decide) (by decide) (by decide)
theorem bits_lt {n k : Nat} : decide (((Builtin.Int.intBits (n : Int) : Nat) : Int) < ((k + 1 : Nat) : Int)) = decide (n < 2 ^ k) := by
  have q : Builtin.Int.intBits (n : Int) < k + 1 ↔ n < 2 ^ k := by
    unfold Builtin.Int.intBits
    by_cases h : n = 0
    · subst h
      simp
      exact Nat.two_pow_pos k
    · have e : ((n : Int) == 0) = false := by simpa using h
      rw [e]
      simp only [Bool.false_eq_true, if_false, Int.natAbs_natCast]
      rw [Nat.add_lt_add_iff_right, Nat.log2_lt h]
  by_cases c : n < 2 ^ k
  · rw [decide_eq_true c, decide_eq_true (by have := q.mpr c; omega)]
  · rw [decide_eq_false c, decide_eq_false (fun z => c (q.mp (by omega)))]
end Tl

/-! ## TRes -/
namespace Tl
open PySem PySem.Spec PyProof.Rows L2
variable {P : Program} {w : World} {K : PySem.W.Frag} {mg : Str → Option Value} {base : Heap}
/-! ### number_of -/
abbrev sNum : Stmt := top 1
theorem scNum : FnScope ["row", "number", "byte"] ["row"] (defScope sNum) := ⟨rfl, rfl, rfl, by decide +kernel, rfl, by decide +kernel, by decide +kernel⟩
def spNum (K : PySem.W.Frag) : Sp := fun vs H Q _ => ∃ (a : Addr) (ns : List Nat), vs = [.ref a] ∧ SqL K H a (nV ns) ∧ Q (.int ((Ks184Neutral.number ns : Nat) : Int)) H
theorem ok_num {f : Addr} {fd : FuncData} (F : Fun K "number_of" "number_of" sNum f fd) : FnOk P w K mg base CX0 1 f fd ["row"] (spNum K) := by
  refine F.ok scNum (fun vs H Q E h => ?_) (fun cdv A outer s H vs Q E hr h => ?_)
  · obtain ⟨a, ns, rfl, _⟩ := h
    rfl
  · obtain ⟨a, ns, rfl, hS, q⟩ := h
    refine ⟨_, pss_cons (ps_set (i := 1) scNum.nd rfl (Or.inl rfl) pe_int)
      (pss_cons (ps_for PassesOwn.never rfl (pi_list (pv 0)) (pg_name (i := 2) scNum.nd rfl (Or.inl rfl))
        (pss_one (ps_set (i := 1) scNum.nd rfl (Or.inl rfl) (pe_op op_add (pe_op op_mul (pv 1) pe_int) (pv 2)))))
      (pss_one (ps_ret (pv 1)))), ?_⟩
    refine ⟨_, rfl, a, rfl, ⟨_, hS⟩, for_list (K := K) (a := a) (xs := nV ns) (fun i σ H' => ∃ v : Option V, σ = [some (.ref a), some (.int ((Ks184Neutral.number (ns.take i) : Nat) : Int)), v] ∧ H' = H)
      ⟨none, rfl, rfl⟩ (fun i σ H' _ ⟨_, _, e⟩ => e ▸ hS) ?_ ?_⟩
    · rintro i y σ H' hi ⟨v, rfl, rfl⟩
      obtain ⟨z, hz, rfl⟩ := nV_get hi
      refine ⟨_, rfl, _, _, rfl, rfl, .inr ⟨by decide, by decide⟩, _, rfl, _, _, rfl, rfl, ?_⟩
      refine ⟨some (.int z), ?_, rfl⟩
      rw [take_more hz, Tm.number_snoc]
      have e : ((Ks184Neutral.number (ns.take i) : Nat) : Int) * 256 + (z : Int) = ((256 * Ks184Neutral.number (ns.take i) + z : Nat) : Int) := by omega
      rw [← e]
      rfl
    · rintro σ H' ⟨v, rfl, rfl⟩
      refine ⟨_, rfl, ?_⟩
      rw [List.length_map, take_all]
      exact q
/-! ### bytes_of -/
abbrev sByt : Stmt := top 3
theorem scByt : FnScope ["number", "shift"] ["number"] (defScope sByt) := ⟨rfl, rfl, rfl, by decide +kernel, rfl, by decide +kernel, by decide +kernel⟩
/-- a new list -/
def NewL (H : Hp) (Q : VK) (xs : List V) : Prop := ∀ (H' : Hp) (p : Addr), Same H H' → H p = none → H' p = some (.lst xs) → Q (.ref p) H'
def spByt : Sp := fun vs H Q _ => ∃ (y : Nat), vs = [.int (y : Int)] ∧ NewL H Q (nV (Ks184Neutral.bytesOf y))
theorem ok_byt {f : Addr} {fd : FuncData} (F : Fun K "bytes_of" "bytes_of" sByt f fd) (mR : mg "range" = none) : FnOk P w K mg base CX0 1 f fd ["number"] spByt := by
  refine F.ok scByt (fun vs H Q E h => ?_) (fun cdv A outer s H vs Q E hr h => ?_)
  · obtain ⟨y, rfl, _⟩ := h
    rfl
  · obtain ⟨y, rfl, q⟩ := h
    refine ⟨_, pss_one (ps_ret (pe_lc (own := [("shift", 1)]) (g := gName 1) (tt := tYes) rfl scByt.nd
      (pi_range3 rfl mR (pa_cons pe_int (pa_cons (pe_un un_neg pe_int) (pa_cons (pe_un un_neg pe_int) pa_nil))))
      (blkOk_by (N := ["number", "shift"]) (sc := defScope sByt) (by decide +kernel))
      (fun _ _ _ _ _ => pg_name (i := 1) scByt.nd rfl (Or.inl rfl)) (fun _ _ _ _ _ => pts_nil)
      (fun _ _ _ _ _ => pe_op op_andM (pe_op op_shrN (pv 0) (pv 1)) pe_int))), ?_⟩
    refine ⟨_, rfl, _, rfl, 504, -1, -8, 64, rfl, ⟨by decide, by decide, by decide +kernel, by decide +kernel⟩, fun D hD => ?_⟩
    refine lc_it (walk_rangeC (lo := 504) (c := -8) (n := 64)) (fun i H' => Same H H' ∧ H' D = some (.lst ((nV (Ks184Neutral.bytesOf y)).take i)))
      ⟨fun b o e => by rw [upd_ne (ne_of_none e hD)]; exact e, upd_same⟩ (fun _ _ _ _ => trivial) ?_ ?_
    · rintro i x H1 H2 hi ⟨hs, h1⟩ ⟨rfl, rfl⟩
      refine ⟨rfl, _, rfl, _, rfl, (y : Int), 504 - 8 * i, rfl, congrArg V.int (by omega), _, 8, rfl, rfl, ?_⟩
      refine ⟨_, h1, ?_, fun b o e => ?_, ?_⟩
      · exact Nat.lt_of_le_of_lt (List.length_take_le ..) (Nat.lt_of_lt_of_le hi (by decide))
      · rw [upd_ne (ne_of_none e hD)]
        exact hs b o e
      · rw [upd_same]
        have g : (nV (Ks184Neutral.bytesOf y))[i]? = some (V.int ((y / 256 ^ (63 - i) % 256 : Nat) : Int)) := nV_at (Tm.bytesOf_get hi)
        rw [take_more g, ← Tm.byte_shift hi]
        have e : ((y / 2 ^ (504 - 8 * i) % 256 : Nat) : Int) = (y : Int) / 2 ^ (504 - 8 * i) % 2 ^ 8 := by
          rw [Int.natCast_emod, Int.natCast_ediv, Int.natCast_pow]
          rfl
        rw [e]
    · rintro H1 ⟨hs, h1⟩
      refine q H1 D hs hD ?_
      rw [h1, List.take_of_length_le (by rw [List.length_map, Tm.bytesOf_length]; exact Nat.le_refl _)]
/-! ### is_small -/
abbrev sSml : Stmt := top 4
theorem scSml : FnScope ["number", "n"] ["number", "n"] (defScope sSml) := ⟨rfl, rfl, rfl, by decide +kernel, rfl, by decide +kernel, by decide +kernel⟩
def spSml : Sp := fun vs H Q _ => ∃ (a n : Nat), vs = [.int (a : Int), .int (n : Int)] ∧ Q (.bl (Ks184.small n a)) H
theorem ok_sml {f : Addr} {fd : FuncData} (F : Fun K "is_small" "is_small" sSml f fd) : FnOk P w K mg base CX0 1 f fd ["number", "n"] spSml := by
  refine F.ok scSml (fun vs H Q E h => ?_) (fun cdv A outer s H vs Q E hr h => ?_)
  · obtain ⟨a, n, rfl, _⟩ := h
    rfl
  · obtain ⟨a, n, rfl, q⟩ := h
    refine ⟨_, pss_one (ps_ret (pe_chain op_le op_le pe_int (pv 0) (pe_op op_fdiv (pe_op op_sub (pv 1) pe_int) pe_int))), ?_⟩
    refine ⟨_, rfl, _, _, rfl, rfl, _, rfl, ?_⟩
    rw [Tm.small_int] at q
    by_cases c : (1 : Int) ≤ (a : Int)
    · rw [decide_eq_true c] at q ⊢
      refine iteT ?_
      exact ⟨_, rfl, _, _, rfl, rfl, _, _, rfl, rfl, ⟨by decide, by decide⟩, _, _, rfl, rfl, q⟩
    · rw [decide_eq_false c] at q ⊢
      exact iteF q
/-! ### is_fit -/
abbrev sFit : Stmt := top 5
theorem scFit : FnScope ["n", "x", "k"] ["n", "x", "k"] (defScope sFit) := ⟨rfl, rfl, rfl, by decide +kernel, rfl, by decide +kernel, by decide +kernel⟩
def spFit : Sp := fun vs H Q _ => ∃ (n x k : Nat), vs = [.int (n : Int), .int (x : Int), .int (k : Int)] ∧ Q (.bl (Ks184.What.fit ⟨n, x, k⟩)) H
theorem ok_fit {f fS : Addr} {fd fdS : FuncData} (F : Fun K "is_fit" "is_fit" sFit f fd) (GS : FnOk P w K mg base CX0 1 fS fdS ["number", "n"] spSml) (mS : mg "is_small" = some (.ref fS)) (kS : PySem.W.keepIn K (.ref fS) = true) (bS : Binds K fdS ["number", "n"] []) :
    FnOk P w K mg base CX0 2 f fd ["n", "x", "k"] spFit := by
  refine F.ok scFit (fun vs H Q E h => ?_) (fun cdv A outer s H vs Q E hr h => ?_)
  · obtain ⟨n, x, k, rfl, _⟩ := h
    rfl
  · obtain ⟨n, x, k, rfl, q⟩ := h
    refine ⟨_, pss_cons (ps_if (PW.pt (pw_or (pt_cmpR op_eq (pe_op op_mod (pv 0) pe_int) pe_int (nomark _)) (pw_or1 (pt_cmpR op_lt (pe_bits (pv 0)) pe_int (nomark _))))) (pss_one (ps_ret pe_bl)) pss_nil)
      (pss_cons (ps_if (PW.pt (pw_or (pt_cmpR op_eq (pv 1) pe_int (nomark _)) (pw_or1 (pt_not (pt_val (pe_call GS hr rfl mS kS bS .nil pass0 (pa_cons (pv 1) (pa_cons (pv 0) pa_nil)))))))) (pss_one (ps_ret pe_bl)) pss_nil)
      (pss_one (ps_ret (pe_chain op_le op_le pe_int (pv 2) pe_int)))), ?_⟩
    have ef : ∀ b : Bool, (Ks184.What.fit ⟨n, x, k⟩ = true ↔ b = true) → Ks184.What.fit ⟨n, x, k⟩ = b := fun b z => Bool.eq_iff_iff.mpr z
    have fi := Tm.fit_iff ⟨n, x, k⟩
    dsimp only at fi
    refine ⟨_, rfl, _, _, rfl, rfl, (by show (0 : Int) < 2; decide), rfl, _, rfl, ?_⟩
    rw [eqV]
    by_cases c1 : (n : Int) % 2 = 0
    · refine if_true_of (decide_eq_true c1) ?_
      rw [ef false (by rw [fi]; constructor <;> (intro z; first | omega | cases z))] at q
      exact q
    · refine if_false_of (decide_eq_false c1) ?_
      refine ⟨_, rfl, _, rfl, _, _, rfl, rfl, _, rfl, ?_⟩
      have hb : decide (((Builtin.Int.intBits (n : Int) : Nat) : Int) < 505) = decide (n < 2 ^ 504) := bits_lt (n := n) (k := 504)
      rw [hb]
      by_cases c2 : n < 2 ^ 504
      · refine if_true_of (decide_eq_true c2) ?_
        rw [ef false (by rw [fi]; constructor <;> (intro z; first | omega | cases z))] at q
        exact q
      · refine if_false_of (decide_eq_false c2) ?_
        refine ⟨_, rfl, rfl, _, rfl, ?_⟩
        rw [eqV]
        by_cases c3 : (x : Int) = 1
        · refine if_true_of (decide_eq_true c3) ?_
          rw [ef false (by rw [fi]; constructor <;> (intro z; first | omega | cases z))] at q
          exact q
        · refine if_false_of (decide_eq_false c3) ?_
          refine ⟨_, rfl, _, rfl, x, n, rfl, _, rfl, ?_⟩
          cases c4 : Ks184.small n x with
          | false =>
            refine iteT ?_
            rw [ef false (by rw [fi, c4]; constructor <;> (intro z; first | (exact absurd z.2.2.1 (by decide)) | cases z))] at q
            exact q
          | true =>
            refine iteF ?_
            refine ⟨_, rfl, _, _, rfl, rfl, _, rfl, ?_⟩
            by_cases c5 : (1 : Int) ≤ (k : Int)
            · rw [decide_eq_true c5]
              refine iteT ?_
              refine ⟨_, _, rfl, rfl, ?_⟩
              rw [ef (decide ((k : Int) ≤ 20)) (by rw [fi, c4, decide_eq_true_eq]; constructor <;> (intro z; first | omega | (exact ⟨by omega, by omega, rfl, by omega, by omega, by omega⟩)))] at q
              exact q
            · rw [decide_eq_false c5]
              refine iteF ?_
              rw [ef false (by rw [fi]; constructor <;> (intro z; first | omega | cases z))] at q
              exact q
/-! ### face -/
abbrev sFac : Stmt := top 6
theorem scFac : FnScope ["number", "n", "rest"] ["number", "n"] (defScope sFac) := ⟨rfl, rfl, rfl, by decide +kernel, rfl, by decide +kernel, by decide +kernel⟩
def spFac : Sp := fun vs H Q _ => ∃ (a n : Nat), vs = [.int (a : Int), .int (n : Int)] ∧ 0 < n ∧ Q (.int ((Ks184.face n a : Nat) : Int)) H
theorem ok_fac {f : Addr} {fd : FuncData} (F : Fun K "face" "face" sFac f fd) (mM : mg "min" = none) : FnOk P w K mg base CX0 1 f fd ["number", "n"] spFac := by
  refine F.ok scFac (fun vs H Q E h => ?_) (fun cdv A outer s H vs Q E hr h => ?_)
  · obtain ⟨a, n, rfl, _⟩ := h
    rfl
  · obtain ⟨a, n, rfl, hn, q⟩ := h
    refine ⟨_, pss_cons (ps_set (i := 2) scFac.nd rfl (Or.inl rfl) (pe_op op_mod (pv 0) (pv 1)))
      (pss_one (ps_ret (pe_callB (call_min2 rfl) (by rfl) mM (by decide +kernel) (pa_cons (pv 2) (pa_cons (pe_op op_sub (pv 1) (pv 2)) pa_nil))))), ?_⟩
    refine ⟨_, rfl, _, rfl, _, _, rfl, rfl, (by omega : (0 : Int) < (n : Int)), ?_⟩
    refine ⟨_, rfl, _, rfl, _, rfl, _, _, rfl, rfl, _, _, rfl, ?_⟩
    rw [← Int.natCast_emod, Tm.face_int hn]
    exact q
/-! ### raised -/
abbrev sRai : Stmt := top 7
theorem scRai : FnScope ["number", "times", "n", "reached", "turn"] ["number", "times", "n"] (defScope sRai) := ⟨rfl, rfl, rfl, by decide +kernel, rfl, by decide +kernel, by decide +kernel⟩
def spRai : Sp := fun vs H Q _ => ∃ (a t n : Nat), vs = [.int (a : Int), .int (t : Int), .int (n : Int)] ∧ 0 < n ∧ n < 2 ^ 512 ∧ t < 2 ^ 62 ∧ Q (.int ((Ks184.raised n a t : Nat) : Int)) H
theorem ok_rai {f : Addr} {fd : FuncData} (F : Fun K "raised" "raised" sRai f fd) (mR : mg "range" = none) : FnOk P w K mg base CX0 1 f fd ["number", "times", "n"] spRai := by
  refine F.ok scRai (fun vs H Q E h => ?_) (fun cdv A outer s H vs Q E hr h => ?_)
  · obtain ⟨a, t, n, rfl, _⟩ := h
    rfl
  · obtain ⟨a, t, n, rfl, hn, hn2, ht, q⟩ := h
    have hnI : (0 : Int) < (n : Int) := by omega
    refine ⟨_, pss_cons (ps_set (i := 3) scRai.nd rfl (Or.inl rfl) (pe_op op_mod (pv 0) (pv 2)))
      (pss_cons (ps_for PassesOwn.never rfl (pi_range1 rfl mR (pa_cons (pv 1) pa_nil)) (pg_name (i := 4) scRai.nd rfl (Or.inl rfl))
        (pss_one (ps_set (i := 3) scRai.nd rfl (Or.inl rfl) (pe_op op_mod (pe_op op_mulW (pv 3) (pv 3)) (pv 2)))))
      (pss_one (ps_ret (pv 3)))), ?_⟩
    refine ⟨_, rfl, _, rfl, _, _, rfl, rfl, hnI, ?_⟩
    refine ⟨_, rfl, (t : Int), rfl, by omega, by omega, for_range (n := t) (fun i σ H' => ∃ v : Option V, σ = [some (.int (a : Int)), some (.int (t : Int)), some (.int (n : Int)), some (.int ((Ks184.raised n a i : Nat) : Int)), v] ∧ H' = H) ⟨none, ?_, rfl⟩ ?_ ?_⟩
    · rw [Tm.raised_zero, Int.natCast_emod]
      rfl
    · rintro i σ H' hi ⟨v, rfl, rfl⟩
      have hl : Ks184.raised n a i < 2 ^ 512 := Nat.lt_trans (Tm.raised_lt hn) hn2
      refine ⟨_, rfl, _, rfl, _, _, rfl, rfl, mul512 hl hl, _, rfl, _, _, rfl, rfl, hnI, ?_⟩
      refine ⟨some (.int (0 + (i : Nat))), ?_, rfl⟩
      rw [Tm.raised_succ, Int.natCast_emod, Int.natCast_mul]
      rfl
    · rintro σ H' ⟨v, rfl, rfl⟩
      exact ⟨_, rfl, q⟩
/-! ### power -/
abbrev sPow : Stmt := top 8
theorem scPow : FnScope ["number", "exponent", "n", "reached", "square", "rest"] ["number", "exponent", "n"] (defScope sPow) := ⟨rfl, rfl, rfl, by decide +kernel, rfl, by decide +kernel, by decide +kernel⟩
def spPow : Sp := fun vs H Q _ => ∃ (a e n : Nat), vs = [.int (a : Int), .int (e : Int), .int (n : Int)] ∧ 1 < n ∧ n < 2 ^ 512 ∧ e < 2 ^ 520 ∧ Q (.int ((Ks184.power n a e : Nat) : Int)) H
theorem ok_pow {f : Addr} {fd : FuncData} (F : Fun K "power" "power" sPow f fd) : FnOk P w K mg base CX0 1 f fd ["number", "exponent", "n"] spPow := by
  refine F.ok scPow (fun vs H Q E h => ?_) (fun cdv A outer s H vs Q E hr h => ?_)
  · obtain ⟨a, e, n, rfl, _⟩ := h
    rfl
  · obtain ⟨a, e, n, rfl, hn, hn2, he, q⟩ := h
    rw [Tm.power_eq he] at q
    have hnI : (0 : Int) < (n : Int) := by omega
    refine ⟨_, pss_cons (ps_set (i := 3) scPow.nd rfl (Or.inl rfl) (pe_op op_mod pe_int (pv 2)))
      (pss_cons (ps_set (i := 4) scPow.nd rfl (Or.inl rfl) (pe_op op_mod (pv 0) (pv 2)))
      (pss_cons (ps_set (i := 5) scPow.nd rfl (Or.inl rfl) (pv 1))
      (pss_cons (ps_while PassesOwn.never (pt_cmpR op_gt (pv 5) pe_int (nomark _))
        (pss_cons (ps_if (pt_cmpR op_eq (pe_op op_mod (pv 5) pe_int) pe_int (nomark _)) (pss_one (ps_set (i := 3) scPow.nd rfl (Or.inl rfl) (pe_op op_mod (pe_op op_mulW (pv 3) (pv 4)) (pv 2)))) pss_nil)
        (pss_cons (ps_set (i := 4) scPow.nd rfl (Or.inl rfl) (pe_op op_mod (pe_op op_mulW (pv 4) (pv 4)) (pv 2)))
        (pss_one (ps_set (i := 5) scPow.nd rfl (Or.inl rfl) (pe_op op_fdiv (pv 5) pe_int))))))
      (pss_one (ps_ret (pv 3)))))), ?_⟩
    refine ⟨_, rfl, _, _, rfl, rfl, hnI, _, rfl, _, rfl, _, _, rfl, rfl, hnI, _, rfl, ?_⟩
    let St := fun (r s c : Nat) => ([some (.int (a : Int)), some (.int (e : Int)), some (.int (n : Int)), some (.int (r : Int)), some (.int (s : Int)), some (.int (c : Int))] : L2.St)
    refine ⟨fun m σ H' => ∃ r s c : Nat, σ = St r s c ∧ H' = H ∧ r < n ∧ s < n ∧ r * s ^ c % n = a ^ e % n ∧ m = c, ⟨e, 1 % n, a % n, e, ?_, rfl, Nat.mod_lt _ (by omega), Nat.mod_lt _ (by omega), Tm.turn_start n a e, rfl⟩, ?_⟩
    · show _ = [_, _, _, _, _, _]
      rw [Int.natCast_emod, Int.natCast_emod]
      rfl
    · rintro m σ H' ⟨r, s', c, rfl, rfl, hr', hs', inv, rfl⟩
      refine ⟨_, rfl, _, _, rfl, rfl, _, rfl, ?_⟩
      by_cases c0 : m = 0
      · subst c0
        refine if_false_of (decide_eq_false (by decide)) ?_
        refine ⟨_, rfl, ?_⟩
        rw [Tm.turn_end hr'] at inv
        rw [inv]
        exact q
      · refine if_true_of (decide_eq_true (by omega)) ?_
        refine ⟨fun σ H'' => ∃ r s c : Nat, σ = St r s c ∧ H'' = H' ∧ r < n ∧ s < n ∧ r * s ^ c % n = a ^ e % n ∧ c < m, fun σ H'' ⟨r, s, c, e1, e2, e3, e4, e5, e6⟩ => ⟨c, e6, r, s, c, e1, e2, e3, e4, e5, rfl⟩, ?_⟩
        have s512 : s' < 2 ^ 512 := Nat.lt_trans hs' hn2
        have r512 : r < 2 ^ 512 := Nat.lt_trans hr' hn2
        have fin : ∀ r2 : Nat, r2 < n → r2 * (s' * s' % n) ^ (m / 2) % n = a ^ e % n → ∃ r s c : Nat, ([some (.int (a : Int)), some (.int (e : Int)), some (.int (n : Int)), some (.int (r2 : Int)), some (.int ((s' : Int) * (s' : Int) % (n : Int))), some (.int ((m : Int) / 2))] : L2.St) = St r s c ∧ H' = H' ∧ r < n ∧ s < n ∧ r * s ^ c % n = a ^ e % n ∧ c < m := fun r2 h2 h3 => by
          refine ⟨r2, s' * s' % n, m / 2, ?_, rfl, h2, Nat.mod_lt _ (by omega), h3, by omega⟩
          show _ = [_, _, _, _, _, _]
          rw [Int.natCast_emod, Int.natCast_mul, Int.natCast_ediv]
          rfl
        refine ⟨_, rfl, _, _, rfl, rfl, (by show (0 : Int) < 2; decide), rfl, _, rfl, ?_⟩
        rw [eqV]
        by_cases c1 : m % 2 = 1
        · refine if_true_of (decide_eq_true (by omega)) ?_
          refine ⟨_, rfl, _, rfl, _, _, rfl, rfl, mul512 r512 s512, _, rfl, _, _, rfl, rfl, hnI, ?_⟩
          refine ⟨_, rfl, _, rfl, _, _, rfl, rfl, mul512 s512 s512, _, rfl, _, _, rfl, rfl, hnI, ?_⟩
          refine ⟨_, rfl, _, _, rfl, rfl, ⟨by decide, by decide⟩, ?_⟩
          have z := fin (r * s' % n) (Nat.mod_lt _ (by omega)) ((Tm.turn_odd c1).trans inv)
          rw [Int.natCast_emod, Int.natCast_mul] at z
          exact z
        · refine if_false_of (decide_eq_false (by omega)) ?_
          refine ⟨_, rfl, _, rfl, _, _, rfl, rfl, mul512 s512 s512, _, rfl, _, _, rfl, rfl, hnI, ?_⟩
          refine ⟨_, rfl, _, _, rfl, rfl, ⟨by decide, by decide⟩, ?_⟩
          exact fin r hr' ((Tm.turn_even c1).trans inv)
/-! ### pad -/
abbrev sPad : Stmt := top 9
theorem scPad : FnScope ["number", "row", "i"] ["number"] (defScope sPad) := ⟨rfl, rfl, rfl, by decide +kernel, rfl, by decide +kernel, by decide +kernel⟩
def spPad : Sp := fun vs H Q _ => ∃ (y : Nat), vs = [.int (y : Int)] ∧ NewL H Q (nV (Ks184Neutral.given.mix y))
theorem mix_length (y : Nat) : (Ks184Neutral.given.mix y).length = 32 := by simp [Ks184Neutral.given]
theorem mix_get {y i : Nat} (h : i < 32) : (Ks184Neutral.given.mix y)[i]? = some ((y / 256 ^ (63 - i) % 256 + y / 256 ^ (63 - (32 + i)) % 256) % 256) := by
  have g1 := Tm.bytesOf_get (y := y) (i := i) (by omega)
  have g2 := Tm.bytesOf_get (y := y) (i := 32 + i) (by omega)
  simp only [Ks184Neutral.given, List.getElem?_map, List.getElem?_range h, Option.map_some, List.getD_eq_getElem?_getD, g1, g2, Option.getD_some]
theorem ok_pad {f fB : Addr} {fd fdB : FuncData} (F : Fun K "pad" "pad" sPad f fd) (GB : FnOk P w K mg base CX0 1 fB fdB ["number"] spByt) (mB : mg "bytes_of" = some (.ref fB)) (kB : PySem.W.keepIn K (.ref fB) = true) (bB : Binds K fdB ["number"] []) (mR : mg "range" = none) :
    FnOk P w K mg base CX0 2 f fd ["number"] spPad := by
  refine F.ok scPad (fun vs H Q E h => ?_) (fun cdv A outer s H vs Q E hr h => ?_)
  · obtain ⟨y, rfl, _⟩ := h
    rfl
  · obtain ⟨y, rfl, q⟩ := h
    refine ⟨_, pss_cons (ps_set (i := 1) scPad.nd rfl (Or.inr rfl) (pe_call GB hr rfl mB kB bB .nil pass0 (pa_cons (pv 0) pa_nil)))
      (pss_one (ps_ret (pe_lc (own := [("i", 2)]) (g := gName 2) (tt := tYes) rfl scPad.nd (pi_range1 rfl mR (pa_cons pe_int pa_nil))
      (blkOk_by (N := ["number", "row", "i"]) (sc := defScope sPad) (by decide +kernel))
      (fun _ _ _ _ _ => pg_name (i := 2) scPad.nd rfl (Or.inl rfl)) (fun _ _ _ _ _ => pts_nil)
      (fun _ _ _ _ _ => pe_op op_mod (pe_op op_add (pe_ix (r := rIxL K) ix_list (pv 1) (pv 2) (fun _ _ => rfl)) (pe_ix (r := rIxL K) ix_list (pv 1) (pe_op op_add pe_int (pv 2)) (fun _ _ => rfl))) pe_int)))), ?_⟩
    refine ⟨_, rfl, y, rfl, fun H0 r s0 hr0 hr1 => ?_⟩
    refine ⟨32, rfl, by decide, by decide, fun D hD => ?_⟩
    refine lc_it (walk_range (lo := 0) (n := 32)) (fun i H' => Same H0 H' ∧ H' D = some (.lst ((nV (Ks184Neutral.given.mix y)).take i)))
      ⟨fun b o e => by rw [upd_ne (ne_of_none e hD)]; exact e, upd_same⟩ (fun _ _ _ _ => trivial) ?_ ?_
    · rintro i x H1 H2 hi ⟨hs, h1⟩ ⟨rfl, rfl⟩
      have hrow := hs _ _ hr1
      have g1 : (nV (Ks184Neutral.bytesOf y))[i]? = some (V.int ((y / 256 ^ (63 - i) % 256 : Nat) : Int)) := nV_at (Tm.bytesOf_get (by omega))
      have g2 : (nV (Ks184Neutral.bytesOf y))[32 + i]? = some (V.int ((y / 256 ^ (63 - (32 + i)) % 256 : Nat) : Int)) := nV_at (Tm.bytesOf_get (by omega))
      refine ⟨rfl, _, rfl, _, rfl, r, _, _, _, rfl, rfl, SqL.of hrow, at_of (Int.zero_add _) g1, ?_⟩
      refine ⟨_, rfl, _, rfl, _, _, rfl, rfl, r, _, _, _, rfl, rfl, SqL.of hrow, at_of (by omega) g2, ?_⟩
      refine ⟨_, _, rfl, rfl, _, _, rfl, rfl, (by show (0 : Int) < 256; decide), ?_⟩
      refine ⟨_, h1, ?_, fun b o e => ?_, ?_⟩
      · exact Nat.lt_of_le_of_lt (List.length_take_le ..) (Nat.lt_of_lt_of_le hi (by decide))
      · rw [upd_ne (ne_of_none e hD)]
        exact hs b o e
      · rw [upd_same, take_more (nV_at (mix_get hi))]
        rfl
    · rintro H1 ⟨hs, h1⟩
      refine q H1 D (s0.trans hs) (s0.free hD) ?_
      rw [h1, List.take_of_length_le (by rw [List.length_map, mix_length]; exact Nat.le_refl _)]
end Tl

/-! ## TRead -/
namespace Tl
open PySem PySem.Spec PyProof.Rows L2
variable {P : Program} {w : World} {K : PySem.W.Frag} {mg : Str → Option Value} {base : Heap}
/-! ### the reader: how it lies in the heap -/
abbrev iV (l : List Int) : List V := l.map V.int
theorem lk_here {k : Str} {v : V} {r : List (Str × V)} : List.lookup k ((k, v) :: r) = some v := by
  have e : (k == k) = true := beq_self_eq_true k
  simp only [List.lookup, e]
theorem lk_past {k g : Str} {v : V} {r : List (Str × V)} (h : (k == g) = false) : List.lookup k ((g, v) :: r) = List.lookup k r := by
  simp only [List.lookup, h]
theorem put_here {f : Str} {v x : V} {r : List (Str × V)} : putF f v ((f, x) :: r) = (f, v) :: r := if_pos rfl
theorem put_past {f g : Str} {v x : V} {r : List (Str × V)} (h : ¬ g = f) : putF f v ((g, x) :: r) = (g, x) :: putF f v r := if_neg h
def rF (L : Addr) (p : Nat) : List (Str × V) := [("calls", .ref L), ("place", .int (p : Int))]
theorem rF_calls (L : Addr) (p : Nat) : (rF L p).lookup ("calls" : Str) = some (.ref L) := lk_here
theorem rF_place (L : Addr) (p : Nat) : (rF L p).lookup ("place" : Str) = some (.int (p : Int)) := (lk_past (by decide +kernel)).trans lk_here
theorem rF_other (L : Addr) (p : Nat) {m : Str} (h1 : (m == ("calls" : Str)) = false) (h2 : (m == ("place" : Str)) = false) : (rF L p).lookup m = none := (lk_past h1).trans ((lk_past h2).trans rfl)
theorem rF_put (L : Addr) (p q : Nat) : putF "place" (.int (q : Int)) (rF L p) = rF L q := (put_past (by decide +kernel)).trans (congrArg _ put_here)
theorem rF_new (L : Addr) : putF "place" (.int 0) (putF "calls" (.ref L) []) = rF L 0 := (put_past (by decide +kernel)).trans rfl
/-- a reader of the list l, which lies at L, at a; s is what is still to be read -/
def RdAt (C L : Addr) (l : List Int) (H : Hp) (a : Addr) (s : List Int) : Prop := ∃ (dx : Addr) (p : Nat), H a = some (.ins C dx (rF L p)) ∧ p ≤ l.length ∧ l.drop p = s
/-- all but a stands as it was -/
def Fr (a : Addr) (H H' : Hp) : Prop := ∀ b o, H b = some o → b ≠ a → H' b = some o
theorem Fr.trans {a : Addr} {H H1 H2 : Hp} (x : Fr a H H1) (y : Fr a H1 H2) : Fr a H H2 := fun b o e n => y b o (x b o e n) n
theorem Fr.same {a : Addr} {H H1 H2 : Hp} (x : Fr a H H1) (y : Same H1 H2) : Fr a H H2 := fun b o e n => y b o (x b o e n)
theorem Fr.upd (a : Addr) (H : Hp) (o : HO) : Fr a H (upd H a o) := fun b o' e n => by
  rw [upd_ne n]
  exact e
theorem Fr.seq {a : Addr} {H H' : Hp} {C dx : Addr} {fs : List (Str × V)} {L : Addr} {xs : List V} (f : Fr a H H') (h : H a = some (.ins C dx fs)) (q : SqL K H L xs) : SqL K H' L xs := by
  rcases q with (q | ⟨o, q⟩) | q
  · exact .inl (.inl (f _ _ q (ne_of q h (by intro z; cases z))))
  · exact .inl (.inr ⟨o, f _ _ q (ne_of q h (by intro z; cases z))⟩)
  · exact .inr q
/-- an object that is no instance is another one -/
theorem RdAt.new {C L : Addr} {l : List Int} {H : Hp} {a p : Addr} {s : List Int} (h : RdAt C L l H a s) (hp : H p = none) : p ≠ a := by
  obtain ⟨dx, k, h1, _⟩ := h
  intro e
  subst e
  rw [hp] at h1
  cases h1
theorem RdAt.same {C L : Addr} {l : List Int} {H H' : Hp} {a : Addr} {s : List Int} (h : RdAt C L l H a s) (e : Same H H') : RdAt C L l H' a s := by
  obtain ⟨dx, k, h1, h2⟩ := h
  exact ⟨dx, k, e _ _ h1, h2⟩
theorem RdAt.seq {C L : Addr} {l : List Int} {H H' : Hp} {a : Addr} {s : List Int} {xs : List V} {M : Addr} (h : RdAt C L l H a s) (f : Fr a H H') (q : SqL K H M xs) : SqL K H' M xs := by
  obtain ⟨dx, k, h1, h2⟩ := h
  exact f.seq h1 q
structure TxtR (K : PySem.W.Frag) (C : Addr) : Prop where
  cl : Cls K C
  nC : NoAttr K C "calls"
  nP : NoAttr K C "place"
/-! ### the reader's methods -/
abbrev sRin : Stmt := inClass (top 13) 0
abbrev sMor : Stmt := inClass (top 13) 1
abbrev sWho : Stmt := inClass (top 13) 2
abbrev sRow : Stmt := inClass (top 13) 3
abbrev sNbr : Stmt := inClass (top 13) 4
theorem scRin : FnScope ["self", "calls"] ["self", "calls"] (defScope sRin) := ⟨rfl, rfl, rfl, by decide +kernel, rfl, by decide +kernel, by decide +kernel⟩
theorem scMor : FnScope ["self"] ["self"] (defScope sMor) := ⟨rfl, rfl, rfl, by decide +kernel, rfl, by decide +kernel, by decide +kernel⟩
theorem scWho : FnScope ["self", "found"] ["self"] (defScope sWho) := ⟨rfl, rfl, rfl, by decide +kernel, rfl, by decide +kernel, by decide +kernel⟩
theorem scRow : FnScope ["self", "length", "start"] ["self"] (defScope sRow) := ⟨rfl, rfl, rfl, by decide +kernel, rfl, by decide +kernel, by decide +kernel⟩
theorem scNbr : FnScope ["self"] ["self"] (defScope sNbr) := ⟨rfl, rfl, rfl, by decide +kernel, rfl, by decide +kernel, by decide +kernel⟩
/-- __init__ -/
def spRin (C : Addr) : Sp := fun vs H Q _ => ∃ (a dx L : Addr), vs = [.ref a, .ref L] ∧ H a = some (.ins C dx []) ∧ ∀ (H' : Hp), (∀ l : List Int, RdAt C L l H' a l) → Fr a H H' → Q .non H'
theorem ok_rin {C f : Addr} {fd : FuncData} (F : Fun K "__init__" "Reader.__init__" sRin f fd) (T : TxtR K C) : FnOk P w K mg base CX0 1 f fd ["self", "calls"] (spRin C) := by
  refine F.ok scRin (fun vs H Q E h => ?_) (fun cdv A outer s H vs Q E hr h => ?_)
  · obtain ⟨a, dx, L, rfl, _⟩ := h
    rfl
  · obtain ⟨a, dx, L, rfl, ha, q⟩ := h
    refine ⟨_, pss_cons (ps_fld (pv 0) (pv 1) rfl) (pss_one (ps_fld (pv 0) pe_int rfl)), ?_⟩
    refine ⟨_, rfl, _, rfl, a, C, dx, [], rfl, ha, T.cl, T.nC, (by show 0 < 1000; decide), ?_⟩
    refine ⟨_, rfl, a, C, dx, _, rfl, upd_same, T.cl, T.nP, (by show 1 < 1000; decide), ?_⟩
    have e : ∀ l : List Int, RdAt C L l (upd (upd H a (.ins C dx (putF "calls" (.ref L) []))) a (.ins C dx (putF "place" (.int 0) (putF "calls" (.ref L) [])))) a l := fun l => ⟨dx, 0, Eq.trans upd_same (congrArg (fun q => some (HO.ins C dx q)) (rF_new L)), Nat.zero_le _, rfl⟩
    exact q _ e ((Fr.upd _ _ _).trans (Fr.upd _ _ _))
/-- more -/
def spMor (K : PySem.W.Frag) (C : Addr) : Sp := fun vs H Q _ => ∃ (a L : Addr) (l s : List Int), vs = [.ref a] ∧ RdAt C L l H a s ∧ SqL K H L (iV l) ∧ Q (.bl (!s.isEmpty)) H
theorem ok_mor {C f : Addr} {fd : FuncData} (F : Fun K "more" "Reader.more" sMor f fd) (T : TxtR K C) (mL : mg "len" = none) : FnOk P w K mg base CX0 1 f fd ["self"] (spMor K C) := by
  refine F.ok scMor (fun vs H Q E h => ?_) (fun cdv A outer s H vs Q E hr h => ?_)
  · obtain ⟨a, L, l, r, rfl, _⟩ := h
    rfl
  · obtain ⟨a, L, l, r, rfl, ⟨dx, p, ha, hp, hd⟩, hS, q⟩ := h
    refine ⟨_, pss_one (ps_ret (pe_cmpR op_lt (pe_fld (pv 0) rfl) (pe_callB call_len_seq (by rfl) mL PySem.boot_len (pa_cons (pe_fld (pv 0) rfl) pa_nil)) (nomark _))), ?_⟩
    refine ⟨_, rfl, a, C, dx, _, _, rfl, ha, T.cl, T.nP, rF_place _ _, _, rfl, a, C, dx, _, _, rfl, ha, T.cl, T.nC, rF_calls _ _, L, _, rfl, .inl hS, _, _, rfl, rfl, ?_⟩
    have e : decide ((p : Int) < ((iV l).length : Int)) = !r.isEmpty := by
      rw [List.length_map, ← hd, Bool.eq_iff_iff, decide_eq_true_eq]
      simp only [Bool.not_eq_true', List.isEmpty_eq_false_iff, ne_eq, List.drop_eq_nil_iff]
      omega
    rw [← e] at q
    exact q
/-- whole -/
def spWho (K : PySem.W.Frag) (C : Addr) : Sp := fun vs H Q _ => ∃ (a L : Addr) (l s : List Int) (z : Int), vs = [.ref a] ∧ RdAt C L l H a (z :: s) ∧ SqL K H L (iV l) ∧ ∀ H' : Hp, RdAt C L l H' a s → Fr a H H' → Q (.int z) H'
theorem drop_cons {l s : List Int} {z : Int} {p : Nat} (h : l.drop p = z :: s) : l[p]? = some z ∧ l.drop (p + 1) = s ∧ p + 1 ≤ l.length := by
  have h1 : p < l.length := by
    rcases Nat.lt_or_ge p l.length with c | c
    · exact c
    · rw [List.drop_eq_nil_of_le c] at h
      cases h
  rw [List.drop_eq_getElem_cons h1] at h
  injection h with e1 e2
  refine ⟨?_, e2, h1⟩
  rw [List.getElem?_eq_getElem h1, e1]
theorem ok_who {C f : Addr} {fd : FuncData} (F : Fun K "whole" "Reader.whole" sWho f fd) (T : TxtR K C) : FnOk P w K mg base CX0 1 f fd ["self"] (spWho K C) := by
  refine F.ok scWho (fun vs H Q E h => ?_) (fun cdv A outer s H vs Q E hr h => ?_)
  · obtain ⟨a, L, l, r, z, rfl, _⟩ := h
    rfl
  · obtain ⟨a, L, l, r, z, rfl, ⟨dx, p, ha, hp, hd⟩, hS, q⟩ := h
    obtain ⟨d1, d2, d3⟩ := drop_cons hd
    refine ⟨_, pss_cons (ps_set (i := 1) scWho.nd rfl (Or.inl rfl) (pe_ix ix_list (pe_fld (pv 0) rfl) (pe_fld (pv 0) rfl) (fun _ _ => rfl)))
      (pss_cons (ps_fldaug (pv 0) pe_int in_add)
      (pss_one (ps_ret (pv 1)))), ?_⟩
    refine ⟨_, rfl, a, C, dx, _, _, rfl, ha, T.cl, T.nC, rF_calls _ _, _, rfl, a, C, dx, _, _, rfl, ha, T.cl, T.nP, rF_place _ _, L, _, _, .int z, rfl, rfl, hS, ?_, ?_⟩
    · refine atI_nat ?_
      rw [List.getElem?_map, d1]
      rfl
    · refine ⟨_, rfl, a, C, dx, _, _, rfl, ha, T.cl, T.nP, rF_place _ _, _, _, rfl, rfl, dx, _, ha, (by show 2 < 1000; decide), ?_⟩
      refine ⟨_, rfl, q _ ⟨dx, p + 1, Eq.trans upd_same (congrArg (fun q => some (HO.ins C dx q)) (rF_put L p (p + 1))), d3, d2⟩ (Fr.upd _ _ _)⟩
/-- row -/
def spRow (K : PySem.W.Frag) (C : Addr) : Sp := fun vs H Q _ => ∃ (a L : Addr) (l s t r : List Int), vs = [.ref a] ∧ RdAt C L l H a s ∧ SqL K H L (iV l) ∧ PyFlat.row s = some (r, t) ∧
  ∀ (H' : Hp) (p : Addr), RdAt C L l H' a t → Fr a H H' → H p = none → H' p = some (.lst (iV r)) → Q (.ref p) H'
theorem row_cons {s t r : List Int} (h : PyFlat.row s = some (r, t)) : ∃ (n : Nat) (u : List Int), s = (n : Int) :: u ∧ n ≤ u.length ∧ r = u.take n ∧ t = u.drop n := by
  cases s with
  | nil => cases h
  | cons z u =>
    unfold PyFlat.row at h
    dsimp only at h
    by_cases c : 0 ≤ z ∧ z.toNat ≤ u.length
    · rw [if_pos c] at h
      cases h
      exact ⟨z.toNat, u, by rw [Int.toNat_of_nonneg c.1], c.2, rfl, rfl⟩
    · rw [if_neg c] at h
      cases h
theorem cut_nat {xs : List V} {i j : Nat} (h : i ≤ j) (hj : j ≤ xs.length) : cutV xs (some (i : Int)) (some (j : Int)) = (xs.drop i).take (j - i) := by
  unfold cutV
  rw [HT.sIx_nat, HT.sIx_nat, Nat.min_eq_left hj, Nat.min_eq_left (Nat.le_trans h hj)]
theorem ok_row {C f fW : Addr} {fd fdW : FuncData} (F : Fun K "row" "Reader.row" sRow f fd) (T : TxtR K C) (GW : FnOk P w K mg base CX0 1 fW fdW ["self"] (spWho K C)) (mW : Meth K C "whole" fW) (bW : Binds K fdW ["self"] []) :
    FnOk P w K mg base CX0 2 f fd ["self"] (spRow K C) := by
  refine F.ok scRow (fun vs H Q E h => ?_) (fun cdv A outer s H vs Q E hr h => ?_)
  · obtain ⟨a, L, l, r, z, _, rfl, _⟩ := h
    rfl
  · obtain ⟨a, L, l, r0, t, r, rfl, hR, hS, hrow, q⟩ := h
    obtain ⟨n, u, rfl, hn, rfl, rfl⟩ := row_cons hrow
    refine ⟨_, pss_cons (ps_set (i := 1) scRow.nd rfl (Or.inl rfl) (pe_meth0 (pv 0) T.cl mW GW hr bW .nil pass0))
      (pss_cons (ps_set (i := 2) scRow.nd rfl (Or.inl rfl) (pe_fld (pv 0) rfl))
      (pss_cons (ps_fld (pv 0) (pe_op op_add (pv 2) (pv 1)) rfl)
      (pss_one (ps_ret (pe_slice sl_list (pe_fld (pv 0) rfl) (po_some (pv 2)) (po_some (pe_fld (pv 0) rfl))))))), ?_⟩
    have hR0 := hR
    obtain ⟨dx, p, ha, hp, hd⟩ := hR
    refine ⟨_, rfl, a, dx, _, rfl, ha, rF_other _ _ (by decide +kernel) (by decide +kernel), a, L, l, u, (n : Int), rfl, hR0, hS, fun H1 hR1 f1 => ?_⟩
    have hS1 := hR0.seq f1 hS
    obtain ⟨dx1, p1, ha1, hp1, hd1⟩ := hR1
    have hlen : p1 + n ≤ l.length := by
      have e := congrArg List.length hd1
      rw [List.length_drop] at e
      omega
    refine ⟨_, rfl, a, C, dx1, _, _, rfl, ha1, T.cl, T.nP, rF_place _ _, ?_⟩
    refine ⟨_, rfl, _, rfl, _, _, rfl, rfl, _, rfl, a, C, dx1, _, rfl, ha1, T.cl, T.nP, (by show 2 < 1000; decide), ?_⟩
    have e2 : upd H1 a (.ins C dx1 (putF "place" (.int ((p1 : Int) + (n : Int))) (rF L p1))) a = some (.ins C dx1 (rF L (p1 + n))) := Eq.trans upd_same (congrArg (fun q => some (HO.ins C dx1 q)) (rF_put L p1 (p1 + n)))
    have f2 : Fr a H1 (upd H1 a (.ins C dx1 (putF "place" (.int ((p1 : Int) + (n : Int))) (rF L p1)))) := Fr.upd _ _ _
    have hR2 : RdAt C L l (upd H1 a (.ins C dx1 (putF "place" (.int ((p1 : Int) + (n : Int))) (rF L p1)))) a (u.drop n) := ⟨dx1, p1 + n, e2, hlen, by rw [← hd1, List.drop_drop]⟩
    refine ⟨_, rfl, a, C, dx1, _, _, rfl, e2, T.cl, T.nC, rF_calls _ _, _, rfl, _, rfl, _, rfl, a, C, dx1, _, _, rfl, e2, T.cl, T.nP, rF_place _ _, _, rfl, L, _, rfl, f2.seq ha1 hS1, fun D hD => ?_⟩
    have hDa : D ≠ a := hR2.new hD
    have hDH : H D = none := by
      cases e : H D with
      | none => rfl
      | some o =>
        have := f2 _ _ (f1 _ _ e hDa) hDa
        rw [hD] at this
        cases this
    refine q _ D (hR2.same fun b o e => ?_) ((f1.trans f2).same fun b o e => ?_) hDH ?_
    · rw [upd_ne (ne_of_none e hD)]
      exact e
    · rw [upd_ne (ne_of_none e hD)]
      exact e
    · rw [upd_same]
      have e3 : cutV (iV l) (some (p1 : Int)) (some ((p1 + n : Nat) : Int)) = iV (u.take n) := by
        rw [cut_nat (Nat.le_add_right _ _) (by rw [List.length_map]; exact hlen), Nat.add_sub_cancel_left, ← List.map_drop, hd1, ← List.map_take]
      exact congrArg (fun x => some (HO.lst x)) e3
/-- number -/
def spNbr (K : PySem.W.Frag) (C : Addr) : Sp := fun vs H Q _ => ∃ (a L : Addr) (l s t r : List Int), vs = [.ref a] ∧ RdAt C L l H a s ∧ SqL K H L (iV l) ∧ PyFlat.row s = some (r, t) ∧ (∀ z ∈ r, (0 : Int) ≤ z) ∧
  ∀ H' : Hp, RdAt C L l H' a t → Fr a H H' → Q (.int ((Ks184Neutral.number (Ks184Neutral.nats r) : Nat) : Int)) H'
theorem iV_nats {r : List Int} (h : ∀ z ∈ r, (0 : Int) ≤ z) : iV r = nV (Ks184Neutral.nats r) := by
  unfold iV nV Ks184Neutral.nats
  rw [List.map_map]
  refine List.map_congr_left fun z hz => ?_
  show V.int z = V.int ((z.toNat : Nat) : Int)
  rw [Int.toNat_of_nonneg (h z hz)]
theorem ok_nbr {C f fR fN : Addr} {fd fdR fdN : FuncData} (F : Fun K "number" "Reader.number" sNbr f fd) (T : TxtR K C) (GR : FnOk P w K mg base CX0 2 fR fdR ["self"] (spRow K C)) (mR : Meth K C "row" fR) (bR : Binds K fdR ["self"] [])
    (GN : FnOk P w K mg base CX0 1 fN fdN ["row"] (spNum K)) (mN : mg "number_of" = some (.ref fN)) (kN : PySem.W.keepIn K (.ref fN) = true) (bN : Binds K fdN ["row"] []) : FnOk P w K mg base CX0 3 f fd ["self"] (spNbr K C) := by
  refine F.ok scNbr (fun vs H Q E h => ?_) (fun cdv A outer s H vs Q E hr h => ?_)
  · obtain ⟨a, L, l, r, z, _, rfl, _⟩ := h
    rfl
  · obtain ⟨a, L, l, r0, t, r, rfl, hR, hS, hrow, hz, q⟩ := h
    refine ⟨_, pss_one (ps_ret (pe_call GN (hr.mono (by decide)) rfl mN kN bN .nil pass0 (pa_cons (pe_meth0 (pv 0) T.cl mR GR hr bR .nil pass0) pa_nil))), ?_⟩
    have hR0 := hR
    obtain ⟨dx, p, ha, hp, hd⟩ := hR
    refine ⟨_, rfl, a, dx, _, rfl, ha, rF_other _ _ (by decide +kernel) (by decide +kernel), a, L, l, r0, t, r, rfl, hR0, hS, hrow, fun H1 D hR1 f1 hD h1 => ?_⟩
    rw [iV_nats hz] at h1
    exact ⟨D, _, rfl, SqL.of h1, q _ hR1 f1⟩
end Tl

/-! ## TTold -/
namespace Tl
open PySem PySem.Spec PyProof.Rows L2
variable {P : Program} {w : World} {K : PySem.W.Frag} {mg : Str → Option Value} {base : Heap}
theorem Same.put {H : Hp} {p : Addr} {o : HO} (hp : H p = none) : Same H (upd H p o) := fun b o' e => by
  rw [upd_ne (ne_of_none e hp)]
  exact e
/-- a list that was new stays out of what was tracked -/
theorem Same.put2 {H H1 : Hp} {p : Addr} {o : HO} (s : Same H H1) (hp : H p = none) : Same H (upd H1 p o) := fun b o' e => by
  rw [upd_ne (ne_of_none e hp)]
  exact s _ _ e
theorem iV_ints (l : List Nat) : iV (Ks184Neutral.ints l) = nV l := by
  unfold iV nV Ks184Neutral.ints
  rw [List.map_map]
  rfl
/-! ### told -/
abbrev sTol : Stmt := top 16
theorem scTol : FnScope ["answered", "asked", "numbers", "thing"] ["answered", "asked"] (defScope sTol) := ⟨rfl, rfl, rfl, by decide +kernel, rfl, by decide +kernel, by decide +kernel⟩
def spTol : Sp := fun vs H Q _ => ∃ (a b : Addr) (xs : List V) (qs : List Addr) (yss : List (List V)), vs = [.ref a, .ref b] ∧ H a = some (.lst xs) ∧ H b = some (.lst (qs.map V.ref)) ∧ qs.length = yss.length ∧
  (∀ (i : Nat) (q : Addr) (ys : List V), qs[i]? = some q → yss[i]? = some ys → H q = some (.lst ys)) ∧ xs.length + 1 + yss.flatten.length ≤ sizeLine ∧ NewL H Q (xs ++ [.int (qs.length : Int)] ++ yss.flatten)
theorem flatten_take {α : Type} {yss : List (List α)} {i : Nat} {ys : List α} (h : yss[i]? = some ys) : (yss.take (i + 1)).flatten = (yss.take i).flatten ++ ys := by
  rw [take_more h, List.flatten_append]
  simp
theorem flatten_take_le {α : Type} (yss : List (List α)) (i : Nat) : (yss.take i).flatten.length ≤ yss.flatten.length := by
  conv => rhs; rw [← List.take_append_drop i yss]
  rw [List.flatten_append, List.length_append]
  exact Nat.le_add_right ..
theorem ok_tol {f : Addr} {fd : FuncData} (F : Fun K "told" "told" sTol f fd) (mL : mg "len" = none) : FnOk P w K mg base CX0 1 f fd ["answered", "asked"] spTol := by
  refine F.ok scTol (fun vs H Q E h => ?_) (fun cdv A outer s H vs Q E hr h => ?_)
  · obtain ⟨a, b, xs, qs, yss, rfl, _⟩ := h
    rfl
  · obtain ⟨a, b, xs, qs, yss, rfl, ha, hb, hl, hq, hz, q⟩ := h
    refine ⟨_, pss_cons (ps_set (i := 2) scTol.nd rfl (Or.inl rfl) (pe_op op_cat (pv 0) (pe_lst (pa_cons (pe_callB call_len_seq (by rfl) mL PySem.boot_len (pa_cons (pv 1) pa_nil)) pa_nil))))
      (pss_cons (ps_for PassesOwn.never rfl (pi_list (pv 1)) (pg_name (i := 3) scTol.nd rfl (Or.inl rfl))
        (pss_one (ps_expr (pe_bm PySem.F.plainAttrs_list PySem.F.slot_list_extend PySem.F.type_list_extend mt_extend (pv 2) (pa_cons (pv 3) pa_nil)))))
      (pss_one (ps_ret (pv 2)))), ?_⟩
    refine ⟨_, rfl, _, rfl, b, _, rfl, .inl (SqL.of hb), (by show 1 ≤ sizeLine; decide), fun p1 h1 => ?_⟩
    have s1 : Same H (upd H p1 (.lst [V.int ((qs.map V.ref).length : Int)])) := Same.put h1
    refine ⟨a, p1, xs, _, rfl, rfl, s1 _ _ ha, upd_same, (by show xs.length + 1 ≤ sizeLine; omega), fun p2 h2 => ?_⟩
    have n2 : H p2 = none := s1.free h2
    have s2 : Same H (upd (upd H p1 (.lst [V.int ((qs.map V.ref).length : Int)])) p2 (.lst (xs ++ [V.int ((qs.map V.ref).length : Int)]))) := s1.trans (Same.put h2)
    refine ⟨_, rfl, b, rfl, ⟨_, SqL.of (s2 _ _ hb)⟩, for_list (K := K) (a := b) (xs := qs.map V.ref) (fun i σ H' => ∃ v : Option V, σ = [some (.ref a), some (.ref b), some (.ref p2), v] ∧ Same H H' ∧ H' p2 = some (.lst (xs ++ [.int (qs.length : Int)] ++ (yss.take i).flatten)))
      ⟨none, rfl, s2, ?_⟩ (fun i σ H' _ ⟨_, _, s3, _⟩ => SqL.of (s3 _ _ hb)) ?_ ?_⟩
    · rw [upd_same, List.length_map]
      simp
    · rintro i y σ H' hi ⟨v, rfl, s3, h3⟩
      have hi2 : i < qs.length := by
        rcases Nat.lt_or_ge i qs.length with c | c
        · exact c
        · rw [List.getElem?_eq_none (by rw [List.length_map]; exact c)] at hi
          cases hi
      have e1 : qs[i]? = some qs[i] := List.getElem?_eq_getElem hi2
      have e2 : yss[i]? = some (yss[i]'(by omega)) := List.getElem?_eq_getElem (by omega)
      rw [List.getElem?_map, e1] at hi
      obtain rfl : V.ref qs[i] = y := Option.some.inj hi
      have h4 := hq i _ _ e1 e2
      have f1 := flatten_take e2
      have f2 := flatten_take_le yss (i + 1)
      refine ⟨_, rfl, .inl ⟨rfl, _, SqL.of h3⟩, _, rfl, p2, _, _, _, rfl, rfl, h3, s3 _ _ h4, ?_, ?_⟩
      · rw [f1, List.length_append] at f2
        rw [List.length_append, List.length_append, List.length_singleton]
        omega
      · refine ⟨some (.ref qs[i]), rfl, Same.put2 s3 n2, ?_⟩
        rw [upd_same, f1, List.append_assoc]
    · rintro σ H' ⟨v, rfl, s3, h3⟩
      refine ⟨_, rfl, q H' p2 s3 n2 ?_⟩
      rw [h3, List.length_map, hl, take_all]
/-! ### padded -/
abbrev sPdd : Stmt := top 17
theorem scPdd : FnScope ["row", "number", "mixed", "byte", "mask"] ["row", "number"] (defScope sPdd) := ⟨rfl, rfl, rfl, by decide +kernel, rfl, by decide +kernel, by decide +kernel⟩
def paddedAns (l : List Nat) (y : Nat) : List Int := 0 :: (Ks184Neutral.ints (Ks184.xor l (Ks184Neutral.given.mix y)) ++ (1 :: 1 :: Ks184Neutral.bytes64 y))
def spPdd (K : PySem.W.Frag) : Sp := fun vs H Q _ => ∃ (a : Addr) (l : List Nat) (y : Nat), vs = [.ref a, .int (y : Int)] ∧ SqL K H a (nV l) ∧ l.length = 32 ∧ NewL H Q (iV (paddedAns l y))
theorem xor_get {l m : List Nat} {i x y : Nat} (h1 : l[i]? = some x) (h2 : m[i]? = some y) : (Ks184.xor l m)[i]? = some (x ^^^ y) := by
  unfold Ks184.xor
  rw [List.getElem?_zipWith, h1, h2]
theorem xor_length (l m : List Nat) : (Ks184.xor l m).length = min l.length m.length := by
  unfold Ks184.xor
  rw [List.length_zipWith]
theorem ok_pdd {f fP fT fB : Addr} {fd fdP fdT fdB : FuncData} (F : Fun K "padded" "padded" sPdd f fd) (GP : FnOk P w K mg base CX0 2 fP fdP ["number"] spPad) (mP : mg "pad" = some (.ref fP)) (kP : PySem.W.keepIn K (.ref fP) = true) (bP : Binds K fdP ["number"] [])
    (GT : FnOk P w K mg base CX0 1 fT fdT ["answered", "asked"] spTol) (mT : mg "told" = some (.ref fT)) (kT : PySem.W.keepIn K (.ref fT) = true) (bT : Binds K fdT ["answered", "asked"] [])
    (GB : FnOk P w K mg base CX0 1 fB fdB ["number"] spByt) (mB : mg "bytes_of" = some (.ref fB)) (kB : PySem.W.keepIn K (.ref fB) = true) (bB : Binds K fdB ["number"] []) (mZ : mg "zip" = none) : FnOk P w K mg base CX0 3 f fd ["row", "number"] (spPdd K) := by
  refine F.ok scPdd (fun vs H Q E h => ?_) (fun cdv A outer s H vs Q E hr h => ?_)
  · obtain ⟨a, l, y, rfl, _⟩ := h
    rfl
  · obtain ⟨a, l, y, rfl, hS, hl, q⟩ := h
    have hr1 : Room 1 _ := hr.mono (by decide)
    refine ⟨_, pss_cons (ps_setLc (i := 2) (own := [("byte", 3), ("mask", 4)]) (g := gTup K 2 (gCons (gName 3) (gCons (gName 4) gNil))) (tt := tYes) (by rfl) scPdd.nd rfl rfl (sw_true rfl rfl rfl (by decide +kernel))
        (pi_zip (by rfl) mZ (pa_cons (pv 0) (pa_cons (pe_call GP hr rfl mP kP bP .nil pass0 (pa_cons (pv 1) pa_nil)) pa_nil)))
        (blkOk_by (N := ["row", "number", "mixed", "byte", "mask"]) (sc := defScope sPdd) (by decide +kernel))
        (fun _ _ _ _ _ => pg_tup rfl (pgs_cons (pg_name (i := 3) scPdd.nd rfl (Or.inl rfl)) (pgs_cons (pg_name (i := 4) scPdd.nd rfl (Or.inl rfl)) pgs_nil)))
        (fun _ _ _ _ _ => pts_nil) (fun _ _ _ _ _ => pe_op op_xor (pv 3) (pv 4)))
      (pss_one (ps_ret (pe_call GT hr1 rfl mT kT bT .nil pass0 (pa_cons (pe_op op_cat (pe_lst (pa_cons pe_int pa_nil)) (pv 2))
        (pa_cons (pe_lst (pa_cons (pe_op op_cat (pe_lst (pa_cons pe_int pa_nil)) (pe_call GB hr1 rfl mB kB bB .nil pass0 (pa_cons (pv 1) pa_nil))) pa_nil)) pa_nil))))), ?_⟩
    refine ⟨_, rfl, _, rfl, y, rfl, fun H0 pm s0 n0 h0 => ?_⟩
    refine ⟨a, pm, _, _, rfl, s0.seq hS, SqL.of h0, fun D hD => ?_⟩
    have ml := mix_length y
    have hn : (32 : Nat) = min (nV l).length (nV (Ks184Neutral.given.mix y)).length := by
      rw [List.length_map, List.length_map, ml, hl]
      rfl
    refine lc_it (walk_zip (K := K) (a := a) (b := pm) (xs := nV l) (ys := nV (Ks184Neutral.given.mix y)) hn) (fun i H' => Same H0 H' ∧ H' D = some (.lst ((nV (Ks184.xor l (Ks184Neutral.given.mix y))).take i)))
      ⟨Same.put hD, upd_same⟩ (fun i H' _ ⟨s3, _⟩ => ⟨(s0.trans s3).seq hS, SqL.of (s3 _ _ h0)⟩) ?_ ?_
    · rintro i x H1 H2 hi ⟨s3, h3⟩ ⟨T, u, v, rfl, hT, rfl, hu, hv⟩
      obtain ⟨zu, eu, rfl⟩ := nV_get hu
      obtain ⟨zv, ev, rfl⟩ := nV_get hv
      have hTD : T ≠ D := by
        intro e
        subst e
        rw [hT] at h3
        cases h3
      refine ⟨T, _, rfl, SqT.of upd_same, rfl, _, _, rfl, _, _, rfl, rfl, rfl, _, rfl, _, rfl, _, _, rfl, rfl, _, (upd_ne (Ne.symm hTD)).trans h3, ?_, Same.put2 (s3.trans (Same.put hT)) hD, ?_⟩
      · exact Nat.lt_of_le_of_lt (List.length_take_le ..) (Nat.lt_of_lt_of_le hi (by decide))
      · rw [upd_same, take_more (nV_at (xor_get eu ev))]
        show some (HO.lst (_ ++ [V.int (Builtin.bitXor (zu : Int) (zv : Int))])) = _
        rw [Bits.bitXor_pp (Int.natCast_nonneg _) (Int.natCast_nonneg _)]
        rfl
    · rintro H1 ⟨s3, h3⟩
      rw [List.take_of_length_le (by rw [List.length_map, xor_length, hl, ml]; decide)] at h3
      have nD : H D = none := s0.free hD
      have sH1 : Same H H1 := s0.trans s3
      refine ⟨(by show 1 ≤ sizeLine; decide), fun p1 h1 => ?_⟩
      have s4 := Same.put (o := .lst [V.int 0]) h1
      have lx : (nV (Ks184.xor l (Ks184Neutral.given.mix y))).length = 32 := by
        rw [List.length_map, xor_length, hl, ml]
        rfl
      refine ⟨_, rfl, p1, D, _, _, rfl, rfl, upd_same, s4 _ _ h3, ?_, fun p2 h2 => ?_⟩
      · rw [lx]
        decide
      have s5 := Same.put (o := .lst ([V.int 0] ++ nV (Ks184.xor l (Ks184Neutral.given.mix y)))) h2
      refine ⟨(by show 1 ≤ sizeLine; decide), fun p3 h3' => ?_⟩
      have s6 := Same.put (o := .lst [V.int 1]) h3'
      refine ⟨_, rfl, y, rfl, fun H7 p4 s7 n4 h4 => ?_⟩
      have lb : (nV (Ks184Neutral.bytesOf y)).length = 64 := by rw [List.length_map, Tm.bytesOf_length]
      refine ⟨p3, p4, _, _, rfl, rfl, s7 _ _ upd_same, h4, ?_, fun p5 h5 => ?_⟩
      · rw [lb]
        decide
      have s8 := Same.put (o := .lst ([V.int 1] ++ nV (Ks184Neutral.bytesOf y))) h5
      refine ⟨(by show 1 ≤ sizeLine; decide), fun p6 h6 => ?_⟩
      have s9 := Same.put (o := .lst [V.ref p5]) h6
      refine ⟨p2, p6, _, [p5], [[V.int 1] ++ nV (Ks184Neutral.bytesOf y)], rfl, s9 _ _ (s8 _ _ (s7 _ _ (s6 _ _ upd_same))), upd_same, rfl, ?_, ?_, ?_⟩
      · intro i q0 ys e1 e2
        cases i with
        | zero =>
          cases e1
          cases e2
          exact s9 _ _ upd_same
        | succ i => cases e1
      · rw [List.length_append, lx]
        simp only [List.flatten_cons, List.flatten_nil, List.append_nil, List.length_append, lb]
        decide
      · intro H' p sP nP hP
        have sAll : Same H (upd (upd H7 p5 (.lst ([V.int 1] ++ nV (Ks184Neutral.bytesOf y)))) p6 (.lst [V.ref p5])) := ((((sH1.trans s4).trans s5).trans s6).trans s7).trans (s8.trans s9)
        refine q H' p (sAll.trans sP) (sAll.free nP) ?_
        rw [hP]
        refine congrArg (fun x => some (HO.lst x)) ?_
        unfold paddedAns
        show _ = V.int 0 :: iV (Ks184Neutral.ints (Ks184.xor l (Ks184Neutral.given.mix y)) ++ (1 :: 1 :: Ks184Neutral.ints (Ks184Neutral.bytesOf y)))
        rw [iV, List.map_append]
        show _ = V.int 0 :: (iV (Ks184Neutral.ints (Ks184.xor l (Ks184Neutral.given.mix y))) ++ (V.int 1 :: V.int 1 :: iV (Ks184Neutral.ints (Ks184Neutral.bytesOf y))))
        rw [iV_ints, iV_ints]
        simp
end Tl

/-! ## TLot -/
namespace Tl
open PySem PySem.Spec PyProof.Rows L2
variable {P : Program} {w : World} {K : PySem.W.Frag} {mg : Str → Option Value} {base : Heap}
/-! ### numbers_of -/
abbrev sNms : Stmt := top 2
theorem scNms : FnScope ["row", "start"] ["row"] (defScope sNms) := ⟨rfl, rfl, rfl, by decide +kernel, rfl, by decide +kernel, by decide +kernel⟩
def spNms (K : PySem.W.Frag) : Sp := fun vs H Q _ => ∃ (a : Addr) (l : List Nat), vs = [.ref a] ∧ SqL K H a (nV l) ∧ l.length % 64 = 0 ∧ l.length ≤ 1280 ∧ NewL H Q (nV (Ks184Neutral.numbers l))
/-- range(0, 64 m, 64) -/
theorem rgc64 {m : Nat} (h : m ≤ 20) : RgC 0 ((64 * m : Nat) : Int) 64 m := by
  have hs : Builtin.Range.rangeSize 0 ((64 * m : Nat) : Int) 64 = m := by
    unfold Builtin.Range.rangeSize
    rw [if_pos (by decide)]
    split <;> omega
  refine ⟨by decide, by decide, ?_, hs⟩
  have c : ∀ m : Nat, m ≤ 20 → Builtin.Range.small 0 ((64 * m : Nat) : Int) 64 = true := by decide +kernel
  exact c m h
theorem ok_nms {f fN : Addr} {fd fdN : FuncData} (F : Fun K "numbers_of" "numbers_of" sNms f fd) (GN : FnOk P w K mg base CX0 1 fN fdN ["row"] (spNum K)) (mN : mg "number_of" = some (.ref fN)) (kN : PySem.W.keepIn K (.ref fN) = true) (bN : Binds K fdN ["row"] [])
    (mR : mg "range" = none) (mL : mg "len" = none) : FnOk P w K mg base CX0 2 f fd ["row"] (spNms K) := by
  refine F.ok scNms (fun vs H Q E h => ?_) (fun cdv A outer s H vs Q E hr h => ?_)
  · obtain ⟨a, l, rfl, _⟩ := h
    rfl
  · obtain ⟨a, l, rfl, hS, hm, hl, q⟩ := h
    refine ⟨_, pss_one (ps_ret (pe_lc (own := [("start", 1)]) (g := gName 1) (tt := tYes) rfl scNms.nd
      (pi_range3 rfl mR (pa_cons pe_int (pa_cons (pe_callB call_len_seq (by rfl) mL PySem.boot_len (pa_cons (pv 0) pa_nil)) (pa_cons pe_int pa_nil))))
      (blkOk_by (N := ["row", "start"]) (sc := defScope sNms) (by decide +kernel))
      (fun _ _ _ _ _ => pg_name (i := 1) scNms.nd rfl (Or.inl rfl)) (fun _ _ _ _ _ => pts_nil)
      (fun _ _ _ _ _ => pe_call GN hr rfl mN kN bN .nil pass0 (pa_cons (pe_slice (r := rSlL K) sl_list (pv 0) (po_some (pv 1)) (po_some (pe_op op_add (pv 1) pe_int))) pa_nil)))), ?_⟩
    obtain ⟨m, em⟩ : ∃ m, l.length = 64 * m := ⟨l.length / 64, by omega⟩
    have en : (Ks184Neutral.numbers l).length = m := by
      rw [Tm.numbers_length]
      omega
    have elv : ((nV l).length : Int) = ((64 * m : Nat) : Int) := by rw [List.length_map, em]
    refine ⟨_, rfl, a, _, rfl, .inl hS, 0, ((nV l).length : Int), 64, m, rfl, ?_, fun D hD => ?_⟩
    · rw [elv]
      exact rgc64 (by omega)
    refine lc_it (walk_rangeC (lo := 0) (c := 64) (n := m)) (fun i H' => Same H H' ∧ H' D = some (.lst ((nV (Ks184Neutral.numbers l)).take i)))
      ⟨Same.put hD, upd_same⟩ (fun _ _ _ _ => trivial) ?_ ?_
    · rintro i x H1 H2 hi ⟨hs, h1⟩ ⟨rfl, rfl⟩
      have e0 : (0 : Int) + (i : Nat) * 64 = ((64 * i : Nat) : Int) := by omega
      refine ⟨rfl, _, rfl, _, rfl, _, rfl, _, rfl, _, _, rfl, rfl, _, rfl, a, nV l, rfl, hs.seq hS, fun p np => ?_⟩
      have s1 : Same H2 (upd H2 p (.lst (cutV (nV l) (some (0 + (i : Nat) * 64)) (some (0 + (i : Nat) * 64 + 64))))) := Same.put np
      refine ⟨p, (l.drop (64 * i)).take 64, rfl, SqL.of ?_, ?_⟩
      · rw [upd_same, e0, show ((64 * i : Nat) : Int) + 64 = ((64 * i + 64 : Nat) : Int) from rfl, cut_nat (by omega) (by rw [List.length_map]; omega)]
        refine congrArg (fun z => some (HO.lst z)) ?_
        rw [Nat.add_sub_cancel_left, ← List.map_drop, ← List.map_take]
      · have npD : p ≠ D := fun e => by
          subst e
          rw [np] at h1
          cases h1
        refine ⟨_, (s1 _ _ h1), ?_, Same.put2 (hs.trans s1) hD, ?_⟩
        · rw [List.length_take, List.length_map]
          exact Nat.lt_of_le_of_lt (Nat.min_le_right ..) (by rw [en]; show m < 16777216; omega)
        · rw [upd_same, take_more (nV_at (Tm.numbers_get (b := l) (i := i) (by omega)))]
    · rintro H1 ⟨hs, h1⟩
      refine q H1 D hs hD ?_
      rw [h1, List.take_of_length_le (by rw [List.length_map, en]; exact Nat.le_refl _)]
/-! ### lot -/
abbrev sLot : Stmt := top 10
theorem scLot : FnScope ["n", "a", "b", "c", "t"] ["n", "a", "b", "c", "t"] (defScope sLot) := ⟨rfl, rfl, rfl, by decide +kernel, rfl, by decide +kernel, by decide +kernel⟩
def spLot : Sp := fun vs H Q _ => ∃ (n a b c t : Nat), vs = [.int (n : Int), .int (a : Int), .int (b : Int), .int (c : Int), .int (t : Int)] ∧ Q (.int ((Ks184Neutral.given.lot n a b c t : Nat) : Int)) H
theorem ok_lot {f : Addr} {fd : FuncData} (F : Fun K "lot" "lot" sLot f fd) : FnOk P w K mg base CX0 1 f fd ["n", "a", "b", "c", "t"] spLot := by
  refine F.ok scLot (fun vs H Q E h => ?_) (fun cdv A outer s H vs Q E hr h => ?_)
  · obtain ⟨n, a, b, c, t, rfl, _⟩ := h
    rfl
  · obtain ⟨n, a, b, c, t, rfl, q⟩ := h
    refine ⟨_, pss_one (ps_ret (pe_op op_mod (pe_op op_add (pe_op op_add (pe_op op_add (pe_op op_add (pv 0) (pv 1)) (pe_op op_mul pe_int (pv 2))) (pe_op op_mul pe_int (pv 3))) (pe_op op_mul pe_int (pv 4))) (pe_op op_pow pe_int pe_int))), ?_⟩
    refine ⟨_, rfl, _, rfl, _, _, rfl, rfl, ?_⟩
    refine ⟨_, rfl, _, _, rfl, rfl, .inl ⟨by decide, by decide⟩, _, _, rfl, rfl, ?_⟩
    refine ⟨_, rfl, _, _, rfl, rfl, .inl ⟨by decide, by decide⟩, _, _, rfl, rfl, ?_⟩
    refine ⟨_, rfl, _, _, rfl, rfl, .inl ⟨by decide, by decide⟩, _, _, rfl, rfl, ?_⟩
    refine ⟨_, _, rfl, rfl, ⟨by decide, by decide, by decide⟩, ?_⟩
    refine ⟨_, _, rfl, rfl, (by show (0 : Int) < 2 ^ (32 : Int).toNat; decide), ?_⟩
    have e : ((n : Int) + (a : Int) + 3 * (b : Int) + 5 * (c : Int) + 7 * (t : Int)) % 4294967296 = ((Ks184Neutral.given.lot n a b c t : Nat) : Int) := by
      rw [Tm.lot_eq]
      omega
    rw [← e] at q
    exact q
end Tl

/-! ## TSeal -/
namespace Tl
open PySem PySem.Spec PyProof.Rows L2
variable {P : Program} {w : World} {K : PySem.W.Frag} {mg : Str → Option Value} {base : Heap}
/-- what a def of the module is called by -/
structure At (P : Program) (w : World) (K : PySem.W.Frag) (mg : Str → Option Value) (base : Heap) (name : Str) (k : Nat) (ps : List Str) (sp : Sp) (f : Addr) (fd : FuncData) : Prop where
  ok : FnOk P w K mg base CX0 k f fd ps sp
  nm : mg name = some (.ref f)
  kp : PySem.W.keepIn K (.ref f) = true
  bd : Binds K fd ps []
/-- a method of the class at C -/
structure MAt (P : Program) (w : World) (K : PySem.W.Frag) (mg : Str → Option Value) (base : Heap) (C : Addr) (name : Str) (k : Nat) (ps : List Str) (sp : Sp) (f : Addr) (fd : FuncData) : Prop where
  ok : FnOk P w K mg base CX0 k f fd ps sp
  me : Meth K C name f
  bd : Binds K fd ps []
/-! ### a short refusal: told([-c], []) -/
/-- the reading of told([x], []), once x is known -/
theorem told_one {H : Hp} {Q : VK} {c : Int} (q : NewL H Q (iV [c, 0])) : ∀ p1, H p1 = none → ∀ p2, upd H p1 (.lst [V.int c]) p2 = none → spTol [.ref p1, .ref p2] (upd (upd H p1 (.lst [V.int c])) p2 (.lst [])) Q E0 := by
  intro p1 h1 p2 h2
  have s1 := Same.put (o := .lst [V.int c]) h1
  have s2 := Same.put (o := .lst []) h2
  refine ⟨p1, p2, [V.int c], [], [], rfl, s2 _ _ upd_same, upd_same, rfl, ?_, (by show 2 ≤ sizeLine; decide), ?_⟩
  · intro i q0 ys e1 e2
    cases e1
  · intro H' p sP nP hP
    exact q H' p ((s1.trans s2).trans sP) ((s1.trans s2).free nP) hP
/-! ### seal -/
abbrev sSea : Stmt := top 18
theorem scSea : FnScope ["k", "n", "x", "m", "letter", "exponent"] ["k", "n", "x", "m", "letter"] (defScope sSea) := ⟨rfl, rfl, rfl, by decide +kernel, rfl, by decide +kernel, by decide +kernel⟩
open Ks184 in
def sealAns (k n x m : Nat) (l : List Nat) : List Int := if What.fit ⟨n, x, k⟩ = false ∨ m = 0 then [-22, 0] else paddedAns l (What.quick ⟨n, x, k⟩ m)
def spSea (K : PySem.W.Frag) : Sp := fun vs H Q _ => ∃ (k n x m : Nat) (a : Addr) (l : List Nat), vs = [.int (k : Int), .int (n : Int), .int (x : Int), .int (m : Int), .ref a] ∧ n < 2 ^ 512 ∧ m < 2 ^ 512 ∧ SqL K H a (nV l) ∧ l.length = 32 ∧ NewL H Q (iV (sealAns k n x m l))
theorem ok_sea {f f1 f2 f3 f4 f5 f6 : Addr} {fd fd1 fd2 fd3 fd4 fd5 fd6 : FuncData} (F : Fun K "seal" "seal" sSea f fd) (A1 : At P w K mg base "is_fit" 2 ["n", "x", "k"] spFit f1 fd1) (A2 : At P w K mg base "told" 1 ["answered", "asked"] spTol f2 fd2)
    (A3 : At P w K mg base "raised" 1 ["number", "times", "n"] spRai f3 fd3) (A4 : At P w K mg base "power" 1 ["number", "exponent", "n"] spPow f4 fd4) (A5 : At P w K mg base "face" 1 ["number", "n"] spFac f5 fd5) (A6 : At P w K mg base "padded" 3 ["row", "number"] (spPdd K) f6 fd6) :
    FnOk P w K mg base CX0 4 f fd ["k", "n", "x", "m", "letter"] (spSea K) := by
  refine F.ok scSea (fun vs H Q E h => ?_) (fun cdv A outer s H vs Q E hr h => ?_)
  · obtain ⟨k, n, x, m, a, l, rfl, _⟩ := h
    rfl
  · obtain ⟨k, n, x, m, a, l, rfl, hn, hm, hS, hl, q⟩ := h
    have hr1 : Room 1 _ := hr.mono (by decide)
    refine ⟨_, pss_cons (ps_if (PW.pt (pw_or (pt_cmpR op_eq (pv 3) pe_int (nomark _)) (pw_or1 (pt_not (pt_val (pe_call A1.ok (hr.mono (by decide)) rfl A1.nm A1.kp A1.bd .nil pass0 (pa_cons (pv 1) (pa_cons (pv 2) (pa_cons (pv 0) pa_nil)))))))))
        (pss_one (ps_ret (pe_call A2.ok hr1 rfl A2.nm A2.kp A2.bd .nil pass0 (pa_cons (pe_lst (pa_cons (pe_un un_neg pe_int) pa_nil)) (pa_cons (pe_lst pa_nil) pa_nil))))) pss_nil)
      (pss_cons (ps_set (i := 5) scSea.nd rfl (Or.inl rfl) (pe_call A3.ok hr1 rfl A3.nm A3.kp A3.bd .nil pass0 (pa_cons pe_int (pa_cons (pv 0) (pa_cons (pv 3) pa_nil)))))
      (pss_one (ps_ret (pe_call A6.ok hr rfl A6.nm A6.kp A6.bd .nil pass0 (pa_cons (pv 4) (pa_cons (pe_call A5.ok hr1 rfl A5.nm A5.kp A5.bd .nil pass0
        (pa_cons (pe_call A4.ok hr1 rfl A4.nm A4.kp A4.bd .nil pass0 (pa_cons (pv 2) (pa_cons (pv 5) (pa_cons (pv 1) pa_nil)))) (pa_cons (pv 1) pa_nil))) pa_nil)))))), ?_⟩
    have no : (Ks184.What.fit ⟨n, x, k⟩ = false ∨ m = 0) → NewL H Q (iV [-22, 0]) := fun c => by
      unfold sealAns at q
      rw [if_pos c] at q
      exact q
    refine ⟨_, rfl, rfl, _, rfl, ?_⟩
    rw [eqV]
    by_cases c0 : m = 0
    · refine if_true_of (decide_eq_true (by omega)) ?_
      refine ⟨_, rfl, (by show 1 ≤ sizeLine; decide), fun p1 h1 => ⟨(by show 0 ≤ sizeLine; decide), fun p2 h2 => told_one (no (.inr c0)) p1 h1 p2 h2⟩⟩
    · refine if_false_of (decide_eq_false (by omega)) ?_
      refine ⟨_, rfl, _, rfl, _, rfl, n, x, k, rfl, _, rfl, ?_⟩
      cases c1 : Ks184.What.fit ⟨n, x, k⟩ with
      | false =>
        refine iteT ?_
        refine ⟨_, rfl, (by show 1 ≤ sizeLine; decide), fun p1 h1 => ⟨(by show 0 ≤ sizeLine; decide), fun p2 h2 => told_one (no (.inl c1)) p1 h1 p2 h2⟩⟩
      | true =>
        refine iteF ?_
        have fi := (Tm.fit_iff ⟨n, x, k⟩).mp c1
        dsimp only at fi
        obtain ⟨_, fn, _, _, _, fk⟩ := fi
        have n1 : 1 < n := Nat.lt_of_lt_of_le (by decide) fn
        have hq : NewL H Q (iV (paddedAns l (Ks184.What.quick ⟨n, x, k⟩ m))) := by
          unfold sealAns at q
          rw [if_neg (by rw [c1]; intro z; cases z with | inl z => cases z | inr z => exact c0 z)] at q
          exact q
        have er : Ks184.raised m 2 k < 2 ^ 512 := Nat.lt_trans (Tm.raised_lt (by omega)) hm
        refine ⟨_, rfl, _, rfl, 2, k, m, rfl, by omega, hm, by omega, ?_⟩
        refine ⟨_, rfl, _, rfl, _, rfl, _, rfl, x, Ks184.raised m 2 k, n, rfl, n1, hn, Nat.lt_trans er (by decide), ?_⟩
        refine ⟨_, rfl, Ks184.power n x (Ks184.raised m 2 k), n, rfl, by omega, ?_⟩
        exact ⟨a, l, Ks184.What.quick ⟨n, x, k⟩ m, rfl, hS, hl, hq⟩
end Tl

/-! ## TClaim -/
namespace Tl
open PySem PySem.Spec PyProof.Rows L2
variable {P : Program} {w : World} {K : PySem.W.Frag} {mg : Str → Option Value} {base : Heap}
/-! ### the claim: how it lies in the heap -/
def cF (n a b : Nat) (M : Addr) : List (Str × V) := [("n", .int (n : Int)), ("a", .int (a : Int)), ("b", .int (b : Int)), ("asked", .ref M)]
theorem cF_n (n a b : Nat) (M : Addr) : (cF n a b M).lookup ("n" : Str) = some (.int (n : Int)) := lk_here
theorem cF_a (n a b : Nat) (M : Addr) : (cF n a b M).lookup ("a" : Str) = some (.int (a : Int)) := (lk_past (by decide +kernel)).trans lk_here
theorem cF_b (n a b : Nat) (M : Addr) : (cF n a b M).lookup ("b" : Str) = some (.int (b : Int)) := (lk_past (by decide +kernel)).trans ((lk_past (by decide +kernel)).trans lk_here)
theorem cF_asked (n a b : Nat) (M : Addr) : (cF n a b M).lookup ("asked" : Str) = some (.ref M) := (lk_past (by decide +kernel)).trans ((lk_past (by decide +kernel)).trans ((lk_past (by decide +kernel)).trans lk_here))
theorem cF_other (n a b : Nat) (M : Addr) {m : Str} (h0 : (m == ("n" : Str)) = false) (h1 : (m == ("a" : Str)) = false) (h2 : (m == ("b" : Str)) = false) (h3 : (m == ("asked" : Str)) = false) : (cF n a b M).lookup m = none :=
  (lk_past h0).trans ((lk_past h1).trans ((lk_past h2).trans ((lk_past h3).trans rfl)))
theorem cF_pa (n a b : Nat) (M : Addr) (m : Nat) : putF "a" (.int (m : Int)) (cF n a b M) = cF n m b M := (put_past (by decide +kernel)).trans (congrArg _ put_here)
theorem cF_pb (n a b : Nat) (M : Addr) (m : Nat) : putF "b" (.int (m : Int)) (cF n a b M) = cF n a m M := (put_past (by decide +kernel)).trans (congrArg _ ((put_past (by decide +kernel)).trans (congrArg _ put_here)))
theorem cN_n (n : Nat) : putF "n" (V.int (n : Int)) ([] : List (Str × V)) = ([("n", V.int (n : Int))] : List (Str × V)) := rfl
theorem cN_a (n a : Nat) : putF "a" (V.int (a : Int)) ([("n", V.int (n : Int))] : List (Str × V)) = ([("n", V.int (n : Int)), ("a", V.int (a : Int))] : List (Str × V)) := (put_past (by decide +kernel)).trans (congrArg _ rfl)
theorem cN_b (n a b : Nat) : putF "b" (V.int (b : Int)) ([("n", V.int (n : Int)), ("a", V.int (a : Int))] : List (Str × V)) = ([("n", V.int (n : Int)), ("a", V.int (a : Int)), ("b", V.int (b : Int))] : List (Str × V)) := (put_past (by decide +kernel)).trans (congrArg _ ((put_past (by decide +kernel)).trans (congrArg _ rfl)))
theorem cN_asked (n a b : Nat) (M : Addr) : putF "asked" (V.ref M) ([("n", V.int (n : Int)), ("a", V.int (a : Int)), ("b", V.int (b : Int))] : List (Str × V)) = cF n a b M := (put_past (by decide +kernel)).trans (congrArg _ ((put_past (by decide +kernel)).trans (congrArg _ ((put_past (by decide +kernel)).trans (congrArg _ rfl)))))
structure TxtC (K : PySem.W.Frag) (C : Addr) : Prop where
  cl : Cls K C
  nN : NoAttr K C "n"
  nA : NoAttr K C "a"
  nB : NoAttr K C "b"
  nQ : NoAttr K C "asked"
/-- one more store into the object -/
theorem ins_upd {H : Hp} {a C dx : Addr} {fs gs : List (Str × V)} (e : fs = gs) : upd H a (.ins C dx fs) a = some (.ins C dx gs) := by
  rw [upd_same, e]
/-- all but a and b stands as it was -/
def Fr2 (a b : Addr) (H H' : Hp) : Prop := ∀ c o, H c = some o → c ≠ a → c ≠ b → H' c = some o
theorem Fr2.trans {a b : Addr} {H H1 H2 : Hp} (x : Fr2 a b H H1) (y : Fr2 a b H1 H2) : Fr2 a b H H2 := fun c o e n m => y c o (x c o e n m) n m
theorem Fr2.upd1 (a b : Addr) (H : Hp) (o : HO) : Fr2 a b H (upd H a o) := fun c o' e n _ => by
  rw [upd_ne n]
  exact e
theorem Fr2.upd2 (a b : Addr) (H : Hp) (o : HO) : Fr2 a b H (upd H b o) := fun c o' e _ n => by
  rw [upd_ne n]
  exact e
theorem Fr2.of {a b : Addr} {H H' : Hp} (s : Same H H') : Fr2 a b H H' := fun c o e _ _ => s c o e
abbrev sCin : Stmt := inClass (top 14) 0
abbrev sHal : Stmt := inClass (top 14) 1
abbrev sHol : Stmt := inClass (top 14) 2
theorem scCin : FnScope ["self", "n", "a", "b"] ["self", "n", "a", "b"] (defScope sCin) := ⟨rfl, rfl, rfl, by decide +kernel, rfl, by decide +kernel, by decide +kernel⟩
theorem scHal : FnScope ["self", "c", "t", "r"] ["self", "c", "t"] (defScope sHal) := ⟨rfl, rfl, rfl, by decide +kernel, rfl, by decide +kernel, by decide +kernel⟩
theorem scHol : FnScope ["self"] ["self"] (defScope sHol) := ⟨rfl, rfl, rfl, by decide +kernel, rfl, by decide +kernel, by decide +kernel⟩
/-! ### __init__ -/
def spCin (C : Addr) : Sp := fun vs H Q _ => ∃ (p dx : Addr) (n a b : Nat), vs = [.ref p, .int (n : Int), .int (a : Int), .int (b : Int)] ∧ H p = some (.ins C dx []) ∧
  ∀ (H' : Hp) (M : Addr), H' p = some (.ins C dx (cF n a b M)) → H M = none → H' M = some (.lst []) → Fr p H H' → Q .non H'
theorem ok_cin {C f : Addr} {fd : FuncData} (F : Fun K "__init__" "Claim.__init__" sCin f fd) (T : TxtC K C) : FnOk P w K mg base CX0 1 f fd ["self", "n", "a", "b"] (spCin C) := by
  refine F.ok scCin (fun vs H Q E h => ?_) (fun cdv A outer s H vs Q E hr h => ?_)
  · obtain ⟨p, dx, n, a, b, rfl, _⟩ := h
    rfl
  · obtain ⟨p, dx, n, a, b, rfl, hp, q⟩ := h
    refine ⟨_, pss_cons (ps_fld (pv 0) (pv 1) rfl) (pss_cons (ps_fld (pv 0) (pv 2) rfl) (pss_cons (ps_fld (pv 0) (pv 3) rfl) (pss_one (ps_fld (pv 0) (pe_lst pa_nil) rfl)))), ?_⟩
    refine ⟨_, rfl, _, rfl, p, C, dx, [], rfl, hp, T.cl, T.nN, (by show 0 < 1000; decide), ?_⟩
    refine ⟨_, rfl, _, rfl, p, C, dx, _, rfl, ins_upd (cN_n n), T.cl, T.nA, (by show 1 < 1000; decide), ?_⟩
    refine ⟨_, rfl, _, rfl, p, C, dx, _, rfl, ins_upd (cN_a n a), T.cl, T.nB, (by show 2 < 1000; decide), ?_⟩
    refine ⟨(by show 0 ≤ sizeLine; decide), fun M nM => ?_⟩
    have g := ((Fr.upd p H (.ins C dx (putF "n" (V.int (n : Int)) []))).trans (Fr.upd p _ (.ins C dx (putF "a" (V.int (a : Int)) [("n", V.int (n : Int))])))).trans (Fr.upd p _ (.ins C dx (putF "b" (V.int (b : Int)) [("n", V.int (n : Int)), ("a", V.int (a : Int))])))
    have h3 : upd (upd (upd H p (.ins C dx (putF "n" (V.int (n : Int)) []))) p (.ins C dx (putF "a" (V.int (a : Int)) [("n", V.int (n : Int))]))) p (.ins C dx (putF "b" (V.int (b : Int)) [("n", V.int (n : Int)), ("a", V.int (a : Int))])) p = some (.ins C dx [("n", V.int (n : Int)), ("a", V.int (a : Int)), ("b", V.int (b : Int))]) := ins_upd (cN_b n a b)
    generalize upd (upd (upd H p (.ins C dx (putF "n" (V.int (n : Int)) []))) p (.ins C dx (putF "a" (V.int (a : Int)) [("n", V.int (n : Int))]))) p (.ins C dx (putF "b" (V.int (b : Int)) [("n", V.int (n : Int)), ("a", V.int (a : Int))])) = H3 at g h3 nM ⊢
    have pM : p ≠ M := ne_of_none h3 nM
    have nMH : H M = none := by
      cases e : H M with
      | none => rfl
      | some o =>
        have z := g _ _ e (Ne.symm pM)
        rw [nM] at z
        cases z
    have s4 := Same.put (o := .lst []) nM
    refine ⟨_, rfl, p, C, dx, _, rfl, s4 _ _ h3, T.cl, T.nQ, (by show 3 < 1000; decide), ?_⟩
    exact q _ M (ins_upd (cN_asked n a b M)) nMH ((upd_ne (Ne.symm pM)).trans upd_same) ((g.same s4).trans (Fr.upd _ _ _))
/-! ### halve -/
def spHal (C : Addr) : Sp := fun vs H Q _ => ∃ (p dx M : Addr) (n a b c t : Nat) (qs : List V), vs = [.ref p, .int (c : Int), .int (t : Int)] ∧ H p = some (.ins C dx (cF n a b M)) ∧ H M = some (.lst qs) ∧ 1 < n ∧ n < 2 ^ 512 ∧ b < 2 ^ 512 ∧ c < 2 ^ 512 ∧ qs.length < 1000 ∧
  ∀ (H' : Hp) (y : Addr), H' p = some (.ins C dx (cF n (Ks184.next n (Ks184Neutral.given.lot n a b c t) a b c).1 (Ks184.next n (Ks184Neutral.given.lot n a b c t) a b c).2 M)) → H' M = some (.lst (qs ++ [.ref y])) → H y = none → y ≠ p → y ≠ M →
    H' y = some (.lst (iV (Tm.told1 (.lot n a b c t (Ks184Neutral.given.lot n a b c t))))) → Fr2 p M H H' → Q .non H'
theorem power_lt {n a e : Nat} (h : e < 2 ^ 520) (hn : 0 < n) : Ks184.power n a e < n := by
  rw [Tm.power_eq h]
  exact Nat.mod_lt _ hn
theorem told1_lot (n a b c t r : Nat) : iV (Tm.told1 (.lot n a b c t r)) = [V.int 2] ++ nV (Ks184Neutral.bytesOf a) ++ nV (Ks184Neutral.bytesOf b) ++ nV (Ks184Neutral.bytesOf c) ++ [V.int (t : Int)] := by
  show V.int 2 :: iV (Ks184Neutral.ints (Ks184Neutral.bytesOf a) ++ Ks184Neutral.ints (Ks184Neutral.bytesOf b) ++ Ks184Neutral.ints (Ks184Neutral.bytesOf c) ++ [(t : Int)]) = _
  rw [iV, List.map_append, List.map_append, List.map_append]
  show V.int 2 :: (iV (Ks184Neutral.ints (Ks184Neutral.bytesOf a)) ++ iV (Ks184Neutral.ints (Ks184Neutral.bytesOf b)) ++ iV (Ks184Neutral.ints (Ks184Neutral.bytesOf c)) ++ [V.int (t : Int)]) = _
  rw [iV_ints, iV_ints, iV_ints]
  rfl
theorem ok_hal {C f f1 f2 f3 f4 : Addr} {fd fd1 fd2 fd3 fd4 : FuncData} (F : Fun K "halve" "Claim.halve" sHal f fd) (T : TxtC K C) (A1 : At P w K mg base "lot" 1 ["n", "a", "b", "c", "t"] spLot f1 fd1) (A2 : At P w K mg base "bytes_of" 1 ["number"] spByt f2 fd2)
    (A3 : At P w K mg base "face" 1 ["number", "n"] spFac f3 fd3) (A4 : At P w K mg base "power" 1 ["number", "exponent", "n"] spPow f4 fd4) : FnOk P w K mg base CX0 2 f fd ["self", "c", "t"] (spHal C) := by
  refine F.ok scHal (fun vs H Q E h => ?_) (fun cdv A outer s H vs Q E hr h => ?_)
  · obtain ⟨p, dx, M, n, a, b, c, t, qs, rfl, _⟩ := h
    rfl
  · obtain ⟨p, dx, M, n, a, b, c, t, qs, rfl, hp, hM, hn, hn2, hb, hc, hz, q⟩ := h
    refine ⟨_, pss_cons (ps_set (i := 3) scHal.nd rfl (Or.inl rfl) (pe_call A1.ok hr rfl A1.nm A1.kp A1.bd .nil pass0 (pa_cons (pe_fld (pv 0) rfl) (pa_cons (pe_fld (pv 0) rfl) (pa_cons (pe_fld (pv 0) rfl) (pa_cons (pv 1) (pa_cons (pv 2) pa_nil)))))))
      (pss_cons (ps_expr (pe_bm PySem.F.plainAttrs_list PySem.F.slot_list_append PySem.F.type_list_append mt_append (pe_fld (pv 0) rfl)
        (pa_cons (pe_op op_cat (pe_op op_cat (pe_op op_cat (pe_op op_cat (pe_lst (pa_cons pe_int pa_nil)) (pe_call A2.ok hr rfl A2.nm A2.kp A2.bd .nil pass0 (pa_cons (pe_fld (pv 0) rfl) pa_nil))) (pe_call A2.ok hr rfl A2.nm A2.kp A2.bd .nil pass0 (pa_cons (pe_fld (pv 0) rfl) pa_nil)))
          (pe_call A2.ok hr rfl A2.nm A2.kp A2.bd .nil pass0 (pa_cons (pv 1) pa_nil))) (pe_lst (pa_cons (pv 2) pa_nil))) pa_nil)))
      (pss_cons (ps_fld (pv 0) (pe_call A3.ok hr rfl A3.nm A3.kp A3.bd .nil pass0 (pa_cons (pe_op op_mulW (pe_call A4.ok hr rfl A4.nm A4.kp A4.bd .nil pass0 (pa_cons (pe_fld (pv 0) rfl) (pa_cons (pv 3) (pa_cons (pe_fld (pv 0) rfl) pa_nil)))) (pv 1)) (pa_cons (pe_fld (pv 0) rfl) pa_nil))) rfl)
      (pss_one (ps_fld (pv 0) (pe_call A3.ok hr rfl A3.nm A3.kp A3.bd .nil pass0 (pa_cons (pe_op op_mulW (pe_call A4.ok hr rfl A4.nm A4.kp A4.bd .nil pass0 (pa_cons (pv 1) (pa_cons (pv 3) (pa_cons (pe_fld (pv 0) rfl) pa_nil)))) (pe_fld (pv 0) rfl)) (pa_cons (pe_fld (pv 0) rfl) pa_nil))) rfl)))), ?_⟩
    have hpM : p ≠ M := fun e => by
      subst e
      rw [hp] at hM
      cases hM
    have lb : ∀ y, (nV (Ks184Neutral.bytesOf y)).length = 64 := fun y => by rw [List.length_map, Tm.bytesOf_length]
    -- r = lot(..)
    refine ⟨_, rfl, p, C, dx, _, _, rfl, hp, T.cl, T.nN, cF_n .., _, rfl, p, C, dx, _, _, rfl, hp, T.cl, T.nA, cF_a .., _, rfl, p, C, dx, _, _, rfl, hp, T.cl, T.nB, cF_b .., _, rfl, _, rfl, n, a, b, c, t, rfl, ?_⟩
    have hr2 : Ks184Neutral.given.lot n a b c t < 2 ^ 520 := Nat.lt_trans (Tm.lot_lt ..) (by decide)
    have er : ∃ r, Ks184Neutral.given.lot n a b c t = r := ⟨_, rfl⟩
    obtain ⟨r, er⟩ := er
    rw [er] at hr2 q ⊢
    -- what is asked
    refine ⟨_, rfl, p, C, dx, _, _, rfl, hp, T.cl, T.nQ, cF_asked .., .inl ⟨rfl, _, SqL.of hM⟩, ?_⟩
    refine ⟨(by show 1 ≤ sizeLine; decide), fun p1 h1 => ?_⟩
    have s1 := Same.put (o := .lst [V.int 2]) h1
    refine ⟨_, rfl, p, C, dx, _, _, rfl, s1 _ _ hp, T.cl, T.nA, cF_a .., a, rfl, fun H2 p2 s2 n2 h2 => ?_⟩
    refine ⟨p1, p2, _, _, rfl, rfl, s2 _ _ upd_same, h2, ?_, fun p3 h3 => ?_⟩
    · rw [lb]
      decide
    have s3 := (s1.trans s2).trans (Same.put (o := .lst ([V.int 2] ++ nV (Ks184Neutral.bytesOf a))) h3)
    have e3 : upd H2 p3 (.lst ([V.int 2] ++ nV (Ks184Neutral.bytesOf a))) p3 = some (.lst ([V.int 2] ++ nV (Ks184Neutral.bytesOf a))) := upd_same
    generalize upd H2 p3 (.lst ([V.int 2] ++ nV (Ks184Neutral.bytesOf a))) = H3 at s3 e3 ⊢
    refine ⟨_, rfl, p, C, dx, _, _, rfl, s3 _ _ hp, T.cl, T.nB, cF_b .., b, rfl, fun H4 p4 s4 n4 h4 => ?_⟩
    refine ⟨p3, p4, _, _, rfl, rfl, s4 _ _ e3, h4, ?_, fun p5 h5 => ?_⟩
    · rw [lb, List.length_append, lb]
      decide
    have s5 := (s3.trans s4).trans (Same.put (o := .lst ([V.int 2] ++ nV (Ks184Neutral.bytesOf a) ++ nV (Ks184Neutral.bytesOf b))) h5)
    have e5 : upd H4 p5 (.lst ([V.int 2] ++ nV (Ks184Neutral.bytesOf a) ++ nV (Ks184Neutral.bytesOf b))) p5 = some (.lst ([V.int 2] ++ nV (Ks184Neutral.bytesOf a) ++ nV (Ks184Neutral.bytesOf b))) := upd_same
    generalize upd H4 p5 (.lst ([V.int 2] ++ nV (Ks184Neutral.bytesOf a) ++ nV (Ks184Neutral.bytesOf b))) = H5 at s5 e5 ⊢
    refine ⟨_, rfl, c, rfl, fun H6 p6 s6 n6 h6 => ?_⟩
    refine ⟨p5, p6, _, _, rfl, rfl, s6 _ _ e5, h6, ?_, fun p7 h7 => ?_⟩
    · rw [lb, List.length_append, List.length_append, lb, lb]
      decide
    have s7 := (s5.trans s6).trans (Same.put (o := .lst ([V.int 2] ++ nV (Ks184Neutral.bytesOf a) ++ nV (Ks184Neutral.bytesOf b) ++ nV (Ks184Neutral.bytesOf c))) h7)
    have e7 : upd H6 p7 (.lst ([V.int 2] ++ nV (Ks184Neutral.bytesOf a) ++ nV (Ks184Neutral.bytesOf b) ++ nV (Ks184Neutral.bytesOf c))) p7 = some (.lst ([V.int 2] ++ nV (Ks184Neutral.bytesOf a) ++ nV (Ks184Neutral.bytesOf b) ++ nV (Ks184Neutral.bytesOf c))) := upd_same
    generalize upd H6 p7 (.lst ([V.int 2] ++ nV (Ks184Neutral.bytesOf a) ++ nV (Ks184Neutral.bytesOf b) ++ nV (Ks184Neutral.bytesOf c))) = H7 at s7 e7 ⊢
    refine ⟨_, rfl, (by show 1 ≤ sizeLine; decide), fun p8 h8 => ?_⟩
    have s8 := Same.put (o := .lst [V.int (t : Int)]) h8
    refine ⟨p7, p8, _, _, rfl, rfl, s8 _ _ e7, upd_same, ?_, fun p9 h9 => ?_⟩
    · rw [List.length_append, List.length_append, List.length_append, lb, lb, lb]
      show 1 + 64 + 64 + 64 + 1 ≤ 16777216
      decide
    have n9 : H p9 = none := (s7.trans s8).free h9
    have s9 := (s7.trans s8).trans (Same.put (o := .lst ([V.int 2] ++ nV (Ks184Neutral.bytesOf a) ++ nV (Ks184Neutral.bytesOf b) ++ nV (Ks184Neutral.bytesOf c) ++ [V.int (t : Int)])) h9)
    have e9 : upd (upd H7 p8 (.lst [V.int (t : Int)])) p9 (.lst ([V.int 2] ++ nV (Ks184Neutral.bytesOf a) ++ nV (Ks184Neutral.bytesOf b) ++ nV (Ks184Neutral.bytesOf c) ++ [V.int (t : Int)])) p9 = some (.lst (iV (Tm.told1 (.lot n a b c t r)))) := by
      rw [upd_same, told1_lot]
    generalize upd (upd H7 p8 (.lst [V.int (t : Int)])) p9 (.lst ([V.int 2] ++ nV (Ks184Neutral.bytesOf a) ++ nV (Ks184Neutral.bytesOf b) ++ nV (Ks184Neutral.bytesOf c) ++ [V.int (t : Int)])) = H9 at s9 e9 ⊢
    have p9M : p9 ≠ M := Ne.symm (ne_of_none hM n9)
    have p9p : p9 ≠ p := Ne.symm (ne_of_none hp n9)
    refine ⟨M, qs, .ref p9, rfl, rfl, s9 _ _ hM, Nat.lt_trans hz (by decide), ?_⟩
    have f10 := (Fr2.of (a := p) (b := M) s9).trans (Fr2.upd2 p M H9 (.lst (qs ++ [V.ref p9])))
    have ep : upd H9 M (.lst (qs ++ [V.ref p9])) p = some (.ins C dx (cF n a b M)) := (upd_ne hpM).trans (s9 _ _ hp)
    have eM : upd H9 M (.lst (qs ++ [V.ref p9])) M = some (.lst (qs ++ [V.ref p9])) := upd_same
    have ey : upd H9 M (.lst (qs ++ [V.ref p9])) p9 = some (.lst (iV (Tm.told1 (.lot n a b c t r)))) := (upd_ne p9M).trans e9
    generalize upd H9 M (.lst (qs ++ [V.ref p9])) = H10 at f10 ep eM ey ⊢
    -- self.a
    have pa : Ks184.power n a r < 2 ^ 512 := Nat.lt_trans (power_lt hr2 (by omega)) hn2
    have pc : Ks184.power n c r < 2 ^ 512 := Nat.lt_trans (power_lt hr2 (by omega)) hn2
    refine ⟨_, rfl, p, C, dx, _, _, rfl, ep, T.cl, T.nA, cF_a .., _, rfl, _, rfl, p, C, dx, _, _, rfl, ep, T.cl, T.nN, cF_n .., a, r, n, rfl, hn, hn2, hr2, ?_⟩
    refine ⟨_, rfl, _, _, rfl, rfl, mul512 pa hc, _, rfl, p, C, dx, _, _, rfl, ep, T.cl, T.nN, cF_n .., Ks184.power n a r * c, n, by rw [Int.natCast_mul]; rfl, by omega, ?_⟩
    refine ⟨_, rfl, p, C, dx, _, rfl, ep, T.cl, T.nA, (by show 4 < 1000; decide), ?_⟩
    have f11 := f10.trans (Fr2.upd1 p M H10 (.ins C dx (putF "a" (.int ((Ks184.face n (Ks184.power n a r * c) : Nat) : Int)) (cF n a b M))))
    have ep2 := ins_upd (H := H10) (a := p) (C := C) (dx := dx) (cF_pa n a b M (Ks184.face n (Ks184.power n a r * c)))
    have eM2 := (upd_ne (H := H10) (o := .ins C dx (putF "a" (.int ((Ks184.face n (Ks184.power n a r * c) : Nat) : Int)) (cF n a b M))) (Ne.symm hpM)).trans eM
    have ey2 := (upd_ne (H := H10) (o := .ins C dx (putF "a" (.int ((Ks184.face n (Ks184.power n a r * c) : Nat) : Int)) (cF n a b M))) p9p).trans ey
    generalize upd H10 p (.ins C dx (putF "a" (.int ((Ks184.face n (Ks184.power n a r * c) : Nat) : Int)) (cF n a b M))) = H11 at f11 ep2 eM2 ey2 ⊢
    -- self.b
    refine ⟨_, rfl, _, rfl, _, rfl, p, C, dx, _, _, rfl, ep2, T.cl, T.nN, cF_n .., c, r, n, rfl, hn, hn2, hr2, ?_⟩
    refine ⟨_, rfl, p, C, dx, _, _, rfl, ep2, T.cl, T.nB, cF_b .., _, _, rfl, rfl, mul512 pc hb, _, rfl, p, C, dx, _, _, rfl, ep2, T.cl, T.nN, cF_n .., Ks184.power n c r * b, n, by rw [Int.natCast_mul]; rfl, by omega, ?_⟩
    refine ⟨_, rfl, p, C, dx, _, rfl, ep2, T.cl, T.nB, (by show 4 < 1000; decide), ?_⟩
    refine q _ p9 (ins_upd (cF_pb n _ b M _)) ((upd_ne (Ne.symm hpM)).trans eM2) n9 p9p p9M ((upd_ne p9p).trans ey2) (f11.trans (Fr2.upd1 p M H11 _))
/-! ### holds_at_last -/
def spHol (C : Addr) : Sp := fun vs H Q _ => ∃ (p dx M : Addr) (n a b : Nat), vs = [.ref p] ∧ H p = some (.ins C dx (cF n a b M)) ∧ 0 < n ∧ a < 2 ^ 512 ∧ Q (.bl (Ks184.face n (a * a) == b)) H
theorem ok_hol {C f f3 : Addr} {fd fd3 : FuncData} (F : Fun K "holds_at_last" "Claim.holds_at_last" sHol f fd) (T : TxtC K C) (A3 : At P w K mg base "face" 1 ["number", "n"] spFac f3 fd3) : FnOk P w K mg base CX0 2 f fd ["self"] (spHol C) := by
  refine F.ok scHol (fun vs H Q E h => ?_) (fun cdv A outer s H vs Q E hr h => ?_)
  · obtain ⟨p, dx, M, n, a, b, rfl, _⟩ := h
    rfl
  · obtain ⟨p, dx, M, n, a, b, rfl, hp, hn, ha, q⟩ := h
    refine ⟨_, pss_one (ps_ret (pe_cmpR op_eq (pe_call A3.ok hr rfl A3.nm A3.kp A3.bd .nil pass0 (pa_cons (pe_op op_mulW (pe_fld (pv 0) rfl) (pe_fld (pv 0) rfl)) (pa_cons (pe_fld (pv 0) rfl) pa_nil))) (pe_fld (pv 0) rfl) (nomark _))), ?_⟩
    refine ⟨_, rfl, p, C, dx, _, _, rfl, hp, T.cl, T.nA, cF_a .., _, rfl, p, C, dx, _, _, rfl, hp, T.cl, T.nA, cF_a .., _, _, rfl, rfl, mul512 ha ha, ?_⟩
    refine ⟨_, rfl, p, C, dx, _, _, rfl, hp, T.cl, T.nN, cF_n .., a * a, n, by rw [Int.natCast_mul]; rfl, hn, ?_⟩
    refine ⟨_, rfl, p, C, dx, _, _, rfl, hp, T.cl, T.nB, cF_b .., rfl, ?_⟩
    rw [eqV]
    have e : decide (((Ks184.face n (a * a) : Nat) : Int) = (b : Int)) = (Ks184.face n (a * a) == b) := by
      rw [Bool.eq_iff_iff, decide_eq_true_eq, beq_iff_eq]
      omega
    rw [e]
    exact q
end Tl

/-! ## TOpen -/
namespace Tl
open PySem PySem.Spec PyProof.Rows L2
variable {P : Program} {w : World} {K : PySem.W.Frag} {mg : Str → Option Value} {base : Heap}
/-! ### the object: how it lies in the heap -/
def oL (b : Bool) (k n x r l : Nat) : List (Str × V) := [("begun", .bl b), ("k", .int (k : Int)), ("n", .int (n : Int)), ("x", .int (x : Int)), ("reached", .int (r : Int)), ("left", .int (l : Int))]
def oF : Ks184Neutral.S → List (Str × V)
  | none => oL false 0 0 0 0 0
  | some q => oL true q.what.k q.what.n q.what.x q.now q.left
theorem oL_begun (b : Bool) (k n x r l : Nat) : (oL b k n x r l).lookup ("begun" : Str) = some (.bl b) := lk_here
theorem oL_k (b : Bool) (k n x r l : Nat) : (oL b k n x r l).lookup ("k" : Str) = some (.int (k : Int)) := (lk_past (by decide +kernel)).trans (lk_here)
theorem oL_n (b : Bool) (k n x r l : Nat) : (oL b k n x r l).lookup ("n" : Str) = some (.int (n : Int)) := (lk_past (by decide +kernel)).trans ((lk_past (by decide +kernel)).trans (lk_here))
theorem oL_x (b : Bool) (k n x r l : Nat) : (oL b k n x r l).lookup ("x" : Str) = some (.int (x : Int)) := (lk_past (by decide +kernel)).trans ((lk_past (by decide +kernel)).trans ((lk_past (by decide +kernel)).trans (lk_here)))
theorem oL_reached (b : Bool) (k n x r l : Nat) : (oL b k n x r l).lookup ("reached" : Str) = some (.int (r : Int)) := (lk_past (by decide +kernel)).trans ((lk_past (by decide +kernel)).trans ((lk_past (by decide +kernel)).trans ((lk_past (by decide +kernel)).trans (lk_here))))
theorem oL_left (b : Bool) (k n x r l : Nat) : (oL b k n x r l).lookup ("left" : Str) = some (.int (l : Int)) := (lk_past (by decide +kernel)).trans ((lk_past (by decide +kernel)).trans ((lk_past (by decide +kernel)).trans ((lk_past (by decide +kernel)).trans ((lk_past (by decide +kernel)).trans (lk_here)))))
theorem oL_other (b : Bool) (k n x r l : Nat) {m : Str} (h0 : (m == ("begun" : Str)) = false) (h1 : (m == ("k" : Str)) = false) (h2 : (m == ("n" : Str)) = false) (h3 : (m == ("x" : Str)) = false) (h4 : (m == ("reached" : Str)) = false) (h5 : (m == ("left" : Str)) = false) : (oL b k n x r l).lookup m = none :=
  (lk_past h0).trans ((lk_past h1).trans ((lk_past h2).trans ((lk_past h3).trans ((lk_past h4).trans ((lk_past h5).trans (rfl))))))
theorem oL_pbegun (b c : Bool) (k n x r l : Nat) : putF "begun" (.bl c) (oL b k n x r l) = oL c k n x r l := put_here
theorem oL_pk (b : Bool) (k n x r l m : Nat) : putF "k" (.int (m : Int)) (oL b k n x r l) = oL b m n x r l := (put_past (by decide +kernel)).trans (congrArg _ (put_here))
theorem oL_pn (b : Bool) (k n x r l m : Nat) : putF "n" (.int (m : Int)) (oL b k n x r l) = oL b k m x r l := (put_past (by decide +kernel)).trans (congrArg _ ((put_past (by decide +kernel)).trans (congrArg _ (put_here))))
theorem oL_px (b : Bool) (k n x r l m : Nat) : putF "x" (.int (m : Int)) (oL b k n x r l) = oL b k n m r l := (put_past (by decide +kernel)).trans (congrArg _ ((put_past (by decide +kernel)).trans (congrArg _ ((put_past (by decide +kernel)).trans (congrArg _ (put_here))))))
theorem oL_preached (b : Bool) (k n x r l m : Nat) : putF "reached" (.int (m : Int)) (oL b k n x r l) = oL b k n x m l := (put_past (by decide +kernel)).trans (congrArg _ ((put_past (by decide +kernel)).trans (congrArg _ ((put_past (by decide +kernel)).trans (congrArg _ ((put_past (by decide +kernel)).trans (congrArg _ (put_here))))))))
theorem oL_pleft (b : Bool) (k n x r l m : Nat) : putF "left" (.int (m : Int)) (oL b k n x r l) = oL b k n x r m := (put_past (by decide +kernel)).trans (congrArg _ ((put_past (by decide +kernel)).trans (congrArg _ ((put_past (by decide +kernel)).trans (congrArg _ ((put_past (by decide +kernel)).trans (congrArg _ ((put_past (by decide +kernel)).trans (congrArg _ (put_here))))))))))
theorem oN_begun : putF "begun" (V.bl false) ([] : List (Str × V)) = ([("begun", V.bl false)] : List (Str × V)) := rfl
theorem oN_k : putF "k" (V.int 0) ([("begun", V.bl false)] : List (Str × V)) = ([("begun", V.bl false), ("k", V.int 0)] : List (Str × V)) := (put_past (by decide +kernel)).trans (congrArg _ (rfl))
theorem oN_n : putF "n" (V.int 0) ([("begun", V.bl false), ("k", V.int 0)] : List (Str × V)) = ([("begun", V.bl false), ("k", V.int 0), ("n", V.int 0)] : List (Str × V)) := (put_past (by decide +kernel)).trans (congrArg _ ((put_past (by decide +kernel)).trans (congrArg _ (rfl))))
theorem oN_x : putF "x" (V.int 0) ([("begun", V.bl false), ("k", V.int 0), ("n", V.int 0)] : List (Str × V)) = ([("begun", V.bl false), ("k", V.int 0), ("n", V.int 0), ("x", V.int 0)] : List (Str × V)) := (put_past (by decide +kernel)).trans (congrArg _ ((put_past (by decide +kernel)).trans (congrArg _ ((put_past (by decide +kernel)).trans (congrArg _ (rfl))))))
theorem oN_reached : putF "reached" (V.int 0) ([("begun", V.bl false), ("k", V.int 0), ("n", V.int 0), ("x", V.int 0)] : List (Str × V)) = ([("begun", V.bl false), ("k", V.int 0), ("n", V.int 0), ("x", V.int 0), ("reached", V.int 0)] : List (Str × V)) := (put_past (by decide +kernel)).trans (congrArg _ ((put_past (by decide +kernel)).trans (congrArg _ ((put_past (by decide +kernel)).trans (congrArg _ ((put_past (by decide +kernel)).trans (congrArg _ (rfl))))))))
theorem oN_left : putF "left" (V.int 0) ([("begun", V.bl false), ("k", V.int 0), ("n", V.int 0), ("x", V.int 0), ("reached", V.int 0)] : List (Str × V)) = ([("begun", V.bl false), ("k", V.int 0), ("n", V.int 0), ("x", V.int 0), ("reached", V.int 0), ("left", V.int 0)] : List (Str × V)) := (put_past (by decide +kernel)).trans (congrArg _ ((put_past (by decide +kernel)).trans (congrArg _ ((put_past (by decide +kernel)).trans (congrArg _ ((put_past (by decide +kernel)).trans (congrArg _ ((put_past (by decide +kernel)).trans (congrArg _ (rfl))))))))))
def OpAt (C : Addr) (H : Hp) (a : Addr) (s : Ks184Neutral.S) : Prop := ∃ dx : Addr, H a = some (.ins C dx (oF s))
/-- what the object's state always keeps -/
def SOk : Ks184Neutral.S → Prop
  | none => True
  | some q => q.what.fit = true ∧ q.what.n < 2 ^ 512 ∧ q.now < q.what.n ∧ q.done ≤ 2 ^ q.what.k
/-- an answer, and the object then -/
def Told (C : Addr) (H : Hp) (Q : VK) (a : Addr) (s : Ks184Neutral.S) (ans : List Int) : Prop := ∀ (H' : Hp) (p : Addr), OpAt C H' a s → Fr a H H' → H p = none → H' p = some (.lst (iV ans)) → Q (.ref p) H'
theorem OpAt.same {C : Addr} {H H' : Hp} {a : Addr} {s : Ks184Neutral.S} (h : OpAt C H a s) (e : Same H H') : OpAt C H' a s := by
  obtain ⟨dx, h1⟩ := h
  exact ⟨dx, e _ _ h1⟩
theorem Same.fr {a : Addr} {H H' : Hp} (s : Same H H') : Fr a H H' := fun b o e _ => s b o e
/-- an answer that leaves the object -/
theorem Told.newL {C : Addr} {H : Hp} {Q : VK} {a : Addr} {s : Ks184Neutral.S} {ans : List Int} (q : Told C H Q a s ans) (h : OpAt C H a s) : NewL H Q (iV ans) := fun H' p sP nP hP => q H' p (h.same sP) (Same.fr sP) nP hP
/-- an answer behind a change of the object -/
theorem Told.after {C : Addr} {H H1 : Hp} {Q : VK} {a : Addr} {s : Ks184Neutral.S} {ans : List Int} (q : Told C H Q a s ans) (h : OpAt C H1 a s) (f : Fr a H H1) : NewL H1 Q (iV ans) := fun H' p sP nP hP => by
  have hpa : p ≠ a := by
    obtain ⟨dx, h1⟩ := h
    intro e
    subst e
    rw [nP] at h1
    cases h1
  refine q H' p (h.same sP) (f.same sP) ?_ hP
  cases e : H p with
  | none => rfl
  | some o =>
    have z := f _ _ e hpa
    rw [nP] at z
    cases z
structure TxtO (K : PySem.W.Frag) (C : Addr) : Prop where
  cl : Cls K C
  nB : NoAttr K C "begun"
  nK : NoAttr K C "k"
  nN : NoAttr K C "n"
  nX : NoAttr K C "x"
  nR : NoAttr K C "reached"
  nL : NoAttr K C "left"
abbrev sOin : Stmt := inClass (top 15) 0
abbrev sBeg : Stmt := inClass (top 15) 1
abbrev sWrk : Stmt := inClass (top 15) 2
abbrev sVal : Stmt := inClass (top 15) 3
theorem scOin : FnScope ["self"] ["self"] (defScope sOin) := ⟨rfl, rfl, rfl, by decide +kernel, rfl, by decide +kernel, by decide +kernel⟩
theorem scBeg : FnScope ["self", "k", "n", "x"] ["self", "k", "n", "x"] (defScope sBeg) := ⟨rfl, rfl, rfl, by decide +kernel, rfl, by decide +kernel, by decide +kernel⟩
theorem scWrk : FnScope ["self", "steps", "done"] ["self", "steps"] (defScope sWrk) := ⟨rfl, rfl, rfl, by decide +kernel, rfl, by decide +kernel, by decide +kernel⟩
theorem scVal : FnScope ["self"] ["self"] (defScope sVal) := ⟨rfl, rfl, rfl, by decide +kernel, rfl, by decide +kernel, by decide +kernel⟩
/-! ### __init__ -/
def spOin (C : Addr) : Sp := fun vs H Q _ => ∃ (a dx : Addr), vs = [.ref a] ∧ H a = some (.ins C dx []) ∧ ∀ (H' : Hp), OpAt C H' a none → Fr a H H' → Q .non H'
theorem ok_oin {C f : Addr} {fd : FuncData} (F : Fun K "__init__" "Opening.__init__" sOin f fd) (T : TxtO K C) : FnOk P w K mg base CX0 1 f fd ["self"] (spOin C) := by
  refine F.ok scOin (fun vs H Q E h => ?_) (fun cdv A outer s H vs Q E hr h => ?_)
  · obtain ⟨a, dx, rfl, _⟩ := h
    rfl
  · obtain ⟨a, dx, rfl, ha, q⟩ := h
    refine ⟨_, pss_cons (ps_fld (pv 0) pe_bl rfl) (pss_cons (ps_fld (pv 0) pe_int rfl) (pss_cons (ps_fld (pv 0) pe_int rfl) (pss_cons (ps_fld (pv 0) pe_int rfl) (pss_cons (ps_fld (pv 0) pe_int rfl) (pss_one (ps_fld (pv 0) pe_int rfl)))))), ?_⟩
    refine ⟨_, rfl, a, C, dx, [], rfl, ha, T.cl, T.nB, (by show 0 < 1000; decide), ?_⟩
    refine ⟨_, rfl, a, C, dx, _, rfl, ins_upd oN_begun, T.cl, T.nK, (by show 1 < 1000; decide), ?_⟩
    refine ⟨_, rfl, a, C, dx, _, rfl, ins_upd oN_k, T.cl, T.nN, (by show 2 < 1000; decide), ?_⟩
    refine ⟨_, rfl, a, C, dx, _, rfl, ins_upd oN_n, T.cl, T.nX, (by show 3 < 1000; decide), ?_⟩
    refine ⟨_, rfl, a, C, dx, _, rfl, ins_upd oN_x, T.cl, T.nR, (by show 4 < 1000; decide), ?_⟩
    refine ⟨_, rfl, a, C, dx, _, rfl, ins_upd oN_reached, T.cl, T.nL, (by show 5 < 1000; decide), ?_⟩
    exact q _ ⟨dx, ins_upd oN_left⟩ (((Fr.upd _ _ _).trans (Fr.upd _ _ _)).trans (((Fr.upd _ _ _).trans (Fr.upd _ _ _)).trans ((Fr.upd _ _ _).trans (Fr.upd _ _ _))))
/-! ### begin -/
def beginAns (s : Ks184Neutral.S) (k n x : Nat) : Ks184Neutral.S × List Int := if Ks184.What.fit ⟨n, x, k⟩ = true then (some (Ks184.begun ⟨n, x, k⟩), [0, 0]) else (s, [-22, 0])
def spBeg (C : Addr) : Sp := fun vs H Q _ => ∃ (a : Addr) (s : Ks184Neutral.S) (k n x : Nat), vs = [.ref a, .int (k : Int), .int (n : Int), .int (x : Int)] ∧ OpAt C H a s ∧ Told C H Q a (beginAns s k n x).1 (beginAns s k n x).2
theorem oF_cases (s : Ks184Neutral.S) : ∃ b k n x r l, oF s = oL b k n x r l := by
  cases s with
  | none => exact ⟨_, _, _, _, _, _, rfl⟩
  | some q => exact ⟨_, _, _, _, _, _, rfl⟩
theorem ok_beg {C f f1 f2 : Addr} {fd fd1 fd2 : FuncData} (F : Fun K "begin" "Opening.begin" sBeg f fd) (T : TxtO K C) (A1 : At P w K mg base "is_fit" 2 ["n", "x", "k"] spFit f1 fd1) (A2 : At P w K mg base "told" 1 ["answered", "asked"] spTol f2 fd2) :
    FnOk P w K mg base CX0 3 f fd ["self", "k", "n", "x"] (spBeg C) := by
  refine F.ok scBeg (fun vs H Q E h => ?_) (fun cdv A outer s H vs Q E hr h => ?_)
  · obtain ⟨a, s, k, n, x, rfl, _⟩ := h
    rfl
  · obtain ⟨a, s, k, n, x, rfl, hO, q⟩ := h
    have hr1 : Room 1 _ := hr.mono (by decide)
    refine ⟨_, pss_cons (ps_if (pt_not (pt_val (pe_call A1.ok hr rfl A1.nm A1.kp A1.bd .nil pass0 (pa_cons (pv 2) (pa_cons (pv 3) (pa_cons (pv 1) pa_nil))))))
        (pss_one (ps_ret (pe_call A2.ok hr1 rfl A2.nm A2.kp A2.bd .nil pass0 (pa_cons (pe_lst (pa_cons (pe_un un_neg pe_int) pa_nil)) (pa_cons (pe_lst pa_nil) pa_nil))))) pss_nil)
      (pss_cons (ps_fld (pv 0) pe_bl rfl) (pss_cons (ps_fld (pv 0) (pv 1) rfl) (pss_cons (ps_fld (pv 0) (pv 2) rfl) (pss_cons (ps_fld (pv 0) (pv 3) rfl) (pss_cons (ps_fld (pv 0) (pv 3) rfl) (pss_cons (ps_fld (pv 0) (pe_op op_oneShl pe_int (pv 1)) rfl)
      (pss_one (ps_ret (pe_call A2.ok hr1 rfl A2.nm A2.kp A2.bd .nil pass0 (pa_cons (pe_lst (pa_cons pe_int pa_nil)) (pa_cons (pe_lst pa_nil) pa_nil)))))))))))  , ?_⟩
    refine ⟨_, rfl, _, rfl, _, rfl, n, x, k, rfl, _, rfl, ?_⟩
    cases c1 : Ks184.What.fit ⟨n, x, k⟩ with
    | false =>
      refine iteT ?_
      have q2 : Told C H Q a s [-22, 0] := by
        unfold beginAns at q
        rw [c1] at q
        exact q
      exact ⟨_, rfl, (by show 1 ≤ sizeLine; decide), fun p1 h1 => ⟨(by show 0 ≤ sizeLine; decide), fun p2 h2 => told_one (q2.newL hO) p1 h1 p2 h2⟩⟩
    | true =>
      refine iteF ?_
      have q2 : Told C H Q a (some (Ks184.begun ⟨n, x, k⟩)) [0, 0] := by
        unfold beginAns at q
        rw [c1] at q
        exact q
      have fi := (Tm.fit_iff ⟨n, x, k⟩).mp c1
      dsimp only at fi
      obtain ⟨dx, ho⟩ := hO
      obtain ⟨b0, k0, n0, x0, r0, l0, e0⟩ := oF_cases s
      rw [e0] at ho
      refine ⟨_, rfl, a, C, dx, _, rfl, ho, T.cl, T.nB, (by show 6 < 1000; decide), ?_⟩
      have h1 := ins_upd (H := H) (a := a) (C := C) (dx := dx) (oL_pbegun b0 true k0 n0 x0 r0 l0)
      have g1 := Fr.upd a H (.ins C dx (putF "begun" (.bl true) (oL b0 k0 n0 x0 r0 l0)))
      refine ⟨_, rfl, _, rfl, a, C, dx, _, rfl, h1, T.cl, T.nK, (by show 6 < 1000; decide), ?_⟩
      generalize upd H a (.ins C dx (putF "begun" (.bl true) (oL b0 k0 n0 x0 r0 l0))) = H1 at h1 g1
      have h2 := ins_upd (H := H1) (a := a) (C := C) (dx := dx) (oL_pk true k0 n0 x0 r0 l0 k)
      have g2 := g1.trans (Fr.upd a H1 (.ins C dx (putF "k" (.int (k : Int)) (oL true k0 n0 x0 r0 l0))))
      refine ⟨_, rfl, _, rfl, a, C, dx, _, rfl, h2, T.cl, T.nN, (by show 6 < 1000; decide), ?_⟩
      generalize upd H1 a (.ins C dx (putF "k" (.int (k : Int)) (oL true k0 n0 x0 r0 l0))) = H2 at h2 g2
      have h3 := ins_upd (H := H2) (a := a) (C := C) (dx := dx) (oL_pn true k n0 x0 r0 l0 n)
      have g3 := g2.trans (Fr.upd a H2 (.ins C dx (putF "n" (.int (n : Int)) (oL true k n0 x0 r0 l0))))
      refine ⟨_, rfl, _, rfl, a, C, dx, _, rfl, h3, T.cl, T.nX, (by show 6 < 1000; decide), ?_⟩
      generalize upd H2 a (.ins C dx (putF "n" (.int (n : Int)) (oL true k n0 x0 r0 l0))) = H3 at h3 g3
      have h4 := ins_upd (H := H3) (a := a) (C := C) (dx := dx) (oL_px true k n x0 r0 l0 x)
      have g4 := g3.trans (Fr.upd a H3 (.ins C dx (putF "x" (.int (x : Int)) (oL true k n x0 r0 l0))))
      refine ⟨_, rfl, _, rfl, a, C, dx, _, rfl, h4, T.cl, T.nR, (by show 6 < 1000; decide), ?_⟩
      generalize upd H3 a (.ins C dx (putF "x" (.int (x : Int)) (oL true k n x0 r0 l0))) = H4 at h4 g4
      have h5 := ins_upd (H := H4) (a := a) (C := C) (dx := dx) (oL_preached true k n x r0 l0 x)
      have g5 := g4.trans (Fr.upd a H4 (.ins C dx (putF "reached" (.int (x : Int)) (oL true k n x r0 l0))))
      refine ⟨_, rfl, k, rfl, rfl, by omega, _, rfl, a, C, dx, _, rfl, h5, T.cl, T.nL, (by show 6 < 1000; decide), ?_⟩
      generalize upd H4 a (.ins C dx (putF "reached" (.int (x : Int)) (oL true k n x r0 l0))) = H5 at h5 g5
      have ep : putF "left" (.int (2 ^ k : Int)) (oL true k n x x l0) = oL true k n x x (2 ^ k) := by
        have z := oL_pleft true k n x x l0 (2 ^ k)
        rw [Int.natCast_pow] at z
        exact z
      have h6 := ins_upd (H := H5) (a := a) (C := C) (dx := dx) ep
      have g6 := g5.trans (Fr.upd a H5 (.ins C dx (putF "left" (.int (2 ^ k : Int)) (oL true k n x x l0))))
      generalize upd H5 a (.ins C dx (putF "left" (.int (2 ^ k : Int)) (oL true k n x x l0))) = H6 at h6 g6
      have hO4 : OpAt C H6 a (some (Ks184.begun ⟨n, x, k⟩)) := by
        refine ⟨dx, h6.trans (congrArg (fun z => some (HO.ins C dx z)) ?_)⟩
        show oL true k n x x (2 ^ k) = oL true k n x (x % n) (2 ^ k - 0)
        rw [Nat.mod_eq_of_lt (Tm.small_lt fi.2.2.1), Nat.sub_zero]
      exact ⟨(by show 1 ≤ sizeLine; decide), fun p1 n1 => ⟨(by show 0 ≤ sizeLine; decide), fun p2 n2 => told_one (q2.after hO4 g6) p1 n1 p2 n2⟩⟩
/-! ### work -/
def workAns (s : Ks184Neutral.S) (t : Nat) : Ks184Neutral.S × List Int := match s with
  | none => (none, [-61])
  | some q => (some { q with done := q.done + min t q.left, now := Ks184.raised q.what.n q.now (min t q.left) }, [((q.left - min t q.left : Nat) : Int), 0])
def spWrk (C : Addr) : Sp := fun vs H Q _ => ∃ (a : Addr) (s : Ks184Neutral.S) (t : Nat), vs = [.ref a, .int (t : Int)] ∧ OpAt C H a s ∧ SOk s ∧ Told C H Q a (workAns s t).1 (workAns s t).2
theorem min_int (i j : Nat) : (if (j : Int) < (i : Int) then (j : Int) else (i : Int)) = ((min i j : Nat) : Int) := by
  by_cases c : j < i
  · rw [if_pos (by omega), Nat.min_eq_right (Nat.le_of_lt c)]
  · rw [if_neg (by omega), Nat.min_eq_left (by omega)]
theorem left_after (q : Ks184.Abs) (d : Nat) : ({ q with done := q.done + d } : Ks184.Abs).left = q.left - d := by
  show 2 ^ q.what.k - (q.done + d) = 2 ^ q.what.k - q.done - d
  omega
theorem left_lt {q : Ks184.Abs} (h : q.what.k ≤ 20) : q.left < 2 ^ 62 := by
  have e : 2 ^ q.what.k ≤ 2 ^ 20 := Nat.pow_le_pow_right (by decide) h
  show 2 ^ q.what.k - q.done < 2 ^ 62
  omega
theorem ok_wrk {C f f1 f2 : Addr} {fd fd1 fd2 : FuncData} (F : Fun K "work" "Opening.work" sWrk f fd) (T : TxtO K C) (A1 : At P w K mg base "raised" 1 ["number", "times", "n"] spRai f1 fd1) (A2 : At P w K mg base "told" 1 ["answered", "asked"] spTol f2 fd2) (mM : mg "min" = none) :
    FnOk P w K mg base CX0 2 f fd ["self", "steps"] (spWrk C) := by
  refine F.ok scWrk (fun vs H Q E h => ?_) (fun cdv A outer s H vs Q E hr h => ?_)
  · obtain ⟨a, s, t, rfl, _⟩ := h
    rfl
  · obtain ⟨a, s, t, rfl, hO, hs, q⟩ := h
    refine ⟨_, pss_cons (ps_if (pt_not (pt_val (pe_fld (pv 0) rfl))) (pss_one (ps_ret (pe_lst (pa_cons (pe_un un_neg pe_int) pa_nil)))) pss_nil)
      (pss_cons (ps_set (i := 2) scWrk.nd rfl (Or.inl rfl) (pe_callB (call_min2 rfl) (by rfl) mM (by decide +kernel) (pa_cons (pv 1) (pa_cons (pe_fld (pv 0) rfl) pa_nil))))
      (pss_cons (ps_fld (pv 0) (pe_call A1.ok hr rfl A1.nm A1.kp A1.bd .nil pass0 (pa_cons (pe_fld (pv 0) rfl) (pa_cons (pv 2) (pa_cons (pe_fld (pv 0) rfl) pa_nil)))) rfl)
      (pss_cons (ps_fldaug (pv 0) (pv 2) in_sub)
      (pss_one (ps_ret (pe_call A2.ok hr rfl A2.nm A2.kp A2.bd .nil pass0 (pa_cons (pe_lst (pa_cons (pe_fld (pv 0) rfl) pa_nil)) (pa_cons (pe_lst pa_nil) pa_nil)))))))), ?_⟩
    have hO0 := hO
    obtain ⟨dx, ho⟩ := hO
    cases s with
    | none =>
      refine ⟨_, rfl, a, C, dx, _, _, rfl, ho, T.cl, T.nB, oL_begun .., _, rfl, ?_⟩
      refine iteT ?_
      exact ⟨_, rfl, (by show 1 ≤ sizeLine; decide), fun p1 h1 => (q.newL hO0) _ p1 (Same.put h1) h1 upd_same⟩
    | some z =>
      obtain ⟨hf, hn, hw, hd⟩ := hs
      have fi := (Tm.fit_iff z.what).mp hf
      refine ⟨_, rfl, a, C, dx, _, _, rfl, ho, T.cl, T.nB, oL_begun .., _, rfl, ?_⟩
      refine iteF ?_
      refine ⟨_, rfl, _, rfl, a, C, dx, _, _, rfl, ho, T.cl, T.nL, oL_left .., _, _, rfl, ?_⟩
      rw [min_int]
      have hmin : min t z.left < 2 ^ 62 := Nat.lt_of_le_of_lt (Nat.min_le_right ..) (left_lt fi.2.2.2.2.2)
      refine ⟨_, rfl, a, C, dx, _, _, rfl, ho, T.cl, T.nR, oL_reached .., _, rfl, _, rfl, a, C, dx, _, _, rfl, ho, T.cl, T.nN, oL_n .., ?_⟩
      refine ⟨z.now, min t z.left, z.what.n, rfl, Tm.fit_pos hf, hn, hmin, _, rfl, a, C, dx, _, rfl, ho, T.cl, T.nR, (by show 6 < 1000; decide), ?_⟩
      have h1 := ins_upd (H := H) (a := a) (C := C) (dx := dx) (oL_preached true z.what.k z.what.n z.what.x z.now z.left (Ks184.raised z.what.n z.now (min t z.left)))
      have g1 := Fr.upd a H (.ins C dx (putF "reached" (.int ((Ks184.raised z.what.n z.now (min t z.left) : Nat) : Int)) (oL true z.what.k z.what.n z.what.x z.now z.left)))
      refine ⟨_, rfl, a, C, dx, _, _, rfl, h1, T.cl, T.nL, oL_left .., _, rfl, _, _, rfl, rfl, dx, _, h1, (by show 6 < 1000; decide), ?_⟩
      have h1' : upd H a (.ins C dx (putF "reached" (.int ((Ks184.raised z.what.n z.now (min t z.left) : Nat) : Int)) (oF (some z)))) a = some (.ins C dx (oL true z.what.k z.what.n z.what.x (Ks184.raised z.what.n z.now (min t z.left)) z.left)) := h1
      have g1' : Fr a H (upd H a (.ins C dx (putF "reached" (.int ((Ks184.raised z.what.n z.now (min t z.left) : Nat) : Int)) (oF (some z))))) := g1
      generalize upd H a (.ins C dx (putF "reached" (.int ((Ks184.raised z.what.n z.now (min t z.left) : Nat) : Int)) (oF (some z)))) = H1 at h1' g1' ⊢
      have ep : putF "left" (.int ((z.left : Int) - ((min t z.left : Nat) : Int))) (oL true z.what.k z.what.n z.what.x (Ks184.raised z.what.n z.now (min t z.left)) z.left) = oL true z.what.k z.what.n z.what.x (Ks184.raised z.what.n z.now (min t z.left)) (z.left - min t z.left) := by
        have y := oL_pleft true z.what.k z.what.n z.what.x (Ks184.raised z.what.n z.now (min t z.left)) z.left (z.left - min t z.left)
        rw [Int.ofNat_sub (Nat.min_le_right ..)] at y
        exact y
      have h2 := ins_upd (H := H1) (a := a) (C := C) (dx := dx) ep
      have g2 := g1'.trans (Fr.upd a H1 (.ins C dx (putF "left" (.int ((z.left : Int) - ((min t z.left : Nat) : Int))) (oL true z.what.k z.what.n z.what.x (Ks184.raised z.what.n z.now (min t z.left)) z.left))))
      generalize upd H1 a (.ins C dx (putF "left" (.int ((z.left : Int) - ((min t z.left : Nat) : Int))) (oL true z.what.k z.what.n z.what.x (Ks184.raised z.what.n z.now (min t z.left)) z.left))) = H2 at h2 g2 ⊢
      have hO2 : OpAt C H2 a (some { z with done := z.done + min t z.left, now := Ks184.raised z.what.n z.now (min t z.left) }) := by
        refine ⟨dx, h2.trans (congrArg (fun z => some (HO.ins C dx z)) ?_)⟩
        show _ = oL true z.what.k z.what.n z.what.x (Ks184.raised z.what.n z.now (min t z.left)) (2 ^ z.what.k - (z.done + min t z.left))
        rw [Nat.sub_add_eq]
        rfl
      have q3 := Told.after (s := some { z with done := z.done + min t z.left, now := Ks184.raised z.what.n z.now (min t z.left) }) (ans := [((z.left - min t z.left : Nat) : Int), 0]) q hO2 g2
      exact ⟨_, rfl, a, C, dx, _, _, rfl, h2, T.cl, T.nL, oL_left .., (by show 1 ≤ sizeLine; decide), fun p1 n1 => ⟨(by show 0 ≤ sizeLine; decide), fun p2 n2 => told_one q3 p1 n1 p2 n2⟩⟩
theorem work_ok {s : Ks184Neutral.S} {t : Nat} (h : SOk s) : SOk (workAns s t).1 := by
  cases s with
  | none => exact h
  | some z =>
    obtain ⟨h1, h2, h3, h4⟩ := h
    refine ⟨h1, h2, Tm.raised_lt (Tm.fit_pos h1), ?_⟩
    show z.done + min t (2 ^ z.what.k - z.done) ≤ 2 ^ z.what.k
    omega
theorem begin_ok {s : Ks184Neutral.S} {k n x : Nat} (hn : n < 2 ^ 512) (h : SOk s) : SOk (beginAns s k n x).1 := by
  unfold beginAns
  by_cases c : Ks184.What.fit ⟨n, x, k⟩ = true
  · rw [if_pos c]
    exact ⟨c, hn, Nat.mod_lt _ (Tm.fit_pos c), Nat.zero_le _⟩
  · rw [if_neg c]
    exact h
/-! ### value -/
def valueAns (s : Ks184Neutral.S) : List Int := match s with
  | none => [-61]
  | some q => if 0 < q.left then [-1, 0] else 0 :: (Ks184Neutral.bytes64 (Ks184.face q.what.n q.now) ++ [0])
def spVal (C : Addr) : Sp := fun vs H Q _ => ∃ (a : Addr) (s : Ks184Neutral.S), vs = [.ref a] ∧ OpAt C H a s ∧ SOk s ∧ NewL H Q (iV (valueAns s))
theorem ok_val {C f f1 f2 f3 : Addr} {fd fd1 fd2 fd3 : FuncData} (F : Fun K "value" "Opening.value" sVal f fd) (T : TxtO K C) (A1 : At P w K mg base "face" 1 ["number", "n"] spFac f1 fd1) (A2 : At P w K mg base "told" 1 ["answered", "asked"] spTol f2 fd2) (A3 : At P w K mg base "bytes_of" 1 ["number"] spByt f3 fd3) :
    FnOk P w K mg base CX0 2 f fd ["self"] (spVal C) := by
  refine F.ok scVal (fun vs H Q E h => ?_) (fun cdv A outer s H vs Q E hr h => ?_)
  · obtain ⟨a, s, rfl, _⟩ := h
    rfl
  · obtain ⟨a, s, rfl, hO, hs, q⟩ := h
    refine ⟨_, pss_cons (ps_if (pt_not (pt_val (pe_fld (pv 0) rfl))) (pss_one (ps_ret (pe_lst (pa_cons (pe_un un_neg pe_int) pa_nil)))) pss_nil)
      (pss_cons (ps_if (pt_cmpR op_gt (pe_fld (pv 0) rfl) pe_int (nomark _)) (pss_one (ps_ret (pe_call A2.ok hr rfl A2.nm A2.kp A2.bd .nil pass0 (pa_cons (pe_lst (pa_cons (pe_un un_neg pe_int) pa_nil)) (pa_cons (pe_lst pa_nil) pa_nil))))) pss_nil)
      (pss_one (ps_ret (pe_call A2.ok hr rfl A2.nm A2.kp A2.bd .nil pass0 (pa_cons (pe_op op_cat (pe_lst (pa_cons pe_int pa_nil)) (pe_call A3.ok hr rfl A3.nm A3.kp A3.bd .nil pass0 (pa_cons (pe_call A1.ok hr rfl A1.nm A1.kp A1.bd .nil pass0 (pa_cons (pe_fld (pv 0) rfl) (pa_cons (pe_fld (pv 0) rfl) pa_nil))) pa_nil))) (pa_cons (pe_lst pa_nil) pa_nil)))))), ?_⟩
    have hO0 := hO
    obtain ⟨dx, ho⟩ := hO
    cases s with
    | none =>
      refine ⟨_, rfl, a, C, dx, _, _, rfl, ho, T.cl, T.nB, oL_begun .., _, rfl, ?_⟩
      refine iteT ?_
      exact ⟨_, rfl, (by show 1 ≤ sizeLine; decide), fun p1 h1 => q _ p1 (Same.put h1) h1 upd_same⟩
    | some z =>
      obtain ⟨hf, hn, hw, hd⟩ := hs
      refine ⟨_, rfl, a, C, dx, _, _, rfl, ho, T.cl, T.nB, oL_begun .., _, rfl, ?_⟩
      refine iteF ?_
      refine ⟨_, rfl, a, C, dx, _, _, rfl, ho, T.cl, T.nL, oL_left .., _, _, rfl, rfl, _, rfl, ?_⟩
      by_cases c : 0 < z.left
      · refine if_true_of (decide_eq_true (by omega)) ?_
        have q2 : NewL H Q (iV [-1, 0]) := by
          unfold valueAns at q
          dsimp only at q
          rw [if_pos c] at q
          exact q
        exact ⟨_, rfl, (by show 1 ≤ sizeLine; decide), fun p1 h1 => ⟨(by show 0 ≤ sizeLine; decide), fun p2 h2 => told_one q2 p1 h1 p2 h2⟩⟩
      · refine if_false_of (decide_eq_false (by omega)) ?_
        have q2 : NewL H Q (iV (0 :: (Ks184Neutral.bytes64 (Ks184.face z.what.n z.now) ++ [0]))) := by
          unfold valueAns at q
          dsimp only at q
          rw [if_neg c] at q
          exact q
        refine ⟨(by show 1 ≤ sizeLine; decide), fun p1 h1 => ?_⟩
        have s1 := Same.put (o := .lst [V.int 0]) h1
        refine ⟨_, rfl, a, C, dx, _, _, rfl, s1 _ _ ho, T.cl, T.nR, oL_reached .., _, rfl, a, C, dx, _, _, rfl, s1 _ _ ho, T.cl, T.nN, oL_n .., ?_⟩
        refine ⟨z.now, z.what.n, rfl, Tm.fit_pos hf, _, rfl, fun H2 p2 s2 n2 h2 => ?_⟩
        have lb : (nV (Ks184Neutral.bytesOf (Ks184.face z.what.n z.now))).length = 64 := by rw [List.length_map, Tm.bytesOf_length]
        refine ⟨p1, p2, _, _, rfl, rfl, s2 _ _ upd_same, h2, ?_, fun p3 h3 => ?_⟩
        · rw [lb]
          decide
        have s3 := Same.put (o := .lst ([V.int 0] ++ nV (Ks184Neutral.bytesOf (Ks184.face z.what.n z.now)))) h3
        refine ⟨(by show 0 ≤ sizeLine; decide), fun p4 h4 => ?_⟩
        have s4 := Same.put (o := .lst []) h4
        refine ⟨p3, p4, _, [], [], rfl, s4 _ _ upd_same, upd_same, rfl, ?_, ?_, ?_⟩
        · intro i q0 ys e1 e2
          cases e1
        · rw [List.length_append, lb]
          decide
        · intro H' p sP nP hP
          refine q2 H' p ((((s1.trans s2).trans s3).trans s4).trans sP) ((((s1.trans s2).trans s3).trans s4).free nP) ?_
          rw [hP]
          refine congrArg (fun x => some (HO.lst x)) ?_
          show _ = V.int 0 :: iV (Ks184Neutral.ints (Ks184Neutral.bytesOf (Ks184.face z.what.n z.now)) ++ [0])
          rw [iV, List.map_append]
          show _ = V.int 0 :: (iV (Ks184Neutral.ints (Ks184Neutral.bytesOf (Ks184.face z.what.n z.now))) ++ [V.int 0])
          rw [iV_ints]
          simp
end Tl

/-! ## TShow -/
namespace Tl
open PySem PySem.Spec PyProof.Rows L2
open Ks184Neutral (given bytes64)
variable {P : Program} {w : World} {K : PySem.W.Frag} {mg : Str → Option Value} {base : Heap}
/-! ### what was asked, in the claim's list -/
structure Lots (H : Hp) (M p r : Addr) (es : List Ks184.Ev) (qs : List Addr) : Prop where
  mm : H M = some (.lst (qs.map V.ref))
  ln : qs.length = es.length
  at_ : ∀ (i : Nat) (q : Addr) (e : Ks184.Ev), qs[i]? = some q → es[i]? = some e → H q = some (.lst (iV (Tm.told1 e)))
  ne : ∀ q ∈ qs, q ≠ M ∧ q ≠ p ∧ q ≠ r
theorem Lots.nil {H : Hp} {M p r : Addr} (h : H M = some (.lst [])) : Lots H M p r [] [] :=
  ⟨h, rfl, (fun i q e h1 _ => by simp at h1), (fun q hq => by simp at hq)⟩
theorem Lots.keep {H H' : Hp} {M p r : Addr} {es : List Ks184.Ev} {qs : List Addr} (L : Lots H M p r es qs) (f : ∀ x o, H x = some o → x ≠ p → x ≠ r → H' x = some o) (hp : M ≠ p) (hr : M ≠ r) : Lots H' M p r es qs :=
  ⟨f _ _ L.mm hp hr, L.ln, fun i q e h1 h2 => f _ _ (L.at_ i q e h1 h2) (L.ne q (List.mem_of_getElem? h1)).2.1 (L.ne q (List.mem_of_getElem? h1)).2.2, L.ne⟩
theorem Lots.same {H H' : Hp} {M p r : Addr} {es : List Ks184.Ev} {qs : List Addr} (L : Lots H M p r es qs) (s : Same H H') : Lots H' M p r es qs :=
  ⟨s _ _ L.mm, L.ln, fun i q e h1 h2 => s _ _ (L.at_ i q e h1 h2), L.ne⟩
theorem snoc_get {α : Type} {l : List α} {x y : α} {i : Nat} (h : (l ++ [x])[i]? = some y) : l[i]? = some y ∨ (i = l.length ∧ y = x) := by
  by_cases c : i < l.length
  · rw [List.getElem?_append_left c] at h
    exact .inl h
  · rw [List.getElem?_append_right (by omega)] at h
    cases e : i - l.length with
    | zero =>
      rw [e] at h
      exact .inr ⟨by omega, (Option.some.inj h).symm⟩
    | succ j =>
      rw [e] at h
      cases h
theorem Lots.more {H H' : Hp} {M p r : Addr} {es : List Ks184.Ev} {qs : List Addr} (L : Lots H M p r es qs) {y : Addr} {e : Ks184.Ev} (hM : H' M = some (.lst (qs.map V.ref ++ [V.ref y]))) (hy : H' y = some (.lst (iV (Tm.told1 e)))) (n1 : y ≠ M) (n2 : y ≠ p) (n3 : y ≠ r) (f : Fr2 p M H H') :
    Lots H' M p r (es ++ [e]) (qs ++ [y]) := by
  refine ⟨?_, ?_, fun i q ev h1 h2 => ?_, fun q hq => ?_⟩
  · rw [hM, List.map_append]
    rfl
  · rw [List.length_append, List.length_append, L.ln]
    rfl
  · have ln := L.ln
    rcases snoc_get h1 with g1 | ⟨i1, rfl⟩
    · have hi : i < qs.length := (List.getElem?_eq_some_iff.mp g1).1
      rcases snoc_get h2 with g2 | ⟨i2, _⟩
      · have nn := L.ne q (List.mem_of_getElem? g1)
        exact f _ _ (L.at_ i q ev g1 g2) nn.2.1 nn.1
      · omega
    · rcases snoc_get h2 with g2 | ⟨i2, rfl⟩
      · have hi : i < es.length := (List.getElem?_eq_some_iff.mp g2).1
        omega
      · exact hy
  · rcases List.mem_append.mp hq with h | h
    · exact L.ne q h
    · obtain rfl := List.mem_singleton.mp h
      exact ⟨n1, n2, n3⟩
theorem flat_told : ∀ es : List Ks184.Ev, (es.map fun e => iV (Tm.told1 e)).flatten = iV (es.flatMap Tm.told1)
  | [] => rfl
  | e :: es => by
    rw [List.map_cons, List.flatten_cons, flat_told es, List.flatMap_cons]
    exact List.map_append.symm
theorem told1_le (e : Ks184.Ev) : (Tm.told1 e).length ≤ 194 := by
  cases e with
  | mix y z =>
    show (Ks184Neutral.bytes64 y).length + 1 ≤ 194
    rw [Tm.bytes64_length]
    decide
  | lot n a b d t r =>
    show (Ks184Neutral.bytes64 a ++ Ks184Neutral.bytes64 b ++ Ks184Neutral.bytes64 d ++ [(t : Int)]).length + 1 ≤ 194
    rw [List.length_append, List.length_append, List.length_append, Tm.bytes64_length, Tm.bytes64_length, Tm.bytes64_length]
    show 64 + 64 + 64 + 1 + 1 ≤ 194
    decide
theorem flat_le : ∀ es : List Ks184.Ev, (es.flatMap Tm.told1).length ≤ 194 * es.length
  | [] => Nat.le_refl _
  | e :: es => by
    have h1 := told1_le e
    have h2 := flat_le es
    rw [List.flatMap_cons, List.length_append, List.length_cons]
    omega
/-- told of what was asked by a claim -/
theorem told_lots {H : Hp} {Q : VK} {p1 M p r : Addr} {xs : List Int} {es : List Ks184.Ev} {qs : List Addr} (L : Lots H M p r es qs) (h1 : H p1 = some (.lst (iV xs))) (hx : xs.length ≤ 2000) (he : es.length ≤ 20)
    (q : NewL H Q (iV (xs ++ ((es.length : Int) :: es.flatMap Tm.told1)))) : spTol [.ref p1, .ref M] H Q E0 := by
  refine ⟨p1, M, iV xs, qs, es.map fun e => iV (Tm.told1 e), rfl, h1, L.mm, by rw [List.length_map, L.ln], ?_, ?_, ?_⟩
  · intro i q0 ys e1 e2
    rw [List.getElem?_map] at e2
    cases e : es[i]? with
    | none =>
      rw [e] at e2
      cases e2
    | some ev =>
      rw [e] at e2
      obtain rfl : iV (Tm.told1 ev) = ys := Option.some.inj e2
      exact L.at_ i q0 ev e1 e
  · have h2 := flat_le es
    have hz : sizeLine = 16777216 := rfl
    rw [flat_told, List.length_map, List.length_map]
    omega
  · have e : iV xs ++ [V.int (qs.length : Int)] ++ (es.map fun e => iV (Tm.told1 e)).flatten = iV (xs ++ ((es.length : Int) :: es.flatMap Tm.told1)) := by
      rw [flat_told, L.ln, iV, iV, iV, List.map_append, List.map_cons, List.append_assoc]
      rfl
    rw [e]
    exact q
theorem made_free {H : Hp} {x dx M : Addr} {o1 o2 : HO} (h : upd (upd H dx o1) x o2 M = none) : H M = none ∧ M ≠ x := by
  have h1 : M ≠ x := fun e => by
    subst e
    rw [upd_same] at h
    cases h
  rw [upd_ne h1] at h
  have h2 : M ≠ dx := fun e => by
    subst e
    rw [upd_same] at h
    cases h
  rw [upd_ne h2] at h
  exact ⟨h, h1⟩
theorem NewL.later {H H' : Hp} {Q : VK} {xs : List V} (q : NewL H Q xs) (s : Same H H') : NewL H' Q xs := fun H2 p sP nP hP => q H2 p (s.trans sP) (s.free nP) hP
/-- k, k - 1, .. 1 -/
theorem rgc_down {k : Nat} (h : k ≤ 20) : RgC (k : Int) 0 (-1) k := by
  have z := RgC.neg (i := (k : Int)) (j := 0) (by omega) (by omega) (by omega) (by omega)
  rw [show ((k : Int) - 0).toNat = k by omega] at z
  exact z
/-! ### show -/
abbrev sShw : Stmt := inClass (top 15) 4
theorem scShw : FnScope ["self", "claim", "proof", "t", "c"] ["self"] (defScope sShw) := ⟨rfl, rfl, rfl, by decide +kernel, rfl, by decide +kernel, by decide +kernel⟩
def showGo (k : Nat) (p : List Nat) (es : List Ks184.Ev) : List Int := (k : Int) :: (p.flatMap bytes64 ++ ((es.length : Int) :: es.flatMap Tm.told1))
def showAns (s : Ks184Neutral.S) : List Int := match s with
  | none => [-61]
  | some q => if 0 < q.left then [-1, 0] else showGo q.what.k (Ks184.proof given q.what.n q.what.k q.what.x (Ks184.face q.what.n q.now)) (Ks184.asks given q.what.n q.what.k q.what.x (Ks184.face q.what.n q.now) (Ks184.proof given q.what.n q.what.k q.what.x (Ks184.face q.what.n q.now)))
def spShw (C : Addr) : Sp := fun vs H Q _ => ∃ (a : Addr) (s : Ks184Neutral.S), vs = [.ref a] ∧ OpAt C H a s ∧ SOk s ∧ NewL H Q (iV (showAns s))
theorem ok_shw {C CC f f0 f1 f2 f3 f4 f5 : Addr} {fd fd0 fd1 fd2 fd3 fd4 fd5 : FuncData} (F : Fun K "show" "Opening.show" sShw f fd) (T : TxtO K C) (TC : TxtC K CC) (gC : mg "Claim" = some (.ref CC)) (KC : Mk K CC f0) (GC : FnOk P w K mg base CX0 1 f0 fd0 ["self", "n", "a", "b"] (spCin CC)) (bC : Binds K fd0 ["self", "n", "a", "b"] [])
    (MH : MAt P w K mg base CC "halve" 2 ["self", "c", "t"] (spHal CC) f1 fd1) (A1 : At P w K mg base "face" 1 ["number", "n"] spFac f2 fd2) (A2 : At P w K mg base "told" 1 ["answered", "asked"] spTol f3 fd3) (A3 : At P w K mg base "bytes_of" 1 ["number"] spByt f4 fd4)
    (A4 : At P w K mg base "raised" 1 ["number", "times", "n"] spRai f5 fd5) (mR : mg "range" = none) : FnOk P w K mg base CX0 3 f fd ["self"] (spShw C) := by
  refine F.ok scShw (fun vs H Q E h => ?_) (fun cdv A outer s H vs Q E hr h => ?_)
  · obtain ⟨a, s, rfl, _⟩ := h
    rfl
  · obtain ⟨a, s, rfl, hO, hs, q⟩ := h
    have hr1 : Room 1 _ := hr.mono (by decide)
    refine ⟨_, pss_cons (ps_if (pt_not (pt_val (pe_fld (pv 0) rfl))) (pss_one (ps_ret (pe_lst (pa_cons (pe_un un_neg pe_int) pa_nil)))) pss_nil)
      (pss_cons (ps_if (pt_cmpR op_gt (pe_fld (pv 0) rfl) pe_int (nomark _)) (pss_one (ps_ret (pe_call A2.ok hr1 rfl A2.nm A2.kp A2.bd .nil pass0 (pa_cons (pe_lst (pa_cons (pe_un un_neg pe_int) pa_nil)) (pa_cons (pe_lst pa_nil) pa_nil))))) pss_nil)
      (pss_cons (ps_set (i := 1) scShw.nd rfl (Or.inl rfl) (pe_make KC GC hr rfl gC bC .nil pass0 (pa_cons (pe_fld (pv 0) rfl) (pa_cons (pe_fld (pv 0) rfl) (pa_cons (pe_call A1.ok hr1 rfl A1.nm A1.kp A1.bd .nil pass0 (pa_cons (pe_fld (pv 0) rfl) (pa_cons (pe_fld (pv 0) rfl) pa_nil))) pa_nil)))))
      (pss_cons (ps_set (i := 2) scShw.nd rfl (Or.inl rfl) (pe_lst pa_nil))
      (pss_cons (ps_for PassesOwn.never rfl (pi_range3 rfl mR (pa_cons (pe_fld (pv 0) rfl) (pa_cons pe_int (pa_cons (pe_un un_neg pe_int) pa_nil)))) (pg_name (i := 3) scShw.nd rfl (Or.inl rfl))
        (pss_cons (ps_set (i := 4) scShw.nd rfl (Or.inl rfl) (pe_call A1.ok hr1 rfl A1.nm A1.kp A1.bd .nil pass0 (pa_cons (pe_call A4.ok hr1 rfl A4.nm A4.kp A4.bd .nil pass0 (pa_cons (pe_fld (pv 1) rfl) (pa_cons (pe_op op_oneShl pe_int (pe_op op_sub (pv 3) pe_int)) (pa_cons (pe_fld (pv 0) rfl) pa_nil)))) (pa_cons (pe_fld (pv 0) rfl) pa_nil))))
        (pss_cons (ps_expr (pe_bm PySem.F.plainAttrs_list PySem.F.slot_list_extend PySem.F.type_list_extend mt_extend (pv 2) (pa_cons (pe_call A3.ok hr1 rfl A3.nm A3.kp A3.bd .nil pass0 (pa_cons (pv 4) pa_nil)) pa_nil)))
        (pss_one (ps_expr (pe_meth (pv 1) TC.cl MH.me MH.ok hr MH.bd .nil pass0 (pa_cons (pv 4) (pa_cons (pv 3) pa_nil))))))))
      (pss_one (ps_ret (pe_call A2.ok hr1 rfl A2.nm A2.kp A2.bd .nil pass0 (pa_cons (pe_op op_cat (pe_lst (pa_cons (pe_fld (pv 0) rfl) pa_nil)) (pv 2)) (pa_cons (pe_fld (pv 1) rfl) pa_nil))))))))), ?_⟩
    have hO0 := hO
    obtain ⟨dx, ho⟩ := hO
    cases s with
    | none =>
      refine ⟨_, rfl, a, C, dx, _, _, rfl, ho, T.cl, T.nB, oL_begun .., _, rfl, ?_⟩
      refine iteT ?_
      exact ⟨_, rfl, (by show 1 ≤ sizeLine; decide), fun p1 h1 => q _ p1 (Same.put h1) h1 upd_same⟩
    | some z =>
      obtain ⟨hf, hn, hw, hd⟩ := hs
      have fi := (Tm.fit_iff z.what).mp hf
      refine ⟨_, rfl, a, C, dx, _, _, rfl, ho, T.cl, T.nB, oL_begun .., _, rfl, ?_⟩
      refine iteF ?_
      refine ⟨_, rfl, a, C, dx, _, _, rfl, ho, T.cl, T.nL, oL_left .., _, _, rfl, rfl, _, rfl, ?_⟩
      by_cases c : 0 < z.left
      · refine if_true_of (decide_eq_true (by omega)) ?_
        have q2 : NewL H Q (iV [-1, 0]) := by
          unfold showAns at q
          dsimp only at q
          rw [if_pos c] at q
          exact q
        exact ⟨_, rfl, (by show 1 ≤ sizeLine; decide), fun p1 h1 => ⟨(by show 0 ≤ sizeLine; decide), fun p2 h2 => told_one q2 p1 h1 p2 h2⟩⟩
      · refine if_false_of (decide_eq_false (by omega)) ?_
        have q2 : NewL H Q (iV (showGo z.what.k (Ks184.proof given z.what.n z.what.k z.what.x (Ks184.face z.what.n z.now)) (Ks184.asks given z.what.n z.what.k z.what.x (Ks184.face z.what.n z.now) (Ks184.proof given z.what.n z.what.k z.what.x (Ks184.face z.what.n z.now))))) := by
          unfold showAns at q
          dsimp only at q
          rw [if_neg c] at q
          exact q
        have hn0 : 0 < z.what.n := Tm.fit_pos hf
        have n1 : 1 < z.what.n := Nat.lt_of_lt_of_le (by decide) fi.2.1
        have hxn : z.what.x < z.what.n := Tm.small_lt fi.2.2.1
        have hk : z.what.k ≤ 20 := fi.2.2.2.2.2
        have ho' : H a = some (.ins C dx (oL true z.what.k z.what.n z.what.x z.now z.left)) := ho
        have hyn : Ks184.face z.what.n z.now < z.what.n := Tm.face_lt hn0
        clear hf fi hd
        -- claim = Claim(..)
        refine ⟨_, rfl, a, C, dx, _, _, rfl, ho', T.cl, T.nN, oL_n .., _, rfl, a, C, dx, _, _, rfl, ho', T.cl, T.nX, oL_x .., _, rfl, a, C, dx, _, _, rfl, ho', T.cl, T.nR, oL_reached .., _, rfl, a, C, dx, _, _, rfl, ho', T.cl, T.nN, oL_n .., z.now, z.what.n, rfl, hn0, fun cl cx ncl ncx ncc => ?_⟩
        refine ⟨cl, cx, z.what.n, z.what.x, Ks184.face z.what.n z.now, rfl, upd_same, fun H1 M hc1 nM hM1 f1 => ⟨rfl, ?_⟩⟩
        have s1 : Same H H1 := Same.made ncl ncx f1
        obtain ⟨nMH, nMc⟩ := made_free nM
        generalize z.what.n = n at *
        generalize z.what.k = k at *
        generalize z.what.x = x at *
        generalize hy : Ks184.face n z.now = y at *
        generalize hp : Ks184.proof given n k x y = whole at *
        generalize he : Ks184.asks given n k x y whole = wasks at *
        have lw : whole.length = k := by rw [← hp, Tm.proof_length]
        have la : wasks.length = k := by rw [← he, Tm.asks_length]
        -- proof = []
        refine ⟨(by show 0 ≤ sizeLine; decide), fun pr npr => ?_⟩
        have s2 := Same.put (o := .lst []) npr
        have nprH : H pr = none := s1.free npr
        have prM : pr ≠ M := Ne.symm (ne_of_none hM1 npr)
        have prc : pr ≠ cl := Ne.symm (ne_of_none hc1 npr)
        have e2 : upd H1 pr (.lst []) pr = some (.lst []) := upd_same
        generalize upd H1 pr (.lst []) = H2 at s2 e2 ⊢
        refine ⟨_, rfl, a, C, dx, _, _, rfl, (s1.trans s2) _ _ ho', T.cl, T.nK, oL_k .., _, rfl, (k : Int), 0, -1, k, rfl, rgc_down hk, ?_⟩
        refine for_rangeC (lo := (k : Int)) (c := -1) (n := k) (fun i σ H' => ∃ (v1 v2 : Option V) (a1 b1 : Nat) (done : List Nat) (es : List Ks184.Ev) (qs : List Addr), σ = [some (.ref a), some (.ref cl), some (.ref pr), v1, v2] ∧ Same H H' ∧
            H' cl = some (.ins CC cx (cF n a1 b1 M)) ∧ H' pr = some (.lst (iV (done.flatMap bytes64))) ∧ Lots H' M cl pr es qs ∧ a1 < n ∧ b1 < n ∧ done.length = i ∧ es.length = i ∧
            done ++ Ks184.proof given n (k - i) a1 b1 = whole ∧ es ++ Ks184.asks given n (k - i) a1 b1 (Ks184.proof given n (k - i) a1 b1) = wasks) ?_ ?_ ?_
        · exact ⟨none, none, x, y, [], [], [], rfl, s1.trans s2, s2 _ _ hc1, e2, Lots.nil (s2 _ _ hM1), hxn, hyn, rfl, rfl, hp, by rw [List.nil_append, Nat.sub_zero, hp, he]⟩
        · rintro i σ H3 hi ⟨v1, v2, a1, b1, done, es, qs, rfl, s3, hc3, hp3, L, ha1, hb1, ld, le, w1, w2⟩
          obtain ⟨t, ht⟩ : ∃ t, k - i = t + 1 := ⟨k - i - 1, by omega⟩
          have et : (k : Int) + (i : Nat) * (-1) = ((t + 1 : Nat) : Int) := by omega
          rw [et]
          rw [ht] at w1 w2
          -- c = face(raised(..))
          have et1 : ((t + 1 : Nat) : Int) - 1 = (t : Int) := by omega
          refine ⟨_, rfl, cl, CC, cx, _, _, rfl, hc3, TC.cl, TC.nA, cF_a .., _, rfl, _, _, rfl, rfl, t, rfl, congrArg V.int et1, by omega, _, rfl, a, C, dx, _, _, rfl, s3 _ _ ho', T.cl, T.nN, oL_n .., a1, 2 ^ t, n, by rw [Int.natCast_pow]; rfl, hn0, hn, ?_, ?_⟩
          · exact Nat.lt_of_le_of_lt (Nat.pow_le_pow_right (by decide) (show t ≤ 20 by omega)) (by decide)
          have hc : Ks184.face n (Ks184.raised n a1 (2 ^ t)) = Ks184.half n a1 (t + 1) := (Tm.half_eq n a1 t).symm
          refine ⟨_, rfl, a, C, dx, _, _, rfl, s3 _ _ ho', T.cl, T.nN, oL_n .., Ks184.raised n a1 (2 ^ t), n, rfl, hn0, ?_⟩
          have hcn : Ks184.face n (Ks184.raised n a1 (2 ^ t)) < n := Tm.face_lt hn0
          rw [Tm.proof_succ, ← hc] at w1 w2
          rw [Tm.asks_succ] at w2
          generalize Ks184.face n (Ks184.raised n a1 (2 ^ t)) = c at *
          -- proof.extend(bytes_of(c))
          refine ⟨_, rfl, .inl ⟨rfl, _, SqL.of hp3⟩, _, rfl, c, rfl, fun H4 pb s4 nb hb => ?_⟩
          refine ⟨pr, pb, _, _, rfl, rfl, s4 _ _ hp3, hb, ?_, ?_⟩
          · rw [List.length_map, List.length_map, Tm.bytesOf_length, Tm.flat64_length, ld]
            show 64 * i + 64 ≤ 16777216
            omega
          have e5 : upd H4 pr (.lst (iV (done.flatMap bytes64) ++ nV (Ks184Neutral.bytesOf c))) pr = some (.lst (iV ((done ++ [c]).flatMap bytes64))) := by
            rw [upd_same, List.flatMap_append]
            refine congrArg (fun z => some (HO.lst z)) ?_
            rw [iV, iV, List.map_append]
            refine congrArg (List.map V.int (done.flatMap bytes64) ++ ·) ?_
            show nV (Ks184Neutral.bytesOf c) = iV (Ks184Neutral.ints (Ks184Neutral.bytesOf c) ++ [])
            rw [List.append_nil, iV_ints]
          have k5 : ∀ u o, H3 u = some o → u ≠ pr → upd H4 pr (.lst (iV (done.flatMap bytes64) ++ nV (Ks184Neutral.bytesOf c))) u = some o := fun u o e nu => (upd_ne nu).trans (s4 _ _ e)
          generalize upd H4 pr (.lst (iV (done.flatMap bytes64) ++ nV (Ks184Neutral.bytesOf c))) = H5 at e5 k5 ⊢
          have L5 : Lots H5 M cl pr es qs := L.keep (fun u o e _ nu => k5 u o e nu) nMc (Ne.symm prM)
          have hc5 : H5 cl = some (.ins CC cx (cF n a1 b1 M)) := k5 _ _ hc3 (Ne.symm prc)
          -- claim.halve(c, t)
          refine ⟨_, rfl, cl, cx, _, rfl, hc5, cF_other _ _ _ _ (by decide +kernel) (by decide +kernel) (by decide +kernel) (by decide +kernel), _, rfl, _, rfl, cl, cx, M, n, a1, b1, c, t + 1, qs.map V.ref, rfl, hc5, L5.mm, n1, hn, Nat.lt_trans hb1 hn, Nat.lt_trans hcn hn, ?_, fun H6 u hc6 hM6 nu nu1 nu2 hu f6 => ?_⟩
          · rw [List.length_map, L.ln]
            omega
          have upr : u ≠ pr := Ne.symm (ne_of_none e5 nu)
          refine ⟨_, _, (Ks184.next n (given.lot n a1 b1 c (t + 1)) a1 b1 c).1, (Ks184.next n (given.lot n a1 b1 c (t + 1)) a1 b1 c).2, done ++ [c], es ++ [.lot n a1 b1 c (t + 1) (given.lot n a1 b1 c (t + 1))], qs ++ [u], rfl, fun v o e => ?_, hc6, f6 _ _ e5 prc prM, L5.more hM6 hu nu2 nu1 upr f6, (Tm.next_lt hn0).1, (Tm.next_lt hn0).2, ?_, ?_, ?_, ?_⟩
          · have v1 : v ≠ cl := ne_of_none e ncl
            have v2 : v ≠ M := ne_of_none e nMH
            have v3 : v ≠ pr := ne_of_none e nprH
            exact f6 _ _ (k5 _ _ (s3 _ _ e) v3) v1 v2
          · rw [List.length_append, ld]
            rfl
          · rw [List.length_append, le]
            rfl
          · rw [show k - (i + 1) = t by omega, List.append_assoc]
            exact w1
          · rw [show k - (i + 1) = t by omega, List.append_assoc]
            exact w2
        · rintro σ H3 ⟨v1, v2, a1, b1, done, es, qs, rfl, s3, hc3, hp3, L, ha1, hb1, ld, le, w1, w2⟩
          rw [Nat.sub_self] at w1 w2
          have w1' : done = whole := (List.append_nil done).symm.trans w1
          have w2' : es = wasks := (List.append_nil es).symm.trans w2
          subst w1' w2'
          refine ⟨_, rfl, a, C, dx, _, _, rfl, s3 _ _ ho', T.cl, T.nK, oL_k .., (by show 1 ≤ sizeLine; decide), fun p1 h1 => ?_⟩
          have s4 := Same.put (o := .lst [V.int (k : Int)]) h1
          refine ⟨_, rfl, p1, pr, _, _, rfl, rfl, upd_same, s4 _ _ hp3, ?_, fun p2 h2 => ?_⟩
          · rw [List.length_map, Tm.flat64_length, ld]
            show 1 + 64 * k ≤ 16777216
            omega
          have s5 := Same.put (o := .lst ([V.int (k : Int)] ++ iV (done.flatMap bytes64))) h2
          refine ⟨_, rfl, cl, CC, cx, _, _, rfl, s5 _ _ (s4 _ _ hc3), TC.cl, TC.nQ, cF_asked .., ?_⟩
          refine told_lots (xs := (k : Int) :: done.flatMap bytes64) ((L.same s4).same s5) upd_same ?_ (by omega) ?_
          · rw [List.length_cons, Tm.flat64_length, ld]
            omega
          · exact q2.later ((s3.trans s4).trans s5)
end Tl

/-! ## TRight -/
namespace Tl
open PySem PySem.Spec PyProof.Rows L2
open Ks184Neutral (given numbers)
variable {P : Program} {w : World} {K : PySem.W.Frag} {mg : Str → Option Value} {base : Heap}
/-! ### right -/
abbrev sRgt : Stmt := top 19
theorem scRgt : FnScope ["k", "n", "x", "y", "proof", "middles", "number", "claim", "t"] ["k", "n", "x", "y", "proof"] (defScope sRgt) := ⟨rfl, rfl, rfl, by decide +kernel, rfl, by decide +kernel, by decide +kernel⟩
def rightGo (k n x y : Nat) (p : List Nat) : List Int := (if Ks184.What.right ⟨n, x, k⟩ given y p = true then (0 : Int) else -13) :: (((Ks184.asks given n k x y p).length : Int) :: (Ks184.asks given n k x y p).flatMap Tm.told1)
def rightAns (k n x y : Nat) (l : List Nat) : List Int := if Ks184.What.fit ⟨n, x, k⟩ = false then [-22, 0] else if Ks184.small n y = false ∨ (numbers l).all (Ks184.small n) = false then [-13, 0] else rightGo k n x y (numbers l)
def spRgt (K : PySem.W.Frag) : Sp := fun vs H Q _ => ∃ (k n x y : Nat) (a : Addr) (l : List Nat), vs = [.int (k : Int), .int (n : Int), .int (x : Int), .int (y : Int), .ref a] ∧ n < 2 ^ 512 ∧ SqL K H a (nV l) ∧ l.length % 64 = 0 ∧ l.length ≤ 1280 ∧
  (Ks184.What.fit ⟨n, x, k⟩ = true → l.length = 64 * k) ∧ NewL H Q (iV (rightAns k n x y l))
theorem all_more {f : Nat → Bool} {l : List Nat} {i z : Nat} (h : (l.take i).all f = true) (e : l[i]? = some z) (g : f z = true) : (l.take (i + 1)).all f = true := by
  rw [take_more e, List.all_append, h, List.all_cons, g]
  rfl
theorem not_all {f : Nat → Bool} {l : List Nat} {i z : Nat} (e : l[i]? = some z) (g : f z = false) : l.all f = false := by
  cases h : l.all f with
  | false => rfl
  | true =>
    have q := List.all_eq_true.mp h z (List.mem_of_getElem? e)
    rw [g] at q
    cases q
theorem drop_head {l : List Nat} {i c : Nat} (e : l[i]? = some c) : l.drop i = c :: l.drop (i + 1) := by
  have h : i < l.length := (List.getElem?_eq_some_iff.mp e).1
  rw [List.drop_eq_getElem_cons h]
  rw [List.getElem?_eq_getElem h] at e
  rw [Option.some.inj e]
theorem ok_rgt {CC f f0 f1 f2 f3 f4 f5 f6 : Addr} {fd fd0 fd1 fd2 fd3 fd4 fd5 fd6 : FuncData} (F : Fun K "right" "right" sRgt f fd) (TC : TxtC K CC) (gC : mg "Claim" = some (.ref CC)) (KC : Mk K CC f0) (GC : FnOk P w K mg base CX0 1 f0 fd0 ["self", "n", "a", "b"] (spCin CC)) (bC : Binds K fd0 ["self", "n", "a", "b"] [])
    (MH : MAt P w K mg base CC "halve" 2 ["self", "c", "t"] (spHal CC) f1 fd1) (ML : MAt P w K mg base CC "holds_at_last" 2 ["self"] (spHol CC) f2 fd2) (A1 : At P w K mg base "is_fit" 2 ["n", "x", "k"] spFit f3 fd3) (A2 : At P w K mg base "told" 1 ["answered", "asked"] spTol f4 fd4)
    (A3 : At P w K mg base "numbers_of" 2 ["row"] (spNms K) f5 fd5) (A4 : At P w K mg base "is_small" 1 ["number", "n"] spSml f6 fd6) (mR : mg "range" = none) : FnOk P w K mg base CX0 3 f fd ["k", "n", "x", "y", "proof"] (spRgt K) := by
  refine F.ok scRgt (fun vs H Q E h => ?_) (fun cdv A outer s H vs Q E hr h => ?_)
  · obtain ⟨k, n, x, y, a, l, rfl, _⟩ := h
    rfl
  · obtain ⟨k, n, x, y, a, l, rfl, hn, hS, hm, hl, hfl, q⟩ := h
    have hr1 : Room 1 _ := hr.mono (by decide)
    refine ⟨_, pss_cons (ps_if (pt_not (pt_val (pe_call A1.ok hr rfl A1.nm A1.kp A1.bd .nil pass0 (pa_cons (pv 1) (pa_cons (pv 2) (pa_cons (pv 0) pa_nil))))))
        (pss_one (ps_ret (pe_call A2.ok hr1 rfl A2.nm A2.kp A2.bd .nil pass0 (pa_cons (pe_lst (pa_cons (pe_un un_neg pe_int) pa_nil)) (pa_cons (pe_lst pa_nil) pa_nil))))) pss_nil)
      (pss_cons (ps_set (i := 5) scRgt.nd rfl (Or.inl rfl) (pe_call A3.ok hr rfl A3.nm A3.kp A3.bd .nil pass0 (pa_cons (pv 4) pa_nil)))
      (pss_cons (ps_for PassesOwn.never rfl (pi_list (pe_op op_cat (pe_lst (pa_cons (pv 3) pa_nil)) (pv 5))) (pg_name (i := 6) scRgt.nd rfl (Or.inl rfl))
        (pss_one (ps_if (pt_not (pt_val (pe_call A4.ok hr1 rfl A4.nm A4.kp A4.bd .nil pass0 (pa_cons (pv 6) (pa_cons (pv 1) pa_nil)))))
          (pss_one (ps_ret (pe_call A2.ok hr1 rfl A2.nm A2.kp A2.bd .nil pass0 (pa_cons (pe_lst (pa_cons (pe_un un_neg pe_int) pa_nil)) (pa_cons (pe_lst pa_nil) pa_nil))))) pss_nil)))
      (pss_cons (ps_set (i := 7) scRgt.nd rfl (Or.inl rfl) (pe_make KC GC hr rfl gC bC .nil pass0 (pa_cons (pv 1) (pa_cons (pv 2) (pa_cons (pv 3) pa_nil)))))
      (pss_cons (ps_for PassesOwn.never rfl (pi_range3 rfl mR (pa_cons (pv 0) (pa_cons pe_int (pa_cons (pe_un un_neg pe_int) pa_nil)))) (pg_name (i := 8) scRgt.nd rfl (Or.inl rfl))
        (pss_one (ps_expr (pe_meth (pv 7) TC.cl MH.me MH.ok hr MH.bd .nil pass0 (pa_cons (pe_ix ix_list (pv 5) (pe_op op_sub (pv 0) (pv 8)) (fun _ _ => rfl)) (pa_cons (pv 8) pa_nil))))))
      (pss_cons (ps_if (pt_val (pe_meth0 (pv 7) TC.cl ML.me ML.ok hr ML.bd .nil pass0))
        (pss_one (ps_ret (pe_call A2.ok hr1 rfl A2.nm A2.kp A2.bd .nil pass0 (pa_cons (pe_lst (pa_cons pe_int pa_nil)) (pa_cons (pe_fld (pv 7) rfl) pa_nil))))) pss_nil)
      (pss_one (ps_ret (pe_call A2.ok hr1 rfl A2.nm A2.kp A2.bd .nil pass0 (pa_cons (pe_lst (pa_cons (pe_un un_neg pe_int) pa_nil)) (pa_cons (pe_fld (pv 7) rfl) pa_nil)))))))))), ?_⟩
    refine ⟨_, rfl, _, rfl, _, rfl, n, x, k, rfl, _, rfl, ?_⟩
    cases c1 : Ks184.What.fit ⟨n, x, k⟩ with
    | false =>
      refine iteT ?_
      have q2 : NewL H Q (iV [-22, 0]) := by
        unfold rightAns at q
        rw [c1] at q
        exact q
      exact ⟨_, rfl, (by show 1 ≤ sizeLine; decide), fun p1 h1 => ⟨(by show 0 ≤ sizeLine; decide), fun p2 h2 => told_one q2 p1 h1 p2 h2⟩⟩
    | true =>
      refine iteF ?_
      have fi := (Tm.fit_iff ⟨n, x, k⟩).mp c1
      dsimp only at fi
      have hn0 : 0 < n := Tm.fit_pos c1
      have n1 : 1 < n := Nat.lt_of_lt_of_le (by decide) fi.2.1
      have hxn : x < n := Tm.small_lt fi.2.2.1
      have hk : k ≤ 20 := fi.2.2.2.2.2
      have lk : (numbers l).length = k := by
        rw [Tm.numbers_length, hfl c1]
        omega
      have q2 : NewL H Q (iV (if Ks184.small n y = false ∨ (numbers l).all (Ks184.small n) = false then [-13, 0] else rightGo k n x y (numbers l))) := by
        unfold rightAns at q
        rw [if_neg (by rw [c1]; decide)] at q
        exact q
      clear q
      -- middles = numbers_of(proof)
      refine ⟨_, rfl, a, l, rfl, hS, hm, hl, fun H1 pm s1 npm hpm => ?_⟩
      generalize numbers l = ms at *
      -- for number in [y] + middles
      refine ⟨_, rfl, (by show 1 ≤ sizeLine; decide), fun p1 h1 => ?_⟩
      have s2 := s1.trans (Same.put (o := .lst [V.int (y : Int)]) h1)
      have e1 : upd H1 p1 (.lst [V.int (y : Int)]) p1 = some (.lst [V.int (y : Int)]) := upd_same
      have hpm2 : upd H1 p1 (.lst [V.int (y : Int)]) pm = some (.lst (nV ms)) := Same.put h1 _ _ hpm
      generalize upd H1 p1 (.lst [V.int (y : Int)]) = H2 at s2 e1 hpm2 ⊢
      refine ⟨_, rfl, p1, pm, _, _, rfl, rfl, e1, hpm2, ?_, fun p2 h2 => ?_⟩
      · rw [List.length_map, lk]
        show 1 + k ≤ 16777216
        omega
      have s3 := s2.trans (Same.put (o := .lst ([V.int (y : Int)] ++ nV ms)) h2)
      have e3 : upd H2 p2 (.lst ([V.int (y : Int)] ++ nV ms)) p2 = some (.lst (nV (y :: ms))) := upd_same
      have hpm3 : upd H2 p2 (.lst ([V.int (y : Int)] ++ nV ms)) pm = some (.lst (nV ms)) := Same.put h2 _ _ hpm2
      generalize upd H2 p2 (.lst ([V.int (y : Int)] ++ nV ms)) = H3 at s3 e3 hpm3 ⊢
      refine ⟨p2, rfl, ⟨_, SqL.of e3⟩, for_list (K := K) (a := p2) (xs := nV (y :: ms)) (fun i σ H' => ∃ v : Option V, σ = [some (.int (k : Int)), some (.int (n : Int)), some (.int (x : Int)), some (.int (y : Int)), some (.ref a), some (.ref pm), v, none, none] ∧ H' = H3 ∧ ((y :: ms).take i).all (Ks184.small n) = true)
        ⟨none, rfl, rfl, rfl⟩ (fun i σ H' _ ⟨_, _, e, _⟩ => e ▸ SqL.of e3) ?_ ?_⟩
      · rintro i u σ H' hi ⟨v, rfl, rfl, hall⟩
        obtain ⟨z, hz, rfl⟩ := nV_get hi
        refine ⟨_, rfl, _, rfl, z, n, rfl, _, rfl, ?_⟩
        cases c2 : Ks184.small n z with
        | false =>
          refine iteT ?_
          have bad : (y :: ms).all (Ks184.small n) = false := not_all hz c2
          have q3 : NewL H Q (iV [-13, 0]) := by
            rw [if_pos] at q2
            · exact q2
            · rw [List.all_cons, Bool.and_eq_false_iff] at bad
              exact bad
          exact ⟨_, rfl, (by show 1 ≤ sizeLine; decide), fun p1 h1 => ⟨(by show 0 ≤ sizeLine; decide), fun p2 h2 => told_one (q3.later s3) p1 h1 p2 h2⟩⟩
        | true =>
          refine iteF ?_
          exact ⟨_, rfl, rfl, all_more hall hz c2⟩
      · rintro σ H' ⟨v, rfl, rfl, hall⟩
        rw [List.length_map, take_all, List.all_cons, Bool.and_eq_true] at hall
        obtain ⟨hy, hms⟩ := hall
        have hyn : y < n := Tm.small_lt hy
        have q3 : NewL H Q (iV (rightGo k n x y ms)) := by
          rw [if_neg] at q2
          · exact q2
          · rw [hy, hms]
            intro z
            cases z with
            | inl z => cases z
            | inr z => cases z
        clear q2
        -- claim = Claim(..)
        refine ⟨_, rfl, _, rfl, _, rfl, fun cl cx ncl ncx ncc => ?_⟩
        refine ⟨cl, cx, n, x, y, rfl, upd_same, fun H4 M hc1 nM hM1 f1 => ⟨rfl, ?_⟩⟩
        have s4 : Same H' H4 := Same.made ncl ncx f1
        obtain ⟨nMH, nMc⟩ := made_free nM
        have nclH : H cl = none := s3.free ncl
        have nMH' : H M = none := s3.free nMH
        have hpm4 := s4 _ _ hpm3
        have pmc : pm ≠ cl := ne_of_none hpm3 ncl
        have pmM : pm ≠ M := ne_of_none hpm3 nMH
        refine ⟨_, rfl, _, rfl, (k : Int), 0, -1, k, rfl, rgc_down hk, ?_⟩
        refine for_rangeC (lo := (k : Int)) (c := -1) (n := k) (fun i σ H5 => ∃ (v8 : Option V) (a1 b1 : Nat) (es : List Ks184.Ev) (qs : List Addr), σ = [some (.int (k : Int)), some (.int (n : Int)), some (.int (x : Int)), some (.int (y : Int)), some (.ref a), some (.ref pm), v, some (.ref cl), v8] ∧ Same H H5 ∧
            H5 cl = some (.ins CC cx (cF n a1 b1 M)) ∧ H5 pm = some (.lst (nV ms)) ∧ Lots H5 M cl M es qs ∧ a1 < n ∧ b1 < n ∧ es.length = i ∧
            Tm.fin given n (k - i) a1 b1 (ms.drop i) = Tm.fin given n k x y ms ∧ es ++ Ks184.asks given n (k - i) a1 b1 (ms.drop i) = Ks184.asks given n k x y ms) ?_ ?_ ?_
        · exact ⟨none, x, y, [], [], rfl, s3.trans s4, hc1, hpm4, Lots.nil hM1, hxn, hyn, rfl, rfl, rfl⟩
        · rintro i σ H5 hi ⟨v8, a1, b1, es, qs, rfl, s5, hc5, hpm5, L, ha1, hb1, le, w1, w2⟩
          obtain ⟨t, ht⟩ : ∃ t, k - i = t + 1 := ⟨k - i - 1, by omega⟩
          have et : (k : Int) + (i : Nat) * (-1) = ((t + 1 : Nat) : Int) := by omega
          rw [et]
          have em : ms[i]? = some (ms[i]'(by omega)) := List.getElem?_eq_getElem (by omega)
          rw [ht, drop_head em] at w1 w2
          rw [Tm.fin_succ] at w1
          rw [Tm.asks_succ] at w2
          have hcn : ms[i]'(by omega) < n := Tm.small_lt (List.all_eq_true.mp hms _ (List.mem_of_getElem? em))
          generalize ms[i]'(by omega) = c at *
          refine ⟨_, rfl, cl, cx, _, rfl, hc5, cF_other _ _ _ _ (by decide +kernel) (by decide +kernel) (by decide +kernel) (by decide +kernel), _, rfl, _, rfl, _, rfl, _, _, rfl, rfl, pm, _, _, _, rfl, rfl, SqL.of hpm5, at_of (j := i) (by omega) (nV_at em), _, rfl, cl, cx, M, n, a1, b1, c, t + 1, qs.map V.ref, rfl, hc5, L.mm, n1, hn, Nat.lt_trans hb1 hn, Nat.lt_trans hcn hn, ?_, fun H6 u hc6 hM6 nu nu1 nu2 hu f6 => ?_⟩
          · rw [List.length_map, L.ln]
            omega
          refine ⟨_, (Ks184.next n (given.lot n a1 b1 c (t + 1)) a1 b1 c).1, (Ks184.next n (given.lot n a1 b1 c (t + 1)) a1 b1 c).2, es ++ [.lot n a1 b1 c (t + 1) (given.lot n a1 b1 c (t + 1))], qs ++ [u], rfl, fun v o e => ?_, hc6, f6 _ _ hpm5 pmc pmM, L.more hM6 hu nu2 nu1 nu2 f6, (Tm.next_lt hn0).1, (Tm.next_lt hn0).2, ?_, ?_, ?_⟩
          · exact f6 _ _ (s5 _ _ e) (ne_of_none e nclH) (ne_of_none e nMH')
          · rw [List.length_append, le]
            rfl
          · rw [show k - (i + 1) = t by omega]
            exact w1
          · rw [show k - (i + 1) = t by omega, List.append_assoc]
            exact w2
        · rintro σ H5 ⟨v8, a1, b1, es, qs, rfl, s5, hc5, hpm5, L, ha1, hb1, le, w1, w2⟩
          rw [Nat.sub_self] at w1 w2
          have w1' : Tm.fin given n k x y ms = (a1, b1) := w1.symm
          have w2' : es = Ks184.asks given n k x y ms := (List.append_nil es).symm.trans w2
          have hR : Ks184.What.right ⟨n, x, k⟩ given y ms = (Ks184.face n (a1 * a1) == b1) := by
            have z := Tm.right_fin ⟨n, x, k⟩ given (y := y) (p := ms) hy hms
            dsimp only at z
            rw [w1'] at z
            exact z
          unfold rightGo at q3
          rw [hR, ← w2'] at q3
          refine ⟨_, rfl, cl, cx, _, rfl, hc5, cF_other _ _ _ _ (by decide +kernel) (by decide +kernel) (by decide +kernel) (by decide +kernel), cl, cx, M, n, a1, b1, rfl, hc5, hn0, Nat.lt_trans ha1 hn, _, rfl, ?_⟩
          cases c3 : Ks184.face n (a1 * a1) == b1 with
          | true =>
            refine iteT ?_
            rw [c3, if_pos rfl] at q3
            refine ⟨(by show 1 ≤ sizeLine; decide), fun p3 h3 => ?_⟩
            have s6 := Same.put (o := .lst [V.int 0]) h3
            refine ⟨_, rfl, cl, CC, cx, _, _, rfl, s6 _ _ hc5, TC.cl, TC.nQ, cF_asked .., ?_⟩
            refine told_lots (xs := [0]) (L.same s6) upd_same (by decide) (by omega) ?_
            exact q3.later (s5.trans s6)
          | false =>
            refine iteF ?_
            rw [c3, if_neg Bool.false_ne_true] at q3
            refine ⟨_, rfl, (by show 1 ≤ sizeLine; decide), fun p3 h3 => ?_⟩
            have s6 := Same.put (o := .lst [V.int (-13)]) h3
            refine ⟨_, rfl, cl, CC, cx, _, _, rfl, s6 _ _ hc5, TC.cl, TC.nQ, cF_asked .., ?_⟩
            refine told_lots (xs := [-13]) (L.same s6) upd_same (by decide) (by omega) ?_
            exact q3.later (s5.trans s6)
end Tl

/-! ## TWalk -/
namespace Tl
open PySem PySem.Spec PyProof.Rows L2
open Ks184Neutral (number nats step)
variable {P : Program} {w : World} {K : PySem.W.Frag} {mg : Str → Option Value} {base : Heap}
/-! ### the specification's step, in the answers' words -/
theorem step_seal_ans (s : Ks184Neutral.S) (k : Int) (n x m l : List Int) : step s [[0, k], n, x, m, l] = (s, sealAns k.toNat (number (nats n)) (number (nats x)) (number (nats m)) (nats l)) := by
  unfold sealAns
  by_cases c : Ks184.What.fit ⟨number (nats n), number (nats x), k.toNat⟩ = false ∨ number (nats m) = 0
  · rw [if_pos c, Tm.step_seal_no s c]
  · rw [if_neg c, Tm.step_seal_yes s c rfl]
    rfl
theorem step_begin_ans (s : Ks184Neutral.S) (k : Int) (n x : List Int) : step s [[1, k], n, x] = beginAns s k.toNat (number (nats n)) (number (nats x)) := by
  unfold beginAns
  cases c : Ks184.What.fit ⟨number (nats n), number (nats x), k.toNat⟩ with
  | false => exact Tm.step_begin_no s c
  | true => exact Tm.step_begin_yes s c
theorem step_work_ans (s : Ks184Neutral.S) (t : Int) : step s [[2, t]] = workAns s t.toNat := by
  cases s with
  | none => rfl
  | some q => rfl
theorem step_value_ans (s : Ks184Neutral.S) : step s [[3]] = (s, valueAns s) := by
  cases s with
  | none => rfl
  | some q =>
    unfold valueAns
    dsimp only
    by_cases c : 0 < q.left
    · rw [if_pos c, Tm.step_value_left c]
    · rw [if_neg c, Tm.step_value_done c]
theorem step_show_ans (s : Ks184Neutral.S) : step s [[4]] = (s, showAns s) := by
  cases s with
  | none => rfl
  | some q =>
    unfold showAns
    dsimp only
    by_cases c : 0 < q.left
    · rw [if_pos c, Tm.step_show_left c]
    · rw [if_neg c, Tm.step_show_done c rfl rfl]
      rfl
theorem step_right_ans (s : Ks184Neutral.S) (k : Int) (n x y l : List Int) : step s [[5, k], n, x, y, l] = (s, rightAns k.toNat (number (nats n)) (number (nats x)) (number (nats y)) (nats l)) := by
  unfold rightAns
  by_cases c1 : Ks184.What.fit ⟨number (nats n), number (nats x), k.toNat⟩ = false
  · rw [if_pos c1, Tm.step_right_22 s c1]
  · rw [if_neg c1]
    by_cases c2 : Ks184.small (number (nats n)) (number (nats y)) = false ∨ (Ks184Neutral.numbers (nats l)).all (Ks184.small (number (nats n))) = false
    · rw [if_pos c2, Tm.step_right_13 s c1 c2]
    · rw [if_neg c2, Tm.step_right_go s c1 c2 rfl rfl]
      rfl
theorem step_read_ans (s : Ks184Neutral.S) (y l : List Int) : step s [[6], y, l] = (s, paddedAns (nats l) (number (nats y))) := Tm.step_read s
/-! ### answer_of -/
abbrev sOne : Stmt := top 20
theorem scOne : FnScope ["reader", "opening", "call", "k", "n", "x", "m", "y"] ["reader", "opening"] (defScope sOne) := ⟨rfl, rfl, rfl, by decide +kernel, rfl, by decide +kernel, by decide +kernel⟩
theorem rd_op {CR CO L : Addr} {l s : List Int} {H : Hp} {a b : Addr} {st : Ks184Neutral.S} (h : RdAt CR L l H a s) (k : OpAt CO H b st) : a ≠ b := by
  obtain ⟨dx, p, h1, _⟩ := h
  obtain ⟨dy, h2⟩ := k
  intro e
  subst e
  obtain ⟨b0, k0, n0, x0, r0, l0, e0⟩ := oF_cases st
  rw [h1, e0] at h2
  have z := (HO.ins.inj (Option.some.inj h2)).2.2
  have y := congrArg (fun q : List (Str × V) => q.map Prod.fst) z
  revert y
  show ¬ ([("calls" : Str), ("place" : Str)] = [("begun" : Str), ("k" : Str), ("n" : Str), ("x" : Str), ("reached" : Str), ("left" : Str)])
  decide +kernel
theorem OpAt.fr {C a b : Addr} {H H' : Hp} {s : Ks184Neutral.S} (h : OpAt C H b s) (f : Fr a H H') (n : b ≠ a) : OpAt C H' b s := by
  obtain ⟨dx, h1⟩ := h
  exact ⟨dx, f _ _ h1 n⟩
theorem RdAt.fr {C L a b : Addr} {l s : List Int} {H H' : Hp} (h : RdAt C L l H b s) (f : Fr a H H') (n : b ≠ a) : RdAt C L l H' b s := by
  obtain ⟨dx, p, h1, h2⟩ := h
  exact ⟨dx, p, f _ _ h1 n, h2⟩
def spOne (K : PySem.W.Frag) (CR CO : Addr) (R : List (List Int) → Prop) : Sp := fun vs H Q _ => ∃ (a b L : Addr) (l s t : List Int) (c : List (List Int)) (st : Ks184Neutral.S), vs = [.ref a, .ref b] ∧ RdAt CR L l H a s ∧ OpAt CO H b st ∧ SOk st ∧ SqL K H L (iV l) ∧ Tm.Due s c t ∧ R c ∧
  ∀ (H' : Hp) (p : Addr), RdAt CR L l H' a t → OpAt CO H' b (step st c).1 → SOk (step st c).1 → Fr2 a b H H' → H p = none → H' p = some (.lst (iV (step st c).2)) → Q (.ref p) H'
/-- all calls -/
def RT : List (List Int) → Prop := fun _ => True
theorem free_fr {a p : Addr} {H H' : Hp} (f : Fr a H H') (hp : H' p = none) (n : p ≠ a) : H p = none := by
  cases e : H p with
  | none => rfl
  | some o =>
    have z := f _ _ e n
    rw [hp] at z
    cases z
theorem row_nat {k : Nat} {r : List Int} (h : Tm.Row k r) : (∀ z ∈ r, (0 : Int) ≤ z) ∧ (∀ x ∈ nats r, x < 256) ∧ (nats r).length = k := by
  refine ⟨fun z hz => (h.2 z hz).1, fun x hx => ?_, ?_⟩
  · unfold Ks184Neutral.nats at hx
    obtain ⟨z, hz, rfl⟩ := List.mem_map.mp hx
    have q := h.2 z hz
    omega
  · unfold Ks184Neutral.nats
    rw [List.length_map]
    exact h.1
theorem row_lt {r : List Int} (h : Tm.Row 64 r) : number (nats r) < 2 ^ 512 := by
  obtain ⟨_, h2, h3⟩ := row_nat h
  exact Tm.number_take_lt h2 (by omega)
/-- the reader and the object, between two readings -/
structure Mid (K : PySem.W.Frag) (CR CO L : Addr) (l : List Int) (a b : Addr) (st : Ks184Neutral.S) (H0 H : Hp) (s : List Int) : Prop where
  rd : RdAt CR L l H a s
  op : OpAt CO H b st
  sq : SqL K H L (iV l)
  fr : Fr a H0 H
theorem Mid.go {CR CO L : Addr} {l s t : List Int} {a b : Addr} {st : Ks184Neutral.S} {H0 H H' : Hp} (m : Mid K CR CO L l a b st H0 H s) (r : RdAt CR L l H' a t) (f : Fr a H H') : Mid K CR CO L l a b st H0 H' t :=
  ⟨r, m.op.fr f (Ne.symm (rd_op m.rd m.op)), m.rd.seq f m.sq, m.fr.trans f⟩
/-- the reader's fields, to call a method of it -/
theorem Mid.at_ {CR CO L : Addr} {l s : List Int} {a b : Addr} {st : Ks184Neutral.S} {H0 H : Hp} (m : Mid K CR CO L l a b st H0 H s) : ∃ dx p, H a = some (.ins CR dx (rF L p)) := by
  obtain ⟨dx, p, h, _⟩ := m.rd
  exact ⟨dx, p, h⟩
theorem Mid.oat {CR CO L : Addr} {l s : List Int} {a b : Addr} {st : Ks184Neutral.S} {H0 H : Hp} (m : Mid K CR CO L l a b st H0 H s) : ∃ dx b0 k0 n x r e, H b = some (.ins CO dx (oL b0 k0 n x r e)) := by
  obtain ⟨dx, h⟩ := m.op
  obtain ⟨b0, k0, n0, x0, r0, l0, e0⟩ := oF_cases st
  rw [e0] at h
  exact ⟨dx, _, _, _, _, _, _, h⟩
/-- the end of a way: a new list, the object in a state -/
theorem Mid.fin {CR CO L : Addr} {l s : List Int} {a b : Addr} {st st' : Ks184Neutral.S} {H0 H : Hp} {Q : VK} {ans : List Int} (m : Mid K CR CO L l a b st H0 H s) (hok : SOk st')
    (q : ∀ (H' : Hp) (p : Addr), RdAt CR L l H' a s → OpAt CO H' b st' → SOk st' → Fr2 a b H0 H' → H0 p = none → H' p = some (.lst (iV ans)) → Q (.ref p) H') : Told CO H Q b st' ans := fun H' p o f np hp => by
  have hab := rd_op m.rd m.op
  have npa : p ≠ a := m.rd.new np
  exact q H' p (m.rd.fr f hab) o hok (fun c o' e n1 n2 => f _ _ (m.fr _ _ e n1) n2) (free_fr m.fr np npa) hp
theorem Mid.finN {CR CO L : Addr} {l s : List Int} {a b : Addr} {st : Ks184Neutral.S} {H0 H : Hp} {Q : VK} {ans : List Int} (m : Mid K CR CO L l a b st H0 H s) (hok : SOk st)
    (q : ∀ (H' : Hp) (p : Addr), RdAt CR L l H' a s → OpAt CO H' b st → SOk st → Fr2 a b H0 H' → H0 p = none → H' p = some (.lst (iV ans)) → Q (.ref p) H') : NewL H Q (iV ans) := (m.fin hok q).newL m.op
/-! readings of the reader's methods, by Mid -/
section
variable {CR CO L : Addr} {l s t r : List Int} {a b : Addr} {st : Ks184Neutral.S} {H0 H : Hp} {σ : L2.St} {Q : VK}
theorem rd_whole {z : Int} (m : Mid K CR CO L l a b st H0 H (z :: s)) (h0 : σ[0]? = some (some (.ref a))) (k : ∀ H', Mid K CR CO L l a b st H0 H' s → Q (.int z) H') : tMeth CR "whole" (spWho K CR) [] E0 (tVar 0) tNil σ H Q := by
  obtain ⟨dx, p, ha⟩ := m.at_
  exact ⟨_, h0, a, dx, _, rfl, ha, rF_other _ _ (by decide +kernel) (by decide +kernel), a, L, l, s, z, rfl, m.rd, m.sq, fun H1 r1 f1 => k H1 (m.go r1 f1)⟩
theorem rd_number (m : Mid K CR CO L l a b st H0 H s) (h0 : σ[0]? = some (some (.ref a))) (e : PyFlat.row s = some (r, t)) (hz : ∀ z ∈ r, (0 : Int) ≤ z) (k : ∀ H', Mid K CR CO L l a b st H0 H' t → Q (.int ((number (nats r) : Nat) : Int)) H') : tMeth CR "number" (spNbr K CR) [] E0 (tVar 0) tNil σ H Q := by
  obtain ⟨dx, p, ha⟩ := m.at_
  exact ⟨_, h0, a, dx, _, rfl, ha, rF_other _ _ (by decide +kernel) (by decide +kernel), a, L, l, s, t, r, rfl, m.rd, m.sq, e, hz, fun H1 r1 f1 => k H1 (m.go r1 f1)⟩
theorem rd_row (m : Mid K CR CO L l a b st H0 H s) (h0 : σ[0]? = some (some (.ref a))) (e : PyFlat.row s = some (r, t)) (hz : ∀ z ∈ r, (0 : Int) ≤ z) (k : ∀ H' p, Mid K CR CO L l a b st H0 H' t → H p = none → H' p = some (.lst (nV (nats r))) → Q (.ref p) H') : tMeth CR "row" (spRow K CR) [] E0 (tVar 0) tNil σ H Q := by
  obtain ⟨dx, p, ha⟩ := m.at_
  exact ⟨_, h0, a, dx, _, rfl, ha, rF_other _ _ (by decide +kernel) (by decide +kernel), a, L, l, s, t, r, rfl, m.rd, m.sq, e, fun H1 p r1 f1 np hp => k H1 p (m.go r1 f1) np (by rw [hp, iV_nats hz])⟩
end
theorem ok_one {CR CO f f1 f2 f3 f4 f5 f6 f7 f8 f9 f10 : Addr} {fd fd1 fd2 fd3 fd4 fd5 fd6 fd7 fd8 fd9 fd10 : FuncData} (F : Fun K "answer_of" "answer_of" sOne f fd) (TR : TxtR K CR) (TO : TxtO K CO)
    (M1 : MAt P w K mg base CR "whole" 1 ["self"] (spWho K CR) f1 fd1) (M2 : MAt P w K mg base CR "number" 3 ["self"] (spNbr K CR) f2 fd2) (M3 : MAt P w K mg base CR "row" 2 ["self"] (spRow K CR) f3 fd3)
    (A4 : At P w K mg base "seal" 4 ["k", "n", "x", "m", "letter"] (spSea K) f4 fd4) (M5 : MAt P w K mg base CO "begin" 3 ["self", "k", "n", "x"] (spBeg CO) f5 fd5) (M6 : MAt P w K mg base CO "work" 2 ["self", "steps"] (spWrk CO) f6 fd6) (M7 : MAt P w K mg base CO "value" 2 ["self"] (spVal CO) f7 fd7)
    (M8 : MAt P w K mg base CO "show" 3 ["self"] (spShw CO) f8 fd8) (A9 : At P w K mg base "right" 3 ["k", "n", "x", "y", "proof"] (spRgt K) f9 fd9) (A10 : At P w K mg base "padded" 3 ["row", "number"] (spPdd K) f10 fd10) :
    FnOk P w K mg base CX0 5 f fd ["reader", "opening"] (spOne K CR CO RT) := by
  refine F.ok scOne (fun vs H Q E h => ?_) (fun cdv A outer s H vs Q E hr h => ?_)
  · obtain ⟨a, b, L, l, s, t, c, st, rfl, _⟩ := h
    rfl
  · obtain ⟨a, b, L, l, r0, t, c, st, rfl, hR, hO, hs, hS, hD, hc, q⟩ := h
    refine ⟨_, pss_cons (ps_set (i := 2) scOne.nd rfl (Or.inl rfl) (pe_meth0 (pv 0) TR.cl M1.me M1.ok (hr.mono (by decide)) M1.bd .nil pass0))
      (pss_cons (ps_if (pt_cmpR op_eq (pv 2) pe_int (nomark _))
        (pss_cons (ps_set (i := 3) scOne.nd rfl (Or.inl rfl) (pe_meth0 (pv 0) TR.cl M1.me M1.ok (hr.mono (by decide)) M1.bd .nil pass0))
        (pss_cons (ps_set (i := 4) scOne.nd rfl (Or.inl rfl) (pe_meth0 (pv 0) TR.cl M2.me M2.ok (hr.mono (by decide)) M2.bd .nil pass0))
        (pss_cons (ps_set (i := 5) scOne.nd rfl (Or.inl rfl) (pe_meth0 (pv 0) TR.cl M2.me M2.ok (hr.mono (by decide)) M2.bd .nil pass0))
        (pss_cons (ps_set (i := 6) scOne.nd rfl (Or.inl rfl) (pe_meth0 (pv 0) TR.cl M2.me M2.ok (hr.mono (by decide)) M2.bd .nil pass0))
        (pss_one (ps_ret (pe_call A4.ok hr rfl A4.nm A4.kp A4.bd .nil pass0 (pa_cons (pv 3) (pa_cons (pv 4) (pa_cons (pv 5) (pa_cons (pv 6) (pa_cons (pe_meth0 (pv 0) TR.cl M3.me M3.ok (hr.mono (by decide)) M3.bd .nil pass0) pa_nil)))))))))))) pss_nil)
      (pss_cons (ps_if (pt_cmpR op_eq (pv 2) pe_int (nomark _))
        (pss_cons (ps_set (i := 3) scOne.nd rfl (Or.inl rfl) (pe_meth0 (pv 0) TR.cl M1.me M1.ok (hr.mono (by decide)) M1.bd .nil pass0))
        (pss_cons (ps_set (i := 4) scOne.nd rfl (Or.inl rfl) (pe_meth0 (pv 0) TR.cl M2.me M2.ok (hr.mono (by decide)) M2.bd .nil pass0))
        (pss_one (ps_ret (pe_meth (pv 1) TO.cl M5.me M5.ok (hr.mono (by decide)) M5.bd .nil pass0 (pa_cons (pv 3) (pa_cons (pv 4) (pa_cons (pe_meth0 (pv 0) TR.cl M2.me M2.ok (hr.mono (by decide)) M2.bd .nil pass0) pa_nil)))))))) pss_nil)
      (pss_cons (ps_if (pt_cmpR op_eq (pv 2) pe_int (nomark _))
        (pss_one (ps_ret (pe_meth (pv 1) TO.cl M6.me M6.ok (hr.mono (by decide)) M6.bd .nil pass0 (pa_cons (pe_meth0 (pv 0) TR.cl M1.me M1.ok (hr.mono (by decide)) M1.bd .nil pass0) pa_nil)))) pss_nil)
      (pss_cons (ps_if (pt_cmpR op_eq (pv 2) pe_int (nomark _))
        (pss_one (ps_ret (pe_meth0 (pv 1) TO.cl M7.me M7.ok (hr.mono (by decide)) M7.bd .nil pass0))) pss_nil)
      (pss_cons (ps_if (pt_cmpR op_eq (pv 2) pe_int (nomark _))
        (pss_one (ps_ret (pe_meth0 (pv 1) TO.cl M8.me M8.ok (hr.mono (by decide)) M8.bd .nil pass0))) pss_nil)
      (pss_cons (ps_if (pt_cmpR op_eq (pv 2) pe_int (nomark _))
        (pss_cons (ps_set (i := 3) scOne.nd rfl (Or.inl rfl) (pe_meth0 (pv 0) TR.cl M1.me M1.ok (hr.mono (by decide)) M1.bd .nil pass0))
        (pss_cons (ps_set (i := 4) scOne.nd rfl (Or.inl rfl) (pe_meth0 (pv 0) TR.cl M2.me M2.ok (hr.mono (by decide)) M2.bd .nil pass0))
        (pss_cons (ps_set (i := 5) scOne.nd rfl (Or.inl rfl) (pe_meth0 (pv 0) TR.cl M2.me M2.ok (hr.mono (by decide)) M2.bd .nil pass0))
        (pss_cons (ps_set (i := 7) scOne.nd rfl (Or.inl rfl) (pe_meth0 (pv 0) TR.cl M2.me M2.ok (hr.mono (by decide)) M2.bd .nil pass0))
        (pss_one (ps_ret (pe_call A9.ok (hr.mono (by decide)) rfl A9.nm A9.kp A9.bd .nil pass0 (pa_cons (pv 3) (pa_cons (pv 4) (pa_cons (pv 5) (pa_cons (pv 7) (pa_cons (pe_meth0 (pv 0) TR.cl M3.me M3.ok (hr.mono (by decide)) M3.bd .nil pass0) pa_nil)))))))))))) pss_nil)
      (pss_cons (ps_if (pt_cmpR op_eq (pv 2) pe_int (nomark _))
        (pss_cons (ps_set (i := 7) scOne.nd rfl (Or.inl rfl) (pe_meth0 (pv 0) TR.cl M2.me M2.ok (hr.mono (by decide)) M2.bd .nil pass0))
        (pss_one (ps_ret (pe_call A10.ok (hr.mono (by decide)) rfl A10.nm A10.kp A10.bd .nil pass0 (pa_cons (pe_meth0 (pv 0) TR.cl M3.me M3.ok (hr.mono (by decide)) M3.bd .nil pass0) (pa_cons (pv 7) pa_nil)))))) pss_nil)
      (pss_one ps_never)))))))), ?_⟩
    have m0 : Mid K CR CO L l a b st H H r0 := ⟨hR, hO, hS, fun _ _ e _ => e⟩
    cases hD with
    | seal_ hk h1 h2 h3 h4 b1 b2 b3 b4 =>
      rename_i k r n r2 x r3 m r4 lt
      refine rd_whole m0 rfl fun H1 m1 => ?_
      refine ⟨_, rfl, rfl, _, rfl, ?_⟩
      refine if_true_of (by rw [eqV]; rfl) ?_
      refine rd_whole m1 rfl fun H2 m2 => ?_
      refine rd_number m2 rfl h1 (row_nat b1).1 fun H3 m3 => ?_
      refine rd_number m3 rfl h2 (row_nat b2).1 fun H4 m4 => ?_
      refine rd_number m4 rfl h3 (row_nat b3).1 fun H5 m5 => ?_
      refine ⟨_, rfl, _, rfl, _, rfl, _, rfl, ?_⟩
      refine rd_row m5 rfl h4 (row_nat b4).1 fun H6 p m6 np hp => ?_
      rw [step_seal_ans] at q
      exact ⟨k.toNat, _, _, _, p, nats lt, by rw [Int.toNat_of_nonneg hk.1]; rfl, row_lt b1, row_lt b3, SqL.of hp, (row_nat b4).2.2, m6.finN hs q⟩
    | begin_ hk h1 h2 b1 b2 =>
      rename_i k r n r2 x
      refine rd_whole m0 rfl fun H1 m1 => ?_
      refine ⟨_, rfl, rfl, _, rfl, ?_⟩
      refine if_false_of (by rw [eqV]; rfl) ?_
      refine ⟨_, rfl, rfl, _, rfl, ?_⟩
      refine if_true_of (by rw [eqV]; rfl) ?_
      refine rd_whole m1 rfl fun H2 m2 => ?_
      refine rd_number m2 rfl h1 (row_nat b1).1 fun H3 m3 => ?_
      obtain ⟨dy, b0, k0, n0, x0, e0, l0, hb⟩ := m3.oat
      refine ⟨_, rfl, b, dy, _, rfl, hb, oL_other _ _ _ _ _ _ (by decide +kernel) (by decide +kernel) (by decide +kernel) (by decide +kernel) (by decide +kernel) (by decide +kernel), _, rfl, _, rfl, ?_⟩
      refine rd_number m3 rfl h2 (row_nat b2).1 fun H4 m4 => ?_
      rw [step_begin_ans] at q
      exact ⟨b, st, k.toNat, _, _, by rw [Int.toNat_of_nonneg hk.1]; rfl, m4.op, m4.fin (begin_ok (row_lt b1) hs) q⟩
    | work hk =>
      rename_i k
      refine rd_whole m0 rfl fun H1 m1 => ?_
      refine ⟨_, rfl, rfl, _, rfl, ?_⟩
      refine if_false_of (by rw [eqV]; rfl) ?_
      refine ⟨_, rfl, rfl, _, rfl, ?_⟩
      refine if_false_of (by rw [eqV]; rfl) ?_
      refine ⟨_, rfl, rfl, _, rfl, ?_⟩
      refine if_true_of (by rw [eqV]; rfl) ?_
      obtain ⟨dy, b0, k0, n0, x0, e0, l0, hb⟩ := m1.oat
      refine ⟨_, rfl, b, dy, _, rfl, hb, oL_other _ _ _ _ _ _ (by decide +kernel) (by decide +kernel) (by decide +kernel) (by decide +kernel) (by decide +kernel) (by decide +kernel), ?_⟩
      refine rd_whole m1 rfl fun H2 m2 => ?_
      rw [step_work_ans] at q
      exact ⟨b, st, k.toNat, by rw [Int.toNat_of_nonneg hk.1]; rfl, m2.op, hs, m2.fin (work_ok hs) q⟩
    | value =>
      refine rd_whole m0 rfl fun H1 m1 => ?_
      refine ⟨_, rfl, rfl, _, rfl, ?_⟩
      refine if_false_of (by rw [eqV]; rfl) ?_
      refine ⟨_, rfl, rfl, _, rfl, ?_⟩
      refine if_false_of (by rw [eqV]; rfl) ?_
      refine ⟨_, rfl, rfl, _, rfl, ?_⟩
      refine if_false_of (by rw [eqV]; rfl) ?_
      refine ⟨_, rfl, rfl, _, rfl, ?_⟩
      refine if_true_of (by rw [eqV]; rfl) ?_
      obtain ⟨dy, b0, k0, n0, x0, e0, l0, hb⟩ := m1.oat
      rw [step_value_ans] at q
      exact ⟨_, rfl, b, dy, _, rfl, hb, oL_other _ _ _ _ _ _ (by decide +kernel) (by decide +kernel) (by decide +kernel) (by decide +kernel) (by decide +kernel) (by decide +kernel), b, st, rfl, m1.op, hs, m1.finN hs q⟩
    | show_ =>
      refine rd_whole m0 rfl fun H1 m1 => ?_
      refine ⟨_, rfl, rfl, _, rfl, ?_⟩
      refine if_false_of (by rw [eqV]; rfl) ?_
      refine ⟨_, rfl, rfl, _, rfl, ?_⟩
      refine if_false_of (by rw [eqV]; rfl) ?_
      refine ⟨_, rfl, rfl, _, rfl, ?_⟩
      refine if_false_of (by rw [eqV]; rfl) ?_
      refine ⟨_, rfl, rfl, _, rfl, ?_⟩
      refine if_false_of (by rw [eqV]; rfl) ?_
      refine ⟨_, rfl, rfl, _, rfl, ?_⟩
      refine if_true_of (by rw [eqV]; rfl) ?_
      obtain ⟨dy, b0, k0, n0, x0, e0, l0, hb⟩ := m1.oat
      rw [step_show_ans] at q
      exact ⟨_, rfl, b, dy, _, rfl, hb, oL_other _ _ _ _ _ _ (by decide +kernel) (by decide +kernel) (by decide +kernel) (by decide +kernel) (by decide +kernel) (by decide +kernel), b, st, rfl, m1.op, hs, m1.finN hs q⟩
    | right hk h1 h2 h3 h4 b1 b2 b3 b4 b5 b6 b7 =>
      rename_i k r n r2 x r3 y r4 lt
      refine rd_whole m0 rfl fun H1 m1 => ?_
      refine ⟨_, rfl, rfl, _, rfl, ?_⟩
      refine if_false_of (by rw [eqV]; rfl) ?_
      refine ⟨_, rfl, rfl, _, rfl, ?_⟩
      refine if_false_of (by rw [eqV]; rfl) ?_
      refine ⟨_, rfl, rfl, _, rfl, ?_⟩
      refine if_false_of (by rw [eqV]; rfl) ?_
      refine ⟨_, rfl, rfl, _, rfl, ?_⟩
      refine if_false_of (by rw [eqV]; rfl) ?_
      refine ⟨_, rfl, rfl, _, rfl, ?_⟩
      refine if_false_of (by rw [eqV]; rfl) ?_
      refine ⟨_, rfl, rfl, _, rfl, ?_⟩
      refine if_true_of (by rw [eqV]; rfl) ?_
      refine rd_whole m1 rfl fun H2 m2 => ?_
      refine rd_number m2 rfl h1 (row_nat b1).1 fun H3 m3 => ?_
      refine rd_number m3 rfl h2 (row_nat b2).1 fun H4 m4 => ?_
      refine rd_number m4 rfl h3 (row_nat b3).1 fun H5 m5 => ?_
      refine ⟨_, rfl, _, rfl, _, rfl, _, rfl, ?_⟩
      refine rd_row m5 rfl h4 (row_nat b4).1 fun H6 p m6 np hp => ?_
      rw [step_right_ans] at q
      have el : (nats lt).length = lt.length := (row_nat b4).2.2
      exact ⟨k.toNat, _, _, _, p, nats lt, by rw [Int.toNat_of_nonneg hk.1]; rfl, row_lt b1, SqL.of hp, by rw [el]; exact b6, by rw [el]; exact b5, fun z => by rw [el]; exact b7 z, m6.finN hs q⟩
    | read h1 h2 b1 b2 =>
      rename_i r y r2 lt
      refine rd_whole m0 rfl fun H1 m1 => ?_
      refine ⟨_, rfl, rfl, _, rfl, ?_⟩
      refine if_false_of (by rw [eqV]; rfl) ?_
      refine ⟨_, rfl, rfl, _, rfl, ?_⟩
      refine if_false_of (by rw [eqV]; rfl) ?_
      refine ⟨_, rfl, rfl, _, rfl, ?_⟩
      refine if_false_of (by rw [eqV]; rfl) ?_
      refine ⟨_, rfl, rfl, _, rfl, ?_⟩
      refine if_false_of (by rw [eqV]; rfl) ?_
      refine ⟨_, rfl, rfl, _, rfl, ?_⟩
      refine if_false_of (by rw [eqV]; rfl) ?_
      refine ⟨_, rfl, rfl, _, rfl, ?_⟩
      refine if_false_of (by rw [eqV]; rfl) ?_
      refine ⟨_, rfl, rfl, _, rfl, ?_⟩
      refine if_true_of (by rw [eqV]; rfl) ?_
      refine rd_number m1 rfl h1 (row_nat b1).1 fun H2 m2 => ?_
      refine rd_row m2 rfl h2 (row_nat b2).1 fun H3 p m3 np hp => ?_
      rw [step_read_ans] at q
      exact ⟨_, rfl, p, nats lt, _, rfl, SqL.of hp, (row_nat b2).2.2, m3.finN hs q⟩
end Tl

/-! ## TAns -/
namespace Tl
open PySem PySem.Spec PyProof.Rows L2
open Ks184Neutral (number nats step)
variable {P : Program} {w : World} {K : PySem.W.Frag} {mg : Str → Option Value} {base : Heap}
/-! ### answers -/
abbrev sAns : Stmt := top 21
theorem scAns : FnScope ["calls", "reader", "opening", "given", "answer"] ["calls"] (defScope sAns) := ⟨rfl, rfl, rfl, by decide +kernel, rfl, by decide +kernel, by decide +kernel⟩
def spAns (K : PySem.W.Frag) (R : List (List Int) → Prop) : Sp := fun vs H Q _ => ∃ (L : Addr) (l : List Int) (cs : List (List (List Int))), vs = [.ref L] ∧ SqL K H L (iV l) ∧ Tm.Dues l cs ∧ (∀ c ∈ cs, R c) ∧ (PyFlat.told (PyFlat.played step none cs)).length < 1005001 ∧
  ∀ (H' : Hp) (p : Addr), H' p = some (.lst (iV (PyFlat.told (PyFlat.played step none cs)))) → Q (.ref p) H'
theorem dues_empty {s : List Int} {cs : List (List (List Int))} (h : Tm.Dues s cs) : (s.isEmpty = true ∧ cs = []) ∨ (s.isEmpty = false ∧ ∃ c ds t, cs = c :: ds ∧ Tm.Due s c t ∧ Tm.Dues t ds) := by
  cases h with
  | nil => exact .inl ⟨rfl, rfl⟩
  | cons h r =>
    refine .inr ⟨?_, _, _, _, rfl, h, r⟩
    cases h <;> rfl
/-- what the loop keeps -/
structure Loop (K : PySem.W.Frag) (CR CO L : Addr) (l : List Int) (a b g : Addr) (R : List (List Int) → Prop) (all : List Int) (H H' : Hp) (cs : List (List (List Int))) (s : List Int) (st : Ks184Neutral.S) (out : List Int) : Prop where
  rd : RdAt CR L l H' a s
  op : OpAt CO H' b st
  ok : SOk st
  ds : Tm.Dues s cs
  rs : ∀ c ∈ cs, R c
  gv : H' g = some (.lst (iV out))
  al : out ++ PyFlat.told (PyFlat.played step st cs) = all
  sm : ∀ c o, H c = some o → H' c = some o
theorem ok_ans {CR CO f f1 f2 f3 f4 : Addr} {fd fd1 fd2 fd3 fd4 : FuncData} {R : List (List Int) → Prop} {k1 : Nat} (F : Fun K "answers" "answers" sAns f fd) (TR : TxtR K CR) (TO : TxtO K CO)
    (gR : mg "Reader" = some (.ref CR)) (KR : Mk K CR f1) (GR : FnOk P w K mg base CX0 1 f1 fd1 ["self", "calls"] (spRin CR)) (bR : Binds K fd1 ["self", "calls"] [])
    (gO : mg "Opening" = some (.ref CO)) (KO : Mk K CO f2) (GO : FnOk P w K mg base CX0 1 f2 fd2 ["self"] (spOin CO)) (bO : Binds K fd2 ["self"] [])
    (M3 : MAt P w K mg base CR "more" 1 ["self"] (spMor K CR) f3 fd3) (A4 : At P w K mg base "answer_of" (k1 + 5) ["reader", "opening"] (spOne K CR CO R) f4 fd4) (mL : mg "len" = none) :
    FnOk P w K mg base CX0 (k1 + 6) f fd ["calls"] (spAns K R) := by
  refine F.ok scAns (fun vs H Q E h => ?_) (fun cdv A outer s H vs Q E hr h => ?_)
  · obtain ⟨L, l, cs, rfl, _⟩ := h
    rfl
  · obtain ⟨L, l, cs0, rfl, hS, hD, hR, hlen, q⟩ := h
    have hr2 : Room 2 _ := hr.mono (by omega)
    have hr1 : Room 1 _ := hr.mono (by omega)
    refine ⟨_, pss_cons (ps_set (i := 1) scAns.nd rfl (Or.inl rfl) (pe_make KR GR hr2 rfl gR bR .nil pass0 (pa_cons (pv 0) pa_nil)))
      (pss_cons (ps_set (i := 2) scAns.nd rfl (Or.inl rfl) (pe_make0 KO GO hr2 rfl gO bO .nil pass0))
      (pss_cons (ps_set (i := 3) scAns.nd rfl (Or.inl rfl) (pe_lst pa_nil))
      (pss_cons (ps_while PassesOwn.never (pt_val (pe_meth0 (pv 1) TR.cl M3.me M3.ok hr1 M3.bd .nil pass0))
        (pss_cons (ps_set (i := 4) scAns.nd rfl (Or.inl rfl) (pe_call A4.ok hr rfl A4.nm A4.kp A4.bd .nil pass0 (pa_cons (pv 1) (pa_cons (pv 2) pa_nil))))
        (pss_cons (ps_expr (pe_bm PySem.F.plainAttrs_list PySem.F.slot_list_append PySem.F.type_list_append mt_append (pv 3) (pa_cons (pe_callB call_len_seq (by rfl) mL PySem.boot_len (pa_cons (pv 4) pa_nil)) pa_nil)))
        (pss_one (ps_expr (pe_bm PySem.F.plainAttrs_list PySem.F.slot_list_extend PySem.F.type_list_extend mt_extend (pv 3) (pa_cons (pv 4) pa_nil)))))))
      (pss_one (ps_ret (pv 3)))))), ?_⟩
    -- reader = Reader(calls)
    refine ⟨_, rfl, fun a dx na nd nad => ?_⟩
    refine ⟨a, dx, L, rfl, upd_same, fun H1 r1 f1 => ⟨rfl, ?_⟩⟩
    have s1 : Same H H1 := Same.made na nd f1
    -- opening = Opening()
    intro b dy nb nd2 nbd
    refine ⟨b, dy, rfl, upd_same, fun H2 o2 f2 => ⟨rfl, ?_⟩⟩
    have s2 : Same H1 H2 := Same.made nb nd2 f2
    have nbH : H b = none := s1.free nb
    -- given = []
    refine ⟨(by show 0 ≤ sizeLine; decide), fun g ng => ?_⟩
    have s3 := Same.put (o := .lst []) ng
    have ngH : H g = none := (s1.trans s2).free ng
    have rd0 : RdAt CR L l (upd H2 g (.lst [])) a l := ((r1 l).same s2).same s3
    have op0 : OpAt CO (upd H2 g (.lst [])) b none := o2.same s3
    have nga : g ≠ a := fun e => by
      subst e
      obtain ⟨d1, p1, z, _⟩ := (r1 l).same s2
      rw [ng] at z
      cases z
    have ngb : g ≠ b := fun e => by
      subst e
      obtain ⟨d1, z⟩ := o2
      rw [ng] at z
      cases z
    refine ⟨fun m σ H' => ∃ cs r st out, (∃ v : Option V, σ = [some (.ref L), some (.ref a), some (.ref b), some (.ref g), v]) ∧ Loop K CR CO L l a b g R (PyFlat.told (PyFlat.played step none cs0)) H H' cs r st out ∧ m = cs.length,
      ⟨cs0.length, cs0, l, none, [], ⟨none, rfl⟩, ⟨rd0, op0, trivial, hD, hR, upd_same, rfl, (s1.trans s2).trans s3⟩, rfl⟩, ?_⟩
    rintro m σ H' ⟨cs, r, st, out, ⟨v, rfl⟩, I, rfl⟩
    have hSq : SqL K H' L (iV l) := Same.seq I.sm hS
    obtain ⟨da, pa, ha⟩ : ∃ dx p, H' a = some (.ins CR dx (rF L p)) := by
      obtain ⟨dx, p, z, _⟩ := I.rd
      exact ⟨dx, p, z⟩
    refine ⟨_, rfl, a, da, _, rfl, ha, rF_other _ _ (by decide +kernel) (by decide +kernel), a, L, l, r, rfl, I.rd, hSq, _, rfl, ?_⟩
    rcases dues_empty I.ds with ⟨e, rfl⟩ | ⟨e, c, ds, t, rfl, hd, hds⟩
    · rw [e]
      refine iteF ?_
      refine ⟨_, rfl, q H' g ?_⟩
      have al := I.al
      rw [show PyFlat.told (PyFlat.played step st []) = [] from rfl, List.append_nil] at al
      rw [← al]
      exact I.gv
    · rw [e]
      refine iteT ?_
      refine ⟨fun σ H'' => ∃ r st out, (∃ v : Option V, σ = [some (.ref L), some (.ref a), some (.ref b), some (.ref g), v]) ∧ Loop K CR CO L l a b g R (PyFlat.told (PyFlat.played step none cs0)) H H'' ds r st out,
        fun σ H'' ⟨r, st, out, h1, h2⟩ => ⟨ds.length, Nat.lt_succ_self _, ds, r, st, out, h1, h2, rfl⟩, ?_⟩
      refine ⟨_, rfl, _, rfl, a, b, L, l, r, t, c, st, rfl, I.rd, I.op, I.ok, hSq, hd, I.rs c (List.mem_cons_self ..), fun H3 p rd3 op3 ok3 fr3 np hp => ?_⟩
      have al := I.al
      rw [show PyFlat.played step st (c :: ds) = (step st c).2 :: PyFlat.played step (step st c).1 ds from rfl, Tm.told_cons] at al
      have hsz := congrArg List.length al
      rw [List.length_append, List.length_cons, List.length_append] at hsz
      have hz : sizeLine = 16777216 := rfl
      have gv3 : H3 g = some (.lst (iV out)) := fr3 _ _ I.gv nga ngb
      have npg : p ≠ g := fun e => by
        subst e
        rw [I.gv] at np
        cases np
      refine ⟨_, rfl, .inl ⟨rfl, _, SqL.of gv3⟩, _, rfl, p, _, rfl, .inl (SqL.of hp), ?_⟩
      refine ⟨g, _, _, rfl, rfl, gv3, (by rw [List.length_map]; omega), ?_⟩
      refine ⟨_, rfl, .inl ⟨rfl, _, SqL.of upd_same⟩, _, rfl, g, p, _, _, rfl, rfl, upd_same, (upd_ne npg).trans hp, ?_, ?_⟩
      · rw [List.length_append, List.length_map, List.length_map, List.length_singleton]
        omega
      · have fg : Fr g H3 (upd (upd H3 g (.lst (iV out ++ [V.int ((iV (step st c).2).length : Int)]))) g (.lst (iV out ++ [V.int ((iV (step st c).2).length : Int)] ++ iV (step st c).2))) := (Fr.upd _ _ _).trans (Fr.upd _ _ _)
        refine ⟨t, (step st c).1, out ++ (((step st c).2.length : Int) :: (step st c).2), ⟨_, rfl⟩, ⟨rd3.fr fg (Ne.symm nga), op3.fr fg (Ne.symm ngb), ok3, hds, fun c' hc' => I.rs c' (List.mem_cons_of_mem _ hc'), ?_, ?_, fun x o e => ?_⟩⟩
        · rw [upd_same]
          refine congrArg (fun z => some (HO.lst z)) ?_
          unfold iV
          rw [List.map_append, List.map_cons, List.length_map, List.append_assoc]
          rfl
        · rw [List.append_assoc, List.cons_append]
          exact al
        · have xa : x ≠ a := ne_of_none e na
          have xb : x ≠ b := ne_of_none e nbH
          have xg : x ≠ g := ne_of_none e ngH
          exact fg _ _ (fr3 _ _ (I.sm _ _ e) xa xb) xg
end Tl

/-! ## TEnd -/
namespace Tl
open PySem PySem.Spec PyProof.Rows L2
theorem all_mk {P : Program} {w : World} {K : PySem.W.Frag} {h : Heap} {mg : Str → Option Value} {fa CR CC CO fNum fNms fByt fSml fFit fFac fRai fPow fPad fLot fRin fMor fWho fRow fNbr fCin fHal fHol fOin fBeg fWrk fVal fShw fTol fPdd fSea fRgt fOne fAns : Addr} (X : K.In h) (G : h.Ns mainGlobals mg) (hfa : mg "answers" = some (.ref fa))
    {odNum anNum odNms anNms odByt anByt odSml anSml odFit anFit odFac anFac odRai anRai odPow anPow odPad anPad odLot anLot odRin anRin odMor anMor odWho anWho odRow anRow odNbr anNbr odCin anCin odHal anHal odHol anHol odOin anOin odBeg anBeg odWrk anWrk odVal anVal odShw anShw odTol anTol odPdd anPdd odSea anSea odRgt anRgt odOne anOne odAns anAns : Option Addr} {slNum slNms slByt slSml slFit slFac slRai slPow slPad slLot slRin slMor slWho slRow slNbr slCin slHal slHol slOin slBeg slWrk slVal slShw slTol slPdd slSea slRgt slOne slAns : Array (Option Value)} {ocNum kVNum dcNum pmNum cdNum ctNum ocNms kVNms dcNms pmNms cdNms ctNms ocByt kVByt dcByt pmByt cdByt ctByt ocSml kVSml dcSml pmSml cdSml ctSml ocFit kVFit dcFit pmFit cdFit ctFit ocFac kVFac dcFac pmFac cdFac ctFac ocRai kVRai dcRai pmRai cdRai ctRai ocPow kVPow dcPow pmPow cdPow ctPow ocPad kVPad dcPad pmPad cdPad ctPad ocLot kVLot dcLot pmLot cdLot ctLot ocRin kVRin dcRin pmRin cdRin ctRin ocMor kVMor dcMor pmMor cdMor ctMor ocWho kVWho dcWho pmWho cdWho ctWho ocRow kVRow dcRow pmRow cdRow ctRow ocNbr kVNbr dcNbr pmNbr cdNbr ctNbr ocCin kVCin dcCin pmCin cdCin ctCin ocHal kVHal dcHal pmHal cdHal ctHal ocHol kVHol dcHol pmHol cdHol ctHol ocOin kVOin dcOin pmOin cdOin ctOin ocBeg kVBeg dcBeg pmBeg cdBeg ctBeg ocWrk kVWrk dcWrk pmWrk cdWrk ctWrk ocVal kVVal dcVal pmVal cdVal ctVal ocShw kVShw dcShw pmShw cdShw ctShw ocTol kVTol dcTol pmTol cdTol ctTol ocPdd kVPdd dcPdd pmPdd cdPdd ctPdd ocSea kVSea dcSea pmSea cdSea ctSea ocRgt kVRgt dcRgt pmRgt cdRgt ctRgt ocOne kVOne dcOne pmOne cdOne ctOne ocAns kVAns dcAns pmAns cdAns ctAns : Value}
    (aR : PySem.W.nsIn K mainGlobals "Reader" = some (some (.ref CR)))
    (aC : PySem.W.nsIn K mainGlobals "Claim" = some (some (.ref CC)))
    (aO : PySem.W.nsIn K mainGlobals "Opening" = some (some (.ref CO)))
    (aNum : PySem.W.nsIn K mainGlobals "number_of" = some (some (.ref fNum)))
    (lNum : K.lookup fNum = some ⟨ocNum, odNum, .func (PySem.W.fnOf "number_of" "number_of" (defArgs sNum) (defBody sNum) (defScope sNum) .none kVNum dcNum pmNum anNum cdNum ctNum), slNum⟩) (cNum : PySem.W.codeIn K cdNum "number_of" = true) (kNum : PySem.W.keepIn K (.ref fNum) = true)
    (aNms : PySem.W.nsIn K mainGlobals "numbers_of" = some (some (.ref fNms)))
    (lNms : K.lookup fNms = some ⟨ocNms, odNms, .func (PySem.W.fnOf "numbers_of" "numbers_of" (defArgs sNms) (defBody sNms) (defScope sNms) .none kVNms dcNms pmNms anNms cdNms ctNms), slNms⟩) (cNms : PySem.W.codeIn K cdNms "numbers_of" = true) (kNms : PySem.W.keepIn K (.ref fNms) = true)
    (aByt : PySem.W.nsIn K mainGlobals "bytes_of" = some (some (.ref fByt)))
    (lByt : K.lookup fByt = some ⟨ocByt, odByt, .func (PySem.W.fnOf "bytes_of" "bytes_of" (defArgs sByt) (defBody sByt) (defScope sByt) .none kVByt dcByt pmByt anByt cdByt ctByt), slByt⟩) (cByt : PySem.W.codeIn K cdByt "bytes_of" = true) (kByt : PySem.W.keepIn K (.ref fByt) = true)
    (aSml : PySem.W.nsIn K mainGlobals "is_small" = some (some (.ref fSml)))
    (lSml : K.lookup fSml = some ⟨ocSml, odSml, .func (PySem.W.fnOf "is_small" "is_small" (defArgs sSml) (defBody sSml) (defScope sSml) .none kVSml dcSml pmSml anSml cdSml ctSml), slSml⟩) (cSml : PySem.W.codeIn K cdSml "is_small" = true) (kSml : PySem.W.keepIn K (.ref fSml) = true)
    (aFit : PySem.W.nsIn K mainGlobals "is_fit" = some (some (.ref fFit)))
    (lFit : K.lookup fFit = some ⟨ocFit, odFit, .func (PySem.W.fnOf "is_fit" "is_fit" (defArgs sFit) (defBody sFit) (defScope sFit) .none kVFit dcFit pmFit anFit cdFit ctFit), slFit⟩) (cFit : PySem.W.codeIn K cdFit "is_fit" = true) (kFit : PySem.W.keepIn K (.ref fFit) = true)
    (aFac : PySem.W.nsIn K mainGlobals "face" = some (some (.ref fFac)))
    (lFac : K.lookup fFac = some ⟨ocFac, odFac, .func (PySem.W.fnOf "face" "face" (defArgs sFac) (defBody sFac) (defScope sFac) .none kVFac dcFac pmFac anFac cdFac ctFac), slFac⟩) (cFac : PySem.W.codeIn K cdFac "face" = true) (kFac : PySem.W.keepIn K (.ref fFac) = true)
    (aRai : PySem.W.nsIn K mainGlobals "raised" = some (some (.ref fRai)))
    (lRai : K.lookup fRai = some ⟨ocRai, odRai, .func (PySem.W.fnOf "raised" "raised" (defArgs sRai) (defBody sRai) (defScope sRai) .none kVRai dcRai pmRai anRai cdRai ctRai), slRai⟩) (cRai : PySem.W.codeIn K cdRai "raised" = true) (kRai : PySem.W.keepIn K (.ref fRai) = true)
    (aPow : PySem.W.nsIn K mainGlobals "power" = some (some (.ref fPow)))
    (lPow : K.lookup fPow = some ⟨ocPow, odPow, .func (PySem.W.fnOf "power" "power" (defArgs sPow) (defBody sPow) (defScope sPow) .none kVPow dcPow pmPow anPow cdPow ctPow), slPow⟩) (cPow : PySem.W.codeIn K cdPow "power" = true) (kPow : PySem.W.keepIn K (.ref fPow) = true)
    (aPad : PySem.W.nsIn K mainGlobals "pad" = some (some (.ref fPad)))
    (lPad : K.lookup fPad = some ⟨ocPad, odPad, .func (PySem.W.fnOf "pad" "pad" (defArgs sPad) (defBody sPad) (defScope sPad) .none kVPad dcPad pmPad anPad cdPad ctPad), slPad⟩) (cPad : PySem.W.codeIn K cdPad "pad" = true) (kPad : PySem.W.keepIn K (.ref fPad) = true)
    (aLot : PySem.W.nsIn K mainGlobals "lot" = some (some (.ref fLot)))
    (lLot : K.lookup fLot = some ⟨ocLot, odLot, .func (PySem.W.fnOf "lot" "lot" (defArgs sLot) (defBody sLot) (defScope sLot) .none kVLot dcLot pmLot anLot cdLot ctLot), slLot⟩) (cLot : PySem.W.codeIn K cdLot "lot" = true) (kLot : PySem.W.keepIn K (.ref fLot) = true)
    (aRin : PySem.W.findIn K (.ref CR) "__init__" = some (some (.ref fRin))) (iRin : PySem.W.isFn K (.ref fRin) = true)
    (lRin : K.lookup fRin = some ⟨ocRin, odRin, .func (PySem.W.fnOf "__init__" "Reader.__init__" (defArgs sRin) (defBody sRin) (defScope sRin) .none kVRin dcRin pmRin anRin cdRin ctRin), slRin⟩) (cRin : PySem.W.codeIn K cdRin "Reader.__init__" = true) (kRin : PySem.W.keepIn K (.ref fRin) = true)
    (aMor : PySem.W.findIn K (.ref CR) "more" = some (some (.ref fMor))) (iMor : PySem.W.isFn K (.ref fMor) = true)
    (lMor : K.lookup fMor = some ⟨ocMor, odMor, .func (PySem.W.fnOf "more" "Reader.more" (defArgs sMor) (defBody sMor) (defScope sMor) .none kVMor dcMor pmMor anMor cdMor ctMor), slMor⟩) (cMor : PySem.W.codeIn K cdMor "Reader.more" = true) (kMor : PySem.W.keepIn K (.ref fMor) = true)
    (aWho : PySem.W.findIn K (.ref CR) "whole" = some (some (.ref fWho))) (iWho : PySem.W.isFn K (.ref fWho) = true)
    (lWho : K.lookup fWho = some ⟨ocWho, odWho, .func (PySem.W.fnOf "whole" "Reader.whole" (defArgs sWho) (defBody sWho) (defScope sWho) .none kVWho dcWho pmWho anWho cdWho ctWho), slWho⟩) (cWho : PySem.W.codeIn K cdWho "Reader.whole" = true) (kWho : PySem.W.keepIn K (.ref fWho) = true)
    (aRow : PySem.W.findIn K (.ref CR) "row" = some (some (.ref fRow))) (iRow : PySem.W.isFn K (.ref fRow) = true)
    (lRow : K.lookup fRow = some ⟨ocRow, odRow, .func (PySem.W.fnOf "row" "Reader.row" (defArgs sRow) (defBody sRow) (defScope sRow) .none kVRow dcRow pmRow anRow cdRow ctRow), slRow⟩) (cRow : PySem.W.codeIn K cdRow "Reader.row" = true) (kRow : PySem.W.keepIn K (.ref fRow) = true)
    (aNbr : PySem.W.findIn K (.ref CR) "number" = some (some (.ref fNbr))) (iNbr : PySem.W.isFn K (.ref fNbr) = true)
    (lNbr : K.lookup fNbr = some ⟨ocNbr, odNbr, .func (PySem.W.fnOf "number" "Reader.number" (defArgs sNbr) (defBody sNbr) (defScope sNbr) .none kVNbr dcNbr pmNbr anNbr cdNbr ctNbr), slNbr⟩) (cNbr : PySem.W.codeIn K cdNbr "Reader.number" = true) (kNbr : PySem.W.keepIn K (.ref fNbr) = true)
    (aCin : PySem.W.findIn K (.ref CC) "__init__" = some (some (.ref fCin))) (iCin : PySem.W.isFn K (.ref fCin) = true)
    (lCin : K.lookup fCin = some ⟨ocCin, odCin, .func (PySem.W.fnOf "__init__" "Claim.__init__" (defArgs sCin) (defBody sCin) (defScope sCin) .none kVCin dcCin pmCin anCin cdCin ctCin), slCin⟩) (cCin : PySem.W.codeIn K cdCin "Claim.__init__" = true) (kCin : PySem.W.keepIn K (.ref fCin) = true)
    (aHal : PySem.W.findIn K (.ref CC) "halve" = some (some (.ref fHal))) (iHal : PySem.W.isFn K (.ref fHal) = true)
    (lHal : K.lookup fHal = some ⟨ocHal, odHal, .func (PySem.W.fnOf "halve" "Claim.halve" (defArgs sHal) (defBody sHal) (defScope sHal) .none kVHal dcHal pmHal anHal cdHal ctHal), slHal⟩) (cHal : PySem.W.codeIn K cdHal "Claim.halve" = true) (kHal : PySem.W.keepIn K (.ref fHal) = true)
    (aHol : PySem.W.findIn K (.ref CC) "holds_at_last" = some (some (.ref fHol))) (iHol : PySem.W.isFn K (.ref fHol) = true)
    (lHol : K.lookup fHol = some ⟨ocHol, odHol, .func (PySem.W.fnOf "holds_at_last" "Claim.holds_at_last" (defArgs sHol) (defBody sHol) (defScope sHol) .none kVHol dcHol pmHol anHol cdHol ctHol), slHol⟩) (cHol : PySem.W.codeIn K cdHol "Claim.holds_at_last" = true) (kHol : PySem.W.keepIn K (.ref fHol) = true)
    (aOin : PySem.W.findIn K (.ref CO) "__init__" = some (some (.ref fOin))) (iOin : PySem.W.isFn K (.ref fOin) = true)
    (lOin : K.lookup fOin = some ⟨ocOin, odOin, .func (PySem.W.fnOf "__init__" "Opening.__init__" (defArgs sOin) (defBody sOin) (defScope sOin) .none kVOin dcOin pmOin anOin cdOin ctOin), slOin⟩) (cOin : PySem.W.codeIn K cdOin "Opening.__init__" = true) (kOin : PySem.W.keepIn K (.ref fOin) = true)
    (aBeg : PySem.W.findIn K (.ref CO) "begin" = some (some (.ref fBeg))) (iBeg : PySem.W.isFn K (.ref fBeg) = true)
    (lBeg : K.lookup fBeg = some ⟨ocBeg, odBeg, .func (PySem.W.fnOf "begin" "Opening.begin" (defArgs sBeg) (defBody sBeg) (defScope sBeg) .none kVBeg dcBeg pmBeg anBeg cdBeg ctBeg), slBeg⟩) (cBeg : PySem.W.codeIn K cdBeg "Opening.begin" = true) (kBeg : PySem.W.keepIn K (.ref fBeg) = true)
    (aWrk : PySem.W.findIn K (.ref CO) "work" = some (some (.ref fWrk))) (iWrk : PySem.W.isFn K (.ref fWrk) = true)
    (lWrk : K.lookup fWrk = some ⟨ocWrk, odWrk, .func (PySem.W.fnOf "work" "Opening.work" (defArgs sWrk) (defBody sWrk) (defScope sWrk) .none kVWrk dcWrk pmWrk anWrk cdWrk ctWrk), slWrk⟩) (cWrk : PySem.W.codeIn K cdWrk "Opening.work" = true) (kWrk : PySem.W.keepIn K (.ref fWrk) = true)
    (aVal : PySem.W.findIn K (.ref CO) "value" = some (some (.ref fVal))) (iVal : PySem.W.isFn K (.ref fVal) = true)
    (lVal : K.lookup fVal = some ⟨ocVal, odVal, .func (PySem.W.fnOf "value" "Opening.value" (defArgs sVal) (defBody sVal) (defScope sVal) .none kVVal dcVal pmVal anVal cdVal ctVal), slVal⟩) (cVal : PySem.W.codeIn K cdVal "Opening.value" = true) (kVal : PySem.W.keepIn K (.ref fVal) = true)
    (aShw : PySem.W.findIn K (.ref CO) "show" = some (some (.ref fShw))) (iShw : PySem.W.isFn K (.ref fShw) = true)
    (lShw : K.lookup fShw = some ⟨ocShw, odShw, .func (PySem.W.fnOf "show" "Opening.show" (defArgs sShw) (defBody sShw) (defScope sShw) .none kVShw dcShw pmShw anShw cdShw ctShw), slShw⟩) (cShw : PySem.W.codeIn K cdShw "Opening.show" = true) (kShw : PySem.W.keepIn K (.ref fShw) = true)
    (aTol : PySem.W.nsIn K mainGlobals "told" = some (some (.ref fTol)))
    (lTol : K.lookup fTol = some ⟨ocTol, odTol, .func (PySem.W.fnOf "told" "told" (defArgs sTol) (defBody sTol) (defScope sTol) .none kVTol dcTol pmTol anTol cdTol ctTol), slTol⟩) (cTol : PySem.W.codeIn K cdTol "told" = true) (kTol : PySem.W.keepIn K (.ref fTol) = true)
    (aPdd : PySem.W.nsIn K mainGlobals "padded" = some (some (.ref fPdd)))
    (lPdd : K.lookup fPdd = some ⟨ocPdd, odPdd, .func (PySem.W.fnOf "padded" "padded" (defArgs sPdd) (defBody sPdd) (defScope sPdd) .none kVPdd dcPdd pmPdd anPdd cdPdd ctPdd), slPdd⟩) (cPdd : PySem.W.codeIn K cdPdd "padded" = true) (kPdd : PySem.W.keepIn K (.ref fPdd) = true)
    (aSea : PySem.W.nsIn K mainGlobals "seal" = some (some (.ref fSea)))
    (lSea : K.lookup fSea = some ⟨ocSea, odSea, .func (PySem.W.fnOf "seal" "seal" (defArgs sSea) (defBody sSea) (defScope sSea) .none kVSea dcSea pmSea anSea cdSea ctSea), slSea⟩) (cSea : PySem.W.codeIn K cdSea "seal" = true) (kSea : PySem.W.keepIn K (.ref fSea) = true)
    (aRgt : PySem.W.nsIn K mainGlobals "right" = some (some (.ref fRgt)))
    (lRgt : K.lookup fRgt = some ⟨ocRgt, odRgt, .func (PySem.W.fnOf "right" "right" (defArgs sRgt) (defBody sRgt) (defScope sRgt) .none kVRgt dcRgt pmRgt anRgt cdRgt ctRgt), slRgt⟩) (cRgt : PySem.W.codeIn K cdRgt "right" = true) (kRgt : PySem.W.keepIn K (.ref fRgt) = true)
    (aOne : PySem.W.nsIn K mainGlobals "answer_of" = some (some (.ref fOne)))
    (lOne : K.lookup fOne = some ⟨ocOne, odOne, .func (PySem.W.fnOf "answer_of" "answer_of" (defArgs sOne) (defBody sOne) (defScope sOne) .none kVOne dcOne pmOne anOne cdOne ctOne), slOne⟩) (cOne : PySem.W.codeIn K cdOne "answer_of" = true) (kOne : PySem.W.keepIn K (.ref fOne) = true)
    (aAns : PySem.W.nsIn K mainGlobals "answers" = some (some (.ref fAns)))
    (lAns : K.lookup fAns = some ⟨ocAns, odAns, .func (PySem.W.fnOf "answers" "answers" (defArgs sAns) (defBody sAns) (defScope sAns) .none kVAns dcAns pmAns anAns cdAns ctAns), slAns⟩) (cAns : PySem.W.codeIn K cdAns "answers" = true) (kAns : PySem.W.keepIn K (.ref fAns) = true)
    (pgR : PySem.W.plainGet K CR Str.empty = true) (hdR : PySem.W.hasDictIn K CR = true) (poR : PySem.W.plainOver K CR = true) (saR : PySem.W.findIn K (.ref CR) "__setattr__" = some (some (.builtin "object.__setattr__"))) (mkR : PySem.W.makesIn K CR = true) (kcR : PySem.W.keepIn K (.ref CR) = true)
    (nR_calls : PySem.W.findIn K (.ref CR) "calls" = some none)
    (nR_place : PySem.W.findIn K (.ref CR) "place" = some none)
    (pgC : PySem.W.plainGet K CC Str.empty = true) (hdC : PySem.W.hasDictIn K CC = true) (poC : PySem.W.plainOver K CC = true) (saC : PySem.W.findIn K (.ref CC) "__setattr__" = some (some (.builtin "object.__setattr__"))) (mkC : PySem.W.makesIn K CC = true) (kcC : PySem.W.keepIn K (.ref CC) = true)
    (nC_n : PySem.W.findIn K (.ref CC) "n" = some none)
    (nC_a : PySem.W.findIn K (.ref CC) "a" = some none)
    (nC_b : PySem.W.findIn K (.ref CC) "b" = some none)
    (nC_asked : PySem.W.findIn K (.ref CC) "asked" = some none)
    (pgO : PySem.W.plainGet K CO Str.empty = true) (hdO : PySem.W.hasDictIn K CO = true) (poO : PySem.W.plainOver K CO = true) (saO : PySem.W.findIn K (.ref CO) "__setattr__" = some (some (.builtin "object.__setattr__"))) (mkO : PySem.W.makesIn K CO = true) (kcO : PySem.W.keepIn K (.ref CO) = true)
    (nO_begun : PySem.W.findIn K (.ref CO) "begun" = some none)
    (nO_k : PySem.W.findIn K (.ref CO) "k" = some none)
    (nO_n : PySem.W.findIn K (.ref CO) "n" = some none)
    (nO_x : PySem.W.findIn K (.ref CO) "x" = some none)
    (nO_reached : PySem.W.findIn K (.ref CO) "reached" = some none)
    (nO_left : PySem.W.findIn K (.ref CO) "left" = some none)
    (z_range : PySem.W.nsIn K mainGlobals "range" = some none)
    (z_len : PySem.W.nsIn K mainGlobals "len" = some none)
    (z_min : PySem.W.nsIn K mainGlobals "min" = some none)
    (z_zip : PySem.W.nsIn K mainGlobals "zip" = some none)
    : ∃ fd : FuncData, (∀ (s : Shared) (us : List Value), us.length = (["calls"] : List Str).length → BindsTo s fd ⟨us, []⟩ ((["calls"] : List Str).zip us)) ∧ ∀ base : Heap, K.In base → base.Ns mainGlobals mg → FnOk P w K mg base CX0 6 fa fd ["calls"] (spAns K RT) := by
  have e := hfa.symm.trans (PySem.W.mg_of X G aAns)
  cases e
  have FNum := fun_mk (st := sNum) lNum cNum kNum
  have bNum := FNum.binds (ps := ["row"]) fun _ _ _ _ _ _ us hl => match us, hl with | [_], _ => rfl
  have mNum := PySem.W.mg_of X G aNum
  have FNms := fun_mk (st := sNms) lNms cNms kNms
  have bNms := FNms.binds (ps := ["row"]) fun _ _ _ _ _ _ us hl => match us, hl with | [_], _ => rfl
  have mNms := PySem.W.mg_of X G aNms
  have FByt := fun_mk (st := sByt) lByt cByt kByt
  have bByt := FByt.binds (ps := ["number"]) fun _ _ _ _ _ _ us hl => match us, hl with | [_], _ => rfl
  have mByt := PySem.W.mg_of X G aByt
  have FSml := fun_mk (st := sSml) lSml cSml kSml
  have bSml := FSml.binds (ps := ["number", "n"]) fun _ _ _ _ _ _ us hl => match us, hl with | [_, _], _ => rfl
  have mSml := PySem.W.mg_of X G aSml
  have FFit := fun_mk (st := sFit) lFit cFit kFit
  have bFit := FFit.binds (ps := ["n", "x", "k"]) fun _ _ _ _ _ _ us hl => match us, hl with | [_, _, _], _ => rfl
  have mFit := PySem.W.mg_of X G aFit
  have FFac := fun_mk (st := sFac) lFac cFac kFac
  have bFac := FFac.binds (ps := ["number", "n"]) fun _ _ _ _ _ _ us hl => match us, hl with | [_, _], _ => rfl
  have mFac := PySem.W.mg_of X G aFac
  have FRai := fun_mk (st := sRai) lRai cRai kRai
  have bRai := FRai.binds (ps := ["number", "times", "n"]) fun _ _ _ _ _ _ us hl => match us, hl with | [_, _, _], _ => rfl
  have mRai := PySem.W.mg_of X G aRai
  have FPow := fun_mk (st := sPow) lPow cPow kPow
  have bPow := FPow.binds (ps := ["number", "exponent", "n"]) fun _ _ _ _ _ _ us hl => match us, hl with | [_, _, _], _ => rfl
  have mPow := PySem.W.mg_of X G aPow
  have FPad := fun_mk (st := sPad) lPad cPad kPad
  have bPad := FPad.binds (ps := ["number"]) fun _ _ _ _ _ _ us hl => match us, hl with | [_], _ => rfl
  have mPad := PySem.W.mg_of X G aPad
  have FLot := fun_mk (st := sLot) lLot cLot kLot
  have bLot := FLot.binds (ps := ["n", "a", "b", "c", "t"]) fun _ _ _ _ _ _ us hl => match us, hl with | [_, _, _, _, _], _ => rfl
  have mLot := PySem.W.mg_of X G aLot
  have FRin := fun_mk (st := sRin) lRin cRin kRin
  have bRin := FRin.binds (ps := ["self", "calls"]) fun _ _ _ _ _ _ us hl => match us, hl with | [_, _], _ => rfl
  have FMor := fun_mk (st := sMor) lMor cMor kMor
  have bMor := FMor.binds (ps := ["self"]) fun _ _ _ _ _ _ us hl => match us, hl with | [_], _ => rfl
  have FWho := fun_mk (st := sWho) lWho cWho kWho
  have bWho := FWho.binds (ps := ["self"]) fun _ _ _ _ _ _ us hl => match us, hl with | [_], _ => rfl
  have FRow := fun_mk (st := sRow) lRow cRow kRow
  have bRow := FRow.binds (ps := ["self"]) fun _ _ _ _ _ _ us hl => match us, hl with | [_], _ => rfl
  have FNbr := fun_mk (st := sNbr) lNbr cNbr kNbr
  have bNbr := FNbr.binds (ps := ["self"]) fun _ _ _ _ _ _ us hl => match us, hl with | [_], _ => rfl
  have FCin := fun_mk (st := sCin) lCin cCin kCin
  have bCin := FCin.binds (ps := ["self", "n", "a", "b"]) fun _ _ _ _ _ _ us hl => match us, hl with | [_, _, _, _], _ => rfl
  have FHal := fun_mk (st := sHal) lHal cHal kHal
  have bHal := FHal.binds (ps := ["self", "c", "t"]) fun _ _ _ _ _ _ us hl => match us, hl with | [_, _, _], _ => rfl
  have FHol := fun_mk (st := sHol) lHol cHol kHol
  have bHol := FHol.binds (ps := ["self"]) fun _ _ _ _ _ _ us hl => match us, hl with | [_], _ => rfl
  have FOin := fun_mk (st := sOin) lOin cOin kOin
  have bOin := FOin.binds (ps := ["self"]) fun _ _ _ _ _ _ us hl => match us, hl with | [_], _ => rfl
  have FBeg := fun_mk (st := sBeg) lBeg cBeg kBeg
  have bBeg := FBeg.binds (ps := ["self", "k", "n", "x"]) fun _ _ _ _ _ _ us hl => match us, hl with | [_, _, _, _], _ => rfl
  have FWrk := fun_mk (st := sWrk) lWrk cWrk kWrk
  have bWrk := FWrk.binds (ps := ["self", "steps"]) fun _ _ _ _ _ _ us hl => match us, hl with | [_, _], _ => rfl
  have FVal := fun_mk (st := sVal) lVal cVal kVal
  have bVal := FVal.binds (ps := ["self"]) fun _ _ _ _ _ _ us hl => match us, hl with | [_], _ => rfl
  have FShw := fun_mk (st := sShw) lShw cShw kShw
  have bShw := FShw.binds (ps := ["self"]) fun _ _ _ _ _ _ us hl => match us, hl with | [_], _ => rfl
  have FTol := fun_mk (st := sTol) lTol cTol kTol
  have bTol := FTol.binds (ps := ["answered", "asked"]) fun _ _ _ _ _ _ us hl => match us, hl with | [_, _], _ => rfl
  have mTol := PySem.W.mg_of X G aTol
  have FPdd := fun_mk (st := sPdd) lPdd cPdd kPdd
  have bPdd := FPdd.binds (ps := ["row", "number"]) fun _ _ _ _ _ _ us hl => match us, hl with | [_, _], _ => rfl
  have mPdd := PySem.W.mg_of X G aPdd
  have FSea := fun_mk (st := sSea) lSea cSea kSea
  have bSea := FSea.binds (ps := ["k", "n", "x", "m", "letter"]) fun _ _ _ _ _ _ us hl => match us, hl with | [_, _, _, _, _], _ => rfl
  have mSea := PySem.W.mg_of X G aSea
  have FRgt := fun_mk (st := sRgt) lRgt cRgt kRgt
  have bRgt := FRgt.binds (ps := ["k", "n", "x", "y", "proof"]) fun _ _ _ _ _ _ us hl => match us, hl with | [_, _, _, _, _], _ => rfl
  have mRgt := PySem.W.mg_of X G aRgt
  have FOne := fun_mk (st := sOne) lOne cOne kOne
  have bOne := FOne.binds (ps := ["reader", "opening"]) fun _ _ _ _ _ _ us hl => match us, hl with | [_, _], _ => rfl
  have mOne := PySem.W.mg_of X G aOne
  have FAns := fun_mk (st := sAns) lAns cAns kAns
  have mR := PySem.W.mg_of X G aR
  have mC := PySem.W.mg_of X G aC
  have mO := PySem.W.mg_of X G aO
  have m_range := PySem.W.mg_none_of X G z_range
  have m_len := PySem.W.mg_none_of X G z_len
  have m_min := PySem.W.mg_none_of X G z_min
  have m_zip := PySem.W.mg_none_of X G z_zip
  have TR : TxtR K CR := ⟨⟨pgR, hdR, poR, saR⟩, nR_calls, nR_place⟩
  have TC : TxtC K CC := ⟨⟨pgC, hdC, poC, saC⟩, nC_n, nC_a, nC_b, nC_asked⟩
  have TO : TxtO K CO := ⟨⟨pgO, hdO, poO, saO⟩, nO_begun, nO_k, nO_n, nO_x, nO_reached, nO_left⟩
  refine ⟨PySem.W.fnOf "answers" "answers" (defArgs sAns) (defBody sAns) (defScope sAns) .none kVAns dcAns pmAns anAns cdAns ctAns, fun s us hu => match us, hu with | [_], _ => .of_eq rfl, fun base _ _ => ?_⟩
  have ANum : At P w K mg base "number_of" 1 ["row"] (spNum K) fNum _ := ⟨ok_num FNum, mNum, kNum, bNum⟩
  have AByt : At P w K mg base "bytes_of" 1 ["number"] spByt fByt _ := ⟨ok_byt FByt m_range, mByt, kByt, bByt⟩
  have ANms : At P w K mg base "numbers_of" 2 ["row"] (spNms K) fNms _ := ⟨ok_nms FNms ANum.ok mNum kNum bNum m_range m_len, mNms, kNms, bNms⟩
  have ASml : At P w K mg base "is_small" 1 ["number", "n"] spSml fSml _ := ⟨ok_sml FSml, mSml, kSml, bSml⟩
  have ALot : At P w K mg base "lot" 1 ["n", "a", "b", "c", "t"] spLot fLot _ := ⟨ok_lot FLot, mLot, kLot, bLot⟩
  have AFit : At P w K mg base "is_fit" 2 ["n", "x", "k"] spFit fFit _ := ⟨ok_fit FFit (ok_sml FSml) mSml kSml bSml, mFit, kFit, bFit⟩
  have AFac : At P w K mg base "face" 1 ["number", "n"] spFac fFac _ := ⟨ok_fac FFac m_min, mFac, kFac, bFac⟩
  have ARai : At P w K mg base "raised" 1 ["number", "times", "n"] spRai fRai _ := ⟨ok_rai FRai m_range, mRai, kRai, bRai⟩
  have APow : At P w K mg base "power" 1 ["number", "exponent", "n"] spPow fPow _ := ⟨ok_pow FPow, mPow, kPow, bPow⟩
  have ATol : At P w K mg base "told" 1 ["answered", "asked"] spTol fTol _ := ⟨ok_tol FTol m_len, mTol, kTol, bTol⟩
  have GPad : FnOk P w K mg base CX0 2 fPad _ ["number"] spPad := ok_pad FPad AByt.ok mByt kByt bByt m_range
  have APdd : At P w K mg base "padded" 3 ["row", "number"] (spPdd K) fPdd _ := ⟨ok_pdd FPdd GPad mPad kPad bPad ATol.ok mTol kTol bTol AByt.ok mByt kByt bByt m_zip, mPdd, kPdd, bPdd⟩
  have ASea : At P w K mg base "seal" 4 ["k", "n", "x", "m", "letter"] (spSea K) fSea _ := ⟨ok_sea FSea AFit ATol ARai APow AFac APdd, mSea, kSea, bSea⟩
  have MMor : MAt P w K mg base CR "more" 1 ["self"] (spMor K CR) fMor _ := ⟨ok_mor FMor TR m_len, ⟨aMor, iMor, kMor⟩, bMor⟩
  have MWho : MAt P w K mg base CR "whole" 1 ["self"] (spWho K CR) fWho _ := ⟨ok_who FWho TR, ⟨aWho, iWho, kWho⟩, bWho⟩
  have MRow : MAt P w K mg base CR "row" 2 ["self"] (spRow K CR) fRow _ := ⟨ok_row FRow TR MWho.ok MWho.me MWho.bd, ⟨aRow, iRow, kRow⟩, bRow⟩
  have MNbr : MAt P w K mg base CR "number" 3 ["self"] (spNbr K CR) fNbr _ := ⟨ok_nbr FNbr TR MRow.ok MRow.me MRow.bd ANum.ok mNum kNum bNum, ⟨aNbr, iNbr, kNbr⟩, bNbr⟩
  have MBeg : MAt P w K mg base CO "begin" 3 ["self", "k", "n", "x"] (spBeg CO) fBeg _ := ⟨ok_beg FBeg TO AFit ATol, ⟨aBeg, iBeg, kBeg⟩, bBeg⟩
  have MWrk : MAt P w K mg base CO "work" 2 ["self", "steps"] (spWrk CO) fWrk _ := ⟨ok_wrk FWrk TO ARai ATol m_min, ⟨aWrk, iWrk, kWrk⟩, bWrk⟩
  have MVal : MAt P w K mg base CO "value" 2 ["self"] (spVal CO) fVal _ := ⟨ok_val FVal TO AFac ATol AByt, ⟨aVal, iVal, kVal⟩, bVal⟩
  have MHal : MAt P w K mg base CC "halve" 2 ["self", "c", "t"] (spHal CC) fHal _ := ⟨ok_hal FHal TC ALot AByt AFac APow, ⟨aHal, iHal, kHal⟩, bHal⟩
  have MHol : MAt P w K mg base CC "holds_at_last" 2 ["self"] (spHol CC) fHol _ := ⟨ok_hol FHol TC AFac, ⟨aHol, iHol, kHol⟩, bHol⟩
  have MShw : MAt P w K mg base CO "show" 3 ["self"] (spShw CO) fShw _ := ⟨ok_shw FShw TO TC mC ⟨mkC, aCin, iCin, kcC⟩ (ok_cin FCin TC) bCin MHal AFac ATol AByt ARai m_range, ⟨aShw, iShw, kShw⟩, bShw⟩
  have ARgt : At P w K mg base "right" 3 ["k", "n", "x", "y", "proof"] (spRgt K) fRgt _ := ⟨ok_rgt FRgt TC mC ⟨mkC, aCin, iCin, kcC⟩ (ok_cin FCin TC) bCin MHal MHol AFit ATol ANms ASml m_range, mRgt, kRgt, bRgt⟩
  have AOne : At P w K mg base "answer_of" 5 ["reader", "opening"] (spOne K CR CO RT) fOne _ := ⟨ok_one FOne TR TO MWho MNbr MRow ASea MBeg MWrk MVal MShw ARgt APdd, mOne, kOne, bOne⟩
  exact ok_ans (k1 := 0) FAns TR TO mR ⟨mkR, aRin, iRin, kcR⟩ (ok_rin FRin TR) bRin mO ⟨mkO, aOin, iOin, kcO⟩ (ok_oin FOin TO) bOin MMor AOne m_len
end Tl
open PySem PySem.W PyProof.Rows
set_option maxRecDepth 100000 in
set_option maxHeartbeats 8000000 in
theorem PySem.Challenge.cw_timedletters_s01_answers_holds : PySem.Challenge.rw_timedletters_s01_answers.Holds := by
  w_on; k_headS; (case hw => exact ⟨[.list [.int 3]], by decide +kernel, by decide +kernel⟩)
  k_fillS
  refine L2.walk_specK (r := PySem.Challenge.rw_timedletters_s01_answers) (k := 6) (CX := L2.CX0) (ps := ["calls"]) (sp := fun K => Tl.spAns K Tl.RT) (by decide +kernel) rfl rfl ⟨rfl, by decide, by decide⟩ (fun w h Y => PySem.W.kIn_of Y) ?F ?S (fun _ _ _ _ z => z)
  case F =>
    intro w mg fa h Y KX G hmg
    refine' Tl.all_mk KX G hmg ?aR ?aC ?aO ?aNum ?lNum ?cNum ?kNum ?aNms ?lNms ?cNms ?kNms ?aByt ?lByt ?cByt ?kByt ?aSml ?lSml ?cSml ?kSml ?aFit ?lFit ?cFit ?kFit ?aFac ?lFac ?cFac ?kFac ?aRai ?lRai ?cRai ?kRai ?aPow ?lPow ?cPow ?kPow ?aPad ?lPad ?cPad ?kPad ?aLot ?lLot ?cLot ?kLot ?aRin ?iRin ?lRin ?cRin ?kRin ?aMor ?iMor ?lMor ?cMor ?kMor ?aWho ?iWho ?lWho ?cWho ?kWho ?aRow ?iRow ?lRow ?cRow ?kRow ?aNbr ?iNbr ?lNbr ?cNbr ?kNbr ?aCin ?iCin ?lCin ?cCin ?kCin ?aHal ?iHal ?lHal ?cHal ?kHal ?aHol ?iHol ?lHol ?cHol ?kHol ?aOin ?iOin ?lOin ?cOin ?kOin ?aBeg ?iBeg ?lBeg ?cBeg ?kBeg ?aWrk ?iWrk ?lWrk ?cWrk ?kWrk ?aVal ?iVal ?lVal ?cVal ?kVal ?aShw ?iShw ?lShw ?cShw ?kShw ?aTol ?lTol ?cTol ?kTol ?aPdd ?lPdd ?cPdd ?kPdd ?aSea ?lSea ?cSea ?kSea ?aRgt ?lRgt ?cRgt ?kRgt ?aOne ?lOne ?cOne ?kOne ?aAns ?lAns ?cAns ?kAns ?pgR ?hdR ?poR ?saR ?mkR ?kcR ?nR_calls ?nR_place ?pgC ?hdC ?poC ?saC ?mkC ?kcC ?nC_n ?nC_a ?nC_b ?nC_asked ?pgO ?hdO ?poO ?saO ?mkO ?kcO ?nO_begun ?nO_k ?nO_n ?nO_x ?nO_reached ?nO_left ?z_range ?z_len ?z_min ?z_zip
    (case aR => k_is)
    (case aC => k_is)
    (case aO => k_is)
    (case aNum => k_is)
    (case lNum => k_is)
    (case cNum => k_is)
    (case kNum => k_is)
    (case aNms => k_is)
    (case lNms => k_is)
    (case cNms => k_is)
    (case kNms => k_is)
    (case aByt => k_is)
    (case lByt => k_is)
    (case cByt => k_is)
    (case kByt => k_is)
    (case aSml => k_is)
    (case lSml => k_is)
    (case cSml => k_is)
    (case kSml => k_is)
    (case aFit => k_is)
    (case lFit => k_is)
    (case cFit => k_is)
    (case kFit => k_is)
    (case aFac => k_is)
    (case lFac => k_is)
    (case cFac => k_is)
    (case kFac => k_is)
    (case aRai => k_is)
    (case lRai => k_is)
    (case cRai => k_is)
    (case kRai => k_is)
    (case aPow => k_is)
    (case lPow => k_is)
    (case cPow => k_is)
    (case kPow => k_is)
    (case aPad => k_is)
    (case lPad => k_is)
    (case cPad => k_is)
    (case kPad => k_is)
    (case aLot => k_is)
    (case lLot => k_is)
    (case cLot => k_is)
    (case kLot => k_is)
    (case aRin => k_is)
    (case iRin => k_is)
    (case lRin => k_is)
    (case cRin => k_is)
    (case kRin => k_is)
    (case aMor => k_is)
    (case iMor => k_is)
    (case lMor => k_is)
    (case cMor => k_is)
    (case kMor => k_is)
    (case aWho => k_is)
    (case iWho => k_is)
    (case lWho => k_is)
    (case cWho => k_is)
    (case kWho => k_is)
    (case aRow => k_is)
    (case iRow => k_is)
    (case lRow => k_is)
    (case cRow => k_is)
    (case kRow => k_is)
    (case aNbr => k_is)
    (case iNbr => k_is)
    (case lNbr => k_is)
    (case cNbr => k_is)
    (case kNbr => k_is)
    (case aCin => k_is)
    (case iCin => k_is)
    (case lCin => k_is)
    (case cCin => k_is)
    (case kCin => k_is)
    (case aHal => k_is)
    (case iHal => k_is)
    (case lHal => k_is)
    (case cHal => k_is)
    (case kHal => k_is)
    (case aHol => k_is)
    (case iHol => k_is)
    (case lHol => k_is)
    (case cHol => k_is)
    (case kHol => k_is)
    (case aOin => k_is)
    (case iOin => k_is)
    (case lOin => k_is)
    (case cOin => k_is)
    (case kOin => k_is)
    (case aBeg => k_is)
    (case iBeg => k_is)
    (case lBeg => k_is)
    (case cBeg => k_is)
    (case kBeg => k_is)
    (case aWrk => k_is)
    (case iWrk => k_is)
    (case lWrk => k_is)
    (case cWrk => k_is)
    (case kWrk => k_is)
    (case aVal => k_is)
    (case iVal => k_is)
    (case lVal => k_is)
    (case cVal => k_is)
    (case kVal => k_is)
    (case aShw => k_is)
    (case iShw => k_is)
    (case lShw => k_is)
    (case cShw => k_is)
    (case kShw => k_is)
    (case aTol => k_is)
    (case lTol => k_is)
    (case cTol => k_is)
    (case kTol => k_is)
    (case aPdd => k_is)
    (case lPdd => k_is)
    (case cPdd => k_is)
    (case kPdd => k_is)
    (case aSea => k_is)
    (case lSea => k_is)
    (case cSea => k_is)
    (case kSea => k_is)
    (case aRgt => k_is)
    (case lRgt => k_is)
    (case cRgt => k_is)
    (case kRgt => k_is)
    (case aOne => k_is)
    (case lOne => k_is)
    (case cOne => k_is)
    (case kOne => k_is)
    (case aAns => k_is)
    (case lAns => k_is)
    (case cAns => k_is)
    (case kAns => k_is)
    (case pgR => k_is)
    (case hdR => k_is)
    (case poR => k_is)
    (case saR => k_is)
    (case mkR => k_is)
    (case kcR => k_is)
    (case nR_calls => k_is)
    (case nR_place => k_is)
    (case pgC => k_is)
    (case hdC => k_is)
    (case poC => k_is)
    (case saC => k_is)
    (case mkC => k_is)
    (case kcC => k_is)
    (case nC_n => k_is)
    (case nC_a => k_is)
    (case nC_b => k_is)
    (case nC_asked => k_is)
    (case pgO => k_is)
    (case hdO => k_is)
    (case poO => k_is)
    (case saO => k_is)
    (case mkO => k_is)
    (case kcO => k_is)
    (case nO_begun => k_is)
    (case nO_k => k_is)
    (case nO_n => k_is)
    (case nO_x => k_is)
    (case nO_reached => k_is)
    (case nO_left => k_is)
    (case z_range => k_is)
    (case z_len => k_is)
    (case z_min => k_is)
    (case z_zip => k_is)
  case S =>
    intro K H xs a hO hwi hask hx
    cases hx with
    | cons h1 h2 =>
      cases h2
      cases h1 with
      | lst hs ha =>
        have e := L2.ints_dw a.1 _ ha
        subst e
        obtain ⟨cs, d1, d2, d3⟩ := Tm.asked_of (l := a.1) hask
        refine ⟨_, a.1, cs, rfl, hs, d1, fun _ _ => trivial, d3, fun H' p hp => ?_⟩
        rw [← d2] at hp
        exact .lst (L2.SqL.of hp) (L2.dw_ints _)


