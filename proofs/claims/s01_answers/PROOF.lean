import PyProof.Rows.All
import Wide.All
import OpenK.AllK
import Wide.FinOn
import Open.SpecLaws
import KE.OsGo
import HandS.ForSpec
import HandS.Comp
import HandS.Iter
import HandS.Walk
import HandS.Evl
import PySem.Challenge.RW_fortycounters_s01_answers
set_option Elab.async false
set_option linter.all false
section
set_option autoImplicit false
/-! The list of calls, read call by call: what one turn of reading finds, and what is due of the rest. Lists and numbers alone. -/
namespace Fc
abbrev Raw := List (List (List Int))
/-- what is left of the list reads as these calls, each as the document lets it be -/
structure Left (l : List Int) (raw : Raw) : Prop where
  parse : ∃ f, PyFlat.calls PyRc87.shape f l = some raw
  inside : PyInside.calls PyRc87.bound raw = true
  asked : (raw.map PyRc87.whole).all Rc87Neutral.asked1 = true
/-- what is due of these calls from a state on -/
def due (s : Rc87.Abs) (raw : Raw) : List Int := PyFlat.told (PyFlat.played Rc87Neutral.step s (raw.map PyRc87.whole))
/-- what is due of one call -/
def answer (s : Rc87.Abs) (c : Rc87.Call) : List Int := (Rc87.does s c).2.value :: (Rc87.does s c).2.numbers.map fun (b : Nat) => (b : Int)
def In32 (z : Int) : Prop := -2147483648 ≤ z ∧ z ≤ 2147483647
def InK (z : Int) : Prop := In32 z ∧ (z ≤ 5000 ∨ 1000000000 < z)
def Bytes (l : List Int) : Prop := ∀ x ∈ l, 0 ≤ x ∧ x ≤ 255
/-- one call at the head of what is left -/
inductive Turn : List Int → Rc87.Call → List Int → Prop
  | init (t : List Int) : Turn (0 :: t) .init t
  | rule (row t : List Int) (hl : row.length ≤ 80) (hb : Bytes row) : Turn (1 :: (row.length : Int) :: (row ++ t)) (.rule (row.map Int.toNat) (row.length : Int)) t
  | put (i v : Int) (t : List Int) (hi : In32 i) (hv : In32 v) : Turn (2 :: i :: v :: t) (.put i v) t
  | get (i : Int) (t : List Int) (hi : In32 i) : Turn (3 :: i :: t) (.get i) t
  | step (t : List Int) : Turn (4 :: t) .step t
  | run (k : Int) (t : List Int) (hk : InK k) : Turn (5 :: k :: t) (.run k) t
  | alone (i k : Int) (t : List Int) (hi : In32 i) (hk : InK k) : Turn (6 :: i :: k :: t) (.alone i k) t
  | number (t : List Int) : Turn (7 :: t) .number t
  | ratio (i : Int) (t : List Int) (hi : In32 i) : Turn (8 :: i :: t) (.ratio i) t
  | code (row t : List Int) (hl : row.length ≤ 64) (hb : Bytes row) : Turn (9 :: (row.length : Int) :: (row ++ t)) (.code (row.map Int.toNat) (row.length : Int)) t
  | made (t : List Int) : Turn (10 :: t) .made t
  | go (k : Int) (t : List Int) (hk : InK k) : Turn (11 :: k :: t) (.go k) t

theorem calls_cons {shape : Int → Option (Nat × Nat)} {f : Nat} {p : Int} {r : List Int} {raw : Raw} (h : PyFlat.calls shape f (p :: r) = some raw) :
    ∃ g c t cs, f = g + 1 ∧ PyFlat.call shape (p :: r) = some (c, t) ∧ PyFlat.calls shape g t = some cs ∧ raw = c :: cs := by
  cases f with
  | zero => simp [PyFlat.calls] at h
  | succ g =>
    rw [PyFlat.calls] at h
    split at h
    · cases h
    · rename_i c t e1
      split at h
      · cases h
      · rename_i cs e2
        exact ⟨g, c, t, cs, rfl, e1, e2, (Option.some.inj h).symm⟩
theorem call_n0 {shape : Int → Option (Nat × Nat)} {p : Int} {r : List Int} {n : Nat} {c : List (List Int)} {t : List Int} (hs : shape p = some (n, 0)) (h : PyFlat.call shape (p :: r) = some (c, t)) :
    n ≤ r.length ∧ c = [p :: r.take n] ∧ t = r.drop n := by
  rw [PyFlat.call, hs] at h
  dsimp only at h
  split at h
  · cases h
  · rename_i hn
    rw [PyFlat.rows] at h
    dsimp only at h
    have e := Option.some.inj h
    have e1 := congrArg Prod.fst e
    have e2 := congrArg Prod.snd e
    exact ⟨by omega, e1.symm, e2.symm⟩
theorem call_01 {shape : Int → Option (Nat × Nat)} {p : Int} {r : List Int} {c : List (List Int)} {t : List Int} (hs : shape p = some (0, 1)) (h : PyFlat.call shape (p :: r) = some (c, t)) :
    ∃ row : List Int, r = (row.length : Int) :: (row ++ t) ∧ c = [[p], row] := by
  rw [PyFlat.call, hs] at h
  dsimp only at h
  rw [if_neg (by omega), List.drop_zero, List.take_zero] at h
  cases r with
  | nil => simp [PyFlat.rows, PyFlat.row] at h
  | cons n r =>
    rw [PyFlat.rows, PyFlat.row] at h
    split at h
    · cases h
    · rename_i e
      split at e
      · cases e
      · rename_i xs s e1
        rw [PyFlat.rows] at e
        dsimp only at e
        have e2 := Option.some.inj e
        split at e1
        · rename_i hn
          have e3 := Option.some.inj e1
          have a1 := congrArg Prod.fst e3
          have a2 := congrArg Prod.snd e3
          have b1 := congrArg Prod.fst e2
          have b2 := congrArg Prod.snd e2
          have c1 := congrArg Prod.fst (Option.some.inj h)
          have c2 := congrArg Prod.snd (Option.some.inj h)
          dsimp only at a1 a2 b1 b2 c1 c2
          refine ⟨r.take n.toNat, ?_, ?_⟩
          · have hl : ((r.take n.toNat).length : Int) = n := by
              rw [List.length_take, Nat.min_eq_left hn.2]
              omega
            rw [hl, ← c2, ← b2, ← a2, List.take_append_drop]
          · rw [← c1, ← b1, ← a1]
        · cases e1
theorem due_cons (s : Rc87.Abs) (c : List (List Int)) (cs : Raw) {x : Rc87.Call} (h : Rc87Neutral.callOf (PyRc87.whole c) = some x) :
    due s (c :: cs) = ((answer s x).length : Int) :: (answer s x ++ due (Rc87.does s x).1 cs) := by
  have e : Rc87Neutral.step s (PyRc87.whole c) = ((Rc87.does s x).1, answer s x) := by
    unfold Rc87Neutral.step
    rw [h]
    rfl
  show PyFlat.told ((Rc87Neutral.step s (PyRc87.whole c)).2 :: PyFlat.played Rc87Neutral.step (Rc87Neutral.step s (PyRc87.whole c)).1 (cs.map PyRc87.whole)) = _
  rw [e]
  rfl
theorem left_tail {l : List Int} {c : List (List Int)} {cs : Raw} {g : Nat} (hp : PyFlat.calls PyRc87.shape g l = some cs) (hi : PyInside.calls PyRc87.bound (c :: cs) = true)
    (ha : ((c :: cs).map PyRc87.whole).all Rc87Neutral.asked1 = true) : Left l cs := by
  rw [List.map_cons, List.all_cons, Bool.and_eq_true] at ha
  unfold PyInside.calls at hi
  rw [List.all_cons, Bool.and_eq_true] at hi
  exact ⟨⟨g, hp⟩, hi.2, ha.2⟩
theorem in32_of {z : Int} (h : PyInside.within (-2147483648) 2147483647 z = true) : In32 z := by
  unfold PyInside.within at h
  rw [Bool.and_eq_true, decide_eq_true_iff, decide_eq_true_iff] at h
  exact h
theorem bytes_of {l : List Int} (h : l.all (PyInside.within 0 255) = true) : Bytes l := by
  intro x hx
  have q := List.all_eq_true.mp h x hx
  unfold PyInside.within at q
  rw [Bool.and_eq_true, decide_eq_true_iff, decide_eq_true_iff] at q
  exact q
theorem k_of {k : Int} (h : (decide (k ≤ 5000) || decide (1000000000 < k)) = true) : k ≤ 5000 ∨ 1000000000 < k := by
  rw [Bool.or_eq_true, decide_eq_true_iff, decide_eq_true_iff] at h
  exact h
theorem shape_le {p : Int} {q : Nat × Nat} (h : PyRc87.shape p = some q) : p = 0 ∨ p = 1 ∨ p = 2 ∨ p = 3 ∨ p = 4 ∨ p = 5 ∨ p = 6 ∨ p = 7 ∨ p = 8 ∨ p = 9 ∨ p = 10 ∨ p = 11 := by
  by_cases c : p = 0 ∨ p = 1 ∨ p = 2 ∨ p = 3 ∨ p = 4 ∨ p = 5 ∨ p = 6 ∨ p = 7 ∨ p = 8 ∨ p = 9 ∨ p = 10 ∨ p = 11
  · exact c
  · exfalso
    have n0 : p ≠ 0 := by omega
    have n1 : p ≠ 1 := by omega
    have n2 : p ≠ 2 := by omega
    have n3 : p ≠ 3 := by omega
    have n4 : p ≠ 4 := by omega
    have n5 : p ≠ 5 := by omega
    have n6 : p ≠ 6 := by omega
    have n7 : p ≠ 7 := by omega
    have n8 : p ≠ 8 := by omega
    have n9 : p ≠ 9 := by omega
    have n10 : p ≠ 10 := by omega
    have n11 : p ≠ 11 := by omega
    unfold PyRc87.shape at h
    rw [if_neg n0, if_neg n1, if_neg n2, if_neg n3, if_neg n4, if_neg n5, if_neg n6, if_neg n7, if_neg n8, if_neg n9, if_neg n10, if_neg n11] at h
    cases h
theorem call_shape {p : Int} {r : List Int} {x : List (List Int) × List Int} (h : PyFlat.call PyRc87.shape (p :: r) = some x) : ∃ q, PyRc87.shape p = some q := by
  rw [PyFlat.call] at h
  cases e : PyRc87.shape p with
  | none => rw [e] at h; cases h
  | some q => exact ⟨q, rfl⟩
theorem two_of {r : List Int} (h : 2 ≤ r.length) : ∃ a b t, r = a :: b :: t := match r, h with
  | a :: b :: t, _ => ⟨a, b, t, rfl⟩
theorem one_of {r : List Int} (h : 1 ≤ r.length) : ∃ a t, r = a :: t := match r, h with
  | a :: t, _ => ⟨a, t, rfl⟩
/-- one turn of reading -/
theorem turn_of {p : Int} {r : List Int} {raw : Raw} (L : Left (p :: r) raw) : ∃ x t cs, Turn (p :: r) x t ∧ Left t cs ∧ raw.length = cs.length + 1 ∧
    ∀ s, due s raw = ((answer s x).length : Int) :: (answer s x ++ due (Rc87.does s x).1 cs) := by
  obtain ⟨⟨f, hp⟩, hi, ha⟩ := L
  obtain ⟨g, c, t, cs, -, hc, hg, rfl⟩ := calls_cons hp
  have Lt := left_tail hg hi ha
  obtain ⟨q, hq⟩ := call_shape hc
  have hi1 : PyInside.call PyRc87.bound c = true := by
    unfold PyInside.calls at hi
    rw [List.all_cons, Bool.and_eq_true] at hi
    exact hi.1
  have ha1 : Rc87Neutral.asked1 (PyRc87.whole c) = true := by
    rw [List.map_cons, List.all_cons, Bool.and_eq_true] at ha
    exact ha.1
  rcases shape_le hq with rfl | rfl | rfl | rfl | rfl | rfl | rfl | rfl | rfl | rfl | rfl | rfl
  · obtain ⟨-, rfl, rfl⟩ := call_n0 (n := 0) rfl hc
    exact ⟨.init, _, cs, .init _, Lt, rfl, fun s => due_cons s _ cs rfl⟩
  · obtain ⟨row, rfl, rfl⟩ := call_01 rfl hc
    have w : PyInside.lists [(0, 255, 0, 80)] [row] = true := hi1
    simp only [PyInside.lists, Bool.and_eq_true, Bool.and_true, decide_eq_true_iff] at w
    exact ⟨.rule (row.map Int.toNat) (row.length : Int), t, cs, .rule row t w.1.2 (bytes_of w.2), Lt, rfl, fun s => due_cons s _ cs rfl⟩
  · obtain ⟨h2, rfl, rfl⟩ := call_n0 (n := 2) rfl hc
    obtain ⟨a, b, t, rfl⟩ := two_of h2
    have w : (PyInside.within (-2147483648) 2147483647 a && (PyInside.within (-2147483648) 2147483647 b && true) && true) = true := hi1
    simp only [Bool.and_eq_true, Bool.and_true] at w
    exact ⟨.put a b, t, cs, .put a b t (in32_of w.1) (in32_of w.2), Lt, rfl, fun s => due_cons s _ cs rfl⟩
  · obtain ⟨h2, rfl, rfl⟩ := call_n0 (n := 1) rfl hc
    obtain ⟨a, t, rfl⟩ := one_of h2
    have w : (PyInside.within (-2147483648) 2147483647 a && true && true) = true := hi1
    simp only [Bool.and_true] at w
    exact ⟨.get a, t, cs, .get a t (in32_of w), Lt, rfl, fun s => due_cons s _ cs rfl⟩
  · obtain ⟨-, rfl, rfl⟩ := call_n0 (n := 0) rfl hc
    exact ⟨.step, _, cs, .step _, Lt, rfl, fun s => due_cons s _ cs rfl⟩
  · obtain ⟨h2, rfl, rfl⟩ := call_n0 (n := 1) rfl hc
    obtain ⟨a, t, rfl⟩ := one_of h2
    have w : (PyInside.within (-2147483648) 2147483647 a && true && true) = true := hi1
    simp only [Bool.and_true] at w
    have v : (Rc87Neutral.whole32 a && (decide (a ≤ 5000) || decide (1000000000 < a))) = true := ha1
    rw [Bool.and_eq_true] at v
    exact ⟨.run a, t, cs, .run a t ⟨in32_of w, k_of v.2⟩, Lt, rfl, fun s => due_cons s _ cs rfl⟩
  · obtain ⟨h2, rfl, rfl⟩ := call_n0 (n := 2) rfl hc
    obtain ⟨a, b, t, rfl⟩ := two_of h2
    have w : (PyInside.within (-2147483648) 2147483647 a && (PyInside.within (-2147483648) 2147483647 b && true) && true) = true := hi1
    simp only [Bool.and_eq_true, Bool.and_true] at w
    have v : (Rc87Neutral.whole32 a && (Rc87Neutral.whole32 b && (decide (b ≤ 5000) || decide (1000000000 < b)))) = true := ha1
    rw [Bool.and_eq_true, Bool.and_eq_true] at v
    exact ⟨.alone a b, t, cs, .alone a b t (in32_of w.1) ⟨in32_of w.2, k_of v.2.2⟩, Lt, rfl, fun s => due_cons s _ cs rfl⟩
  · obtain ⟨-, rfl, rfl⟩ := call_n0 (n := 0) rfl hc
    exact ⟨.number, _, cs, .number _, Lt, rfl, fun s => due_cons s _ cs rfl⟩
  · obtain ⟨h2, rfl, rfl⟩ := call_n0 (n := 1) rfl hc
    obtain ⟨a, t, rfl⟩ := one_of h2
    have w : (PyInside.within (-2147483648) 2147483647 a && true && true) = true := hi1
    simp only [Bool.and_true] at w
    exact ⟨.ratio a, t, cs, .ratio a t (in32_of w), Lt, rfl, fun s => due_cons s _ cs rfl⟩
  · obtain ⟨row, rfl, rfl⟩ := call_01 rfl hc
    have w : PyInside.lists [(0, 255, 0, 64)] [row] = true := hi1
    simp only [PyInside.lists, Bool.and_eq_true, Bool.and_true, decide_eq_true_iff] at w
    exact ⟨.code (row.map Int.toNat) (row.length : Int), t, cs, .code row t w.1.2 (bytes_of w.2), Lt, rfl, fun s => due_cons s _ cs rfl⟩
  · obtain ⟨-, rfl, rfl⟩ := call_n0 (n := 0) rfl hc
    exact ⟨.made, _, cs, .made _, Lt, rfl, fun s => due_cons s _ cs rfl⟩
  · obtain ⟨h2, rfl, rfl⟩ := call_n0 (n := 1) rfl hc
    obtain ⟨a, t, rfl⟩ := one_of h2
    have w : (PyInside.within (-2147483648) 2147483647 a && true && true) = true := hi1
    simp only [Bool.and_true] at w
    have v : (Rc87Neutral.whole32 a && (decide (a ≤ 5000) || decide (1000000000 < a))) = true := ha1
    rw [Bool.and_eq_true] at v
    exact ⟨.go a, t, cs, .go a t ⟨in32_of w, k_of v.2⟩, Lt, rfl, fun s => due_cons s _ cs rfl⟩
theorem left_nil {raw : Raw} (L : Left [] raw) : raw = [] := by
  obtain ⟨⟨f, hp⟩, -, -⟩ := L
  cases f <;> exact (Option.some.inj hp).symm
/-- the whole list: it reads as calls, the first of them begin; the specification's answer is what is due of them -/
theorem left_all {l : List Int} (h : PyRc87.answers_asked l = true) : ∃ raw, Left l raw ∧ raw.length ≤ 400 ∧ PyRc87.answers l = due {} raw ∧ ∀ p r, l = p :: r → p = 0 := by
  unfold PyRc87.answers_asked at h
  cases e : PyFlat.calls PyRc87.shape l.length l with
  | none => rw [e] at h; cases h
  | some raw =>
    rw [e] at h
    dsimp only at h
    rw [Bool.and_eq_true, Bool.and_eq_true, Bool.and_eq_true] at h
    obtain ⟨⟨⟨h1, h2⟩, h3⟩, -⟩ := h
    unfold Rc87Neutral.asked at h3
    rw [Bool.and_eq_true, Bool.and_eq_true] at h3
    obtain ⟨⟨h4, -⟩, h5⟩ := h3
    refine ⟨raw, ⟨⟨_, e⟩, h2, h4⟩, of_decide_eq_true h1, ?_, ?_⟩
    · unfold PyRc87.answers PyRc87.calls
      rw [e]
      rfl
    · rintro p r rfl
      obtain ⟨x, t, cs, T, -, -, -⟩ := turn_of ⟨⟨_, e⟩, h2, h4⟩
      obtain ⟨g, c, t2, cs2, -, hc, -, rfl⟩ := calls_cons e
      rw [List.map_cons, List.head?_cons] at h5
      have h6 : (PyRc87.whole c == [[0]]) = true := h5
      have h7 : PyRc87.whole c = [[0]] := eq_of_beq h6
      obtain ⟨q, hq⟩ := call_shape hc
      have hne : ∀ {n : Nat}, PyRc87.shape p = some (n, 0) → PyRc87.whole [p :: r.take n] = [[0]] := fun hs => by
        obtain ⟨-, hcc, -⟩ := call_n0 hs hc
        rw [← hcc]
        exact h7
      rcases shape_le hq with rfl | rfl | rfl | rfl | rfl | rfl | rfl | rfl | rfl | rfl | rfl | rfl
      · rfl
      · obtain ⟨row, rfl, rfl⟩ := call_01 rfl hc
        exact absurd h7 (by intro z; cases z)
      · obtain ⟨k2, rfl, -⟩ := call_n0 (n := 2) rfl hc
        obtain ⟨a, b, t, rfl⟩ := two_of k2
        exact absurd h7 (by intro z; cases z)
      · obtain ⟨k2, rfl, -⟩ := call_n0 (n := 1) rfl hc
        obtain ⟨a, t, rfl⟩ := one_of k2
        exact absurd h7 (by intro z; cases z)
      · obtain ⟨k2, rfl, -⟩ := call_n0 (n := 0) rfl hc
        exact absurd h7 (by intro z; cases z)
      · obtain ⟨k2, rfl, -⟩ := call_n0 (n := 1) rfl hc
        obtain ⟨a, t, rfl⟩ := one_of k2
        exact absurd h7 (by intro z; cases z)
      · obtain ⟨k2, rfl, -⟩ := call_n0 (n := 2) rfl hc
        obtain ⟨a, b, t, rfl⟩ := two_of k2
        exact absurd h7 (by intro z; cases z)
      · obtain ⟨k2, rfl, -⟩ := call_n0 (n := 0) rfl hc
        exact absurd h7 (by intro z; cases z)
      · obtain ⟨k2, rfl, -⟩ := call_n0 (n := 1) rfl hc
        obtain ⟨a, t, rfl⟩ := one_of k2
        exact absurd h7 (by intro z; cases z)
      · obtain ⟨row, rfl, rfl⟩ := call_01 rfl hc
        exact absurd h7 (by intro z; cases z)
      · obtain ⟨k2, rfl, -⟩ := call_n0 (n := 0) rfl hc
        exact absurd h7 (by intro z; cases z)
      · obtain ⟨k2, rfl, -⟩ := call_n0 (n := 1) rfl hc
        obtain ⟨a, t, rfl⟩ := one_of k2
        exact absurd h7 (by intro z; cases z)
end Fc
end
section
set_option autoImplicit false
set_option maxRecDepth 100000
/-! Numbers by their primes, their rests by 2^64. -/
namespace Fc
theorem primes_eq : Rc87.primes = [2, 3, 5, 7, 11, 13, 17, 19, 23, 29, 31, 37, 41, 43, 47, 53, 59, 61, 67, 71, 73, 79, 83, 89, 97, 101, 103, 107, 109, 113, 127, 131, 137, 139, 149, 151, 157, 163, 167, 173] := by decide +kernel
theorem power_eq (p : Nat) : ∀ (f n : Nat), n < 2 ^ f → Rc87.power p f n = p ^ n % Rc87.BIG
  | 0, n, h => by
    have e : n = 0 := by simpa using h
    subst e
    show 1 = p ^ 0 % Rc87.BIG
    rw [Nat.pow_zero]
    decide
  | f + 1, n, h => by
    rw [Rc87.power]
    by_cases z : n = 0
    · rw [if_pos z, z, Nat.pow_zero]
      decide
    · rw [if_neg z]
      have h2 : n / 2 < 2 ^ f := by
        rw [Nat.pow_succ] at h
        omega
      have ih := power_eq p f (n / 2) h2
      dsimp only
      rw [ih]
      have sq : (p ^ (n / 2) % Rc87.BIG) * (p ^ (n / 2) % Rc87.BIG) % Rc87.BIG = p ^ (2 * (n / 2)) % Rc87.BIG := by
        rw [← Nat.mul_mod, ← Nat.pow_add]
        congr 2
        omega
      by_cases o : n % 2 = 1
      · rw [if_pos o, sq, Nat.mod_mul_mod, ← Nat.pow_succ]
        congr 2
        omega
      · rw [if_neg o, sq]
        congr 2
        omega
/-- the product of the primes' powers -/
def prod : List (Nat × Nat) → Nat
  | [] => 1
  | x :: r => x.1 ^ x.2 * prod r
theorem fold_prod : ∀ (l : List (Nat × Nat)) (z : Nat), (∀ x ∈ l, x.2 < 2 ^ 64) → l.foldl (fun (z : Nat) (x : Nat × Nat) => z * Rc87.power x.1 64 x.2 % Rc87.BIG) z % Rc87.BIG = z * prod l % Rc87.BIG
  | [], z, _ => by
    show z % Rc87.BIG = z * 1 % Rc87.BIG
    rw [Nat.mul_one]
  | x :: r, z, h => by
    rw [List.foldl_cons, fold_prod r _ (fun y hy => h y (List.mem_cons_of_mem _ hy)), power_eq _ _ _ (h x List.mem_cons_self)]
    show z * (x.1 ^ x.2 % Rc87.BIG) % Rc87.BIG * prod r % Rc87.BIG = z * (x.1 ^ x.2 * prod r) % Rc87.BIG
    rw [Nat.mod_mul_mod, ← Nat.mul_assoc, Nat.mul_right_comm z (x.1 ^ x.2 % Rc87.BIG), Nat.mul_right_comm z (x.1 ^ x.2)]
    rw [Nat.mul_mod_mod]
theorem fold_lt : ∀ (l : List (Nat × Nat)) (z : Nat), z < Rc87.BIG → l.foldl (fun (z : Nat) (x : Nat × Nat) => z * Rc87.power x.1 64 x.2 % Rc87.BIG) z < Rc87.BIG
  | [], _, h => h
  | x :: r, z, _ => by
    rw [List.foldl_cons]
    exact fold_lt r _ (Nat.mod_lt _ (by decide))
/-- the number of some amounts -/
theorem number_eq (c : Rc87.Row) (h : ∀ x ∈ c, x < 2 ^ 64) : Rc87.number c = prod (Rc87.primes.zip c) % Rc87.BIG := by
  unfold Rc87.number
  have q := fold_prod (Rc87.primes.zip c) 1 (fun x hx => h x.2 (List.of_mem_zip hx).2)
  rw [Nat.one_mul] at q
  rw [← q]
  exact (Nat.mod_eq_of_lt (fold_lt _ _ (by decide))).symm
theorem prod_append : ∀ (l m : List (Nat × Nat)), prod (l ++ m) = prod l * prod m
  | [], m => (Nat.one_mul _).symm
  | x :: l, m => by
    show x.1 ^ x.2 * prod (l ++ m) = x.1 ^ x.2 * prod l * prod m
    rw [prod_append l m, Nat.mul_assoc]
/-- one turn of a power by squarings: r * b ^ e stays, by its rest -/
theorem turn_odd {r b e M : Nat} (o : e % 2 = 1) : (r * b % M) * (b * b % M) ^ (e / 2) % M = r * b ^ e % M := by
  have h : e = 2 * (e / 2) + 1 := by omega
  generalize hk : e / 2 = k at h
  subst h
  have e1 : (r * b % M) * (b * b % M) ^ k % M = (r * b) * (b * b) ^ k % M := by
    rw [Nat.mod_mul_mod, Nat.mul_mod, ← Nat.pow_mod, ← Nat.mul_mod]
  rw [e1, ← Nat.pow_two, ← Nat.pow_mul, Nat.mul_assoc, ← Nat.pow_succ']
theorem turn_even {r b e M : Nat} (o : e % 2 = 0) : r * (b * b % M) ^ (e / 2) % M = r * b ^ e % M := by
  have h : e = 2 * (e / 2) := by omega
  generalize hk : e / 2 = k at h
  subst h
  have e1 : r * (b * b % M) ^ k % M = r * (b * b) ^ k % M := by
    rw [Nat.mul_mod, ← Nat.pow_mod, ← Nat.mul_mod]
  rw [e1, ← Nat.pow_two, ← Nat.pow_mul]
end Fc
end
section
set_option autoImplicit false
set_option maxRecDepth 100000
/-! Codes: read, made rules, gone through. -/
namespace Fc
theorem mapM_some {α β : Type} {f : α → Option β} : ∀ {l : List α}, (∀ x ∈ l, ∃ y, f x = some y) → ∃ r, l.mapM f = some r ∧ r.length = l.length ∧ ∀ (i : Nat) (x : α), l[i]? = some x → r[i]? = f x
  | [], _ => ⟨[], rfl, rfl, fun i x h => by simp at h⟩
  | a :: l, h => by
    obtain ⟨y, hy⟩ := h a List.mem_cons_self
    obtain ⟨r, e1, e2, e3⟩ := mapM_some (f := f) (l := l) fun x hx => h x (List.mem_cons_of_mem _ hx)
    refine ⟨y :: r, ?_, congrArg (· + 1) e2, fun i x hi => ?_⟩
    · rw [List.mapM_cons, hy, e1]
      rfl
    · cases i with
      | zero =>
        have e : a = x := Option.some.inj hi
        subst e
        exact hy.symm
      | succ i => exact e3 i x hi
theorem mapM_none {α β : Type} {f : α → Option β} : ∀ {l : List α} {x : α}, x ∈ l → f x = none → l.mapM f = none
  | a :: l, x, hx, h => by
    rw [List.mapM_cons]
    rcases List.mem_cons.mp hx with e | hx
    · subst e
      rw [h]
      rfl
    · cases e : f a with
      | none => rfl
      | some y =>
        rw [mapM_none hx h]
        rfl
theorem codeOf_some {l : List Nat} (h : ∀ i, i < l.length / 4 → ∃ y, Rc87.insOf l i = some y) : ∃ p, Rc87.codeOf l = some p ∧ p.length = l.length / 4 ∧ ∀ i, i < l.length / 4 → p[i]? = Rc87.insOf l i := by
  obtain ⟨p, e1, e2, e3⟩ := mapM_some (f := Rc87.insOf l) (l := List.range (l.length / 4)) fun x hx => h x (List.mem_range.mp hx)
  exact ⟨p, e1, e2.trans List.length_range, fun i hi => e3 i i (List.getElem?_range hi)⟩
theorem codeOf_none {l : List Nat} {i : Nat} (hi : i < l.length / 4) (h : Rc87.insOf l i = none) : Rc87.codeOf l = none := mapM_none (List.mem_range.mpr hi) h
/-- an instruction by its four bytes -/
theorem insOf_eq (l : List Nat) (i : Nat) : Rc87.insOf l i = if l.getD (4 * i) 0 = 0 then some .halt_ else if 8 ≤ l.getD (4 * i + 1) 0 ∨ l.length / 4 ≤ l.getD (4 * i + 2) 0 then none else
    if l.getD (4 * i) 0 = 1 then some (.more (l.getD (4 * i + 1) 0) (l.getD (4 * i + 2) 0)) else if l.getD (4 * i) 0 = 2 ∧ l.getD (4 * i + 3) 0 < l.length / 4 then some (.less (l.getD (4 * i + 1) 0) (l.getD (4 * i + 2) 0) (l.getD (4 * i + 3) 0)) else none := rfl
/-! ### going -/
def addGone (i : Nat) (x : Nat × Nat × Rc87.Config) : Nat × Nat × Rc87.Config := (x.1, x.2.1 + i, x.2.2)
theorem gone_stop {p : List Rc87.Ins} {k : Nat} {x : Rc87.Config} (h : Rc87.does1 p x = none) : Rc87.gone p (k + 1) x = (1, 0, x) := by
  rw [Rc87.gone, h]
theorem gone_high {p : List Rc87.Ins} {k : Nat} {x y : Rc87.Config} (h : Rc87.does1 p x = some y) (hs : Rc87.small y.2 = false) : Rc87.gone p (k + 1) x = (2, 0, x) := by
  rw [Rc87.gone, h]
  dsimp only
  rw [if_pos hs]
theorem gone_step {p : List Rc87.Ins} {k : Nat} {x y : Rc87.Config} (h : Rc87.does1 p x = some y) (hs : Rc87.small y.2 = true) : Rc87.gone p (k + 1) x = addGone 1 (Rc87.gone p k y) := by
  rw [Rc87.gone, h]
  dsimp only
  rw [if_neg (by rw [hs]; decide)]
  rfl
theorem addGone_add (i j : Nat) (x : Nat × Nat × Rc87.Config) : addGone i (addGone j x) = addGone (j + i) x := by
  unfold addGone
  dsimp only
  rw [Nat.add_assoc]
/-! ### a code made rules -/
def rulesAt (x : Rc87.Ins × Nat) : List Rc87.Rule := match x.1 with
  | .halt_ => []
  | .more r j => [⟨Rc87.one (8 + x.2), Rc87.two r (24 + j)⟩]
  | .less r j k => [⟨Rc87.two r (8 + x.2), Rc87.one (24 + j)⟩, ⟨Rc87.one (8 + x.2), Rc87.one (24 + k)⟩]
def ruledTo (p : List Rc87.Ins) (n : Nat) : List Rc87.Rule := (p.take n).zipIdx.flatMap rulesAt
def backTo (n : Nat) : List Rc87.Rule := (List.range n).map fun i => ⟨Rc87.one (24 + i), Rc87.one (8 + i)⟩
theorem ruled_eq (p : List Rc87.Ins) : Rc87.ruled p = ruledTo p p.length ++ backTo p.length := by
  unfold ruledTo backTo
  rw [List.take_length]
  rfl
theorem ruledTo_zero (p : List Rc87.Ins) : ruledTo p 0 = [] := rfl
theorem ruledTo_succ {p : List Rc87.Ins} {n : Nat} {x : Rc87.Ins} (h : p[n]? = some x) : ruledTo p (n + 1) = ruledTo p n ++ rulesAt (x, n) := by
  have hn : n < p.length := (List.getElem?_eq_some_iff.mp h).1
  have e : p.take (n + 1) = p.take n ++ [x] := by
    rw [List.take_add_one, h]
    rfl
  unfold ruledTo
  rw [e, List.zipIdx_append, List.flatMap_append]
  congr 1
  rw [List.length_take, Nat.min_eq_left (Nat.le_of_lt hn), Nat.zero_add]
  show rulesAt (x, n) ++ [] = rulesAt (x, n)
  exact List.append_nil _
theorem backTo_succ (n : Nat) : backTo (n + 1) = backTo n ++ [⟨Rc87.one (24 + n), Rc87.one (8 + n)⟩] := by
  unfold backTo
  rw [List.range_succ, List.map_append]
  rfl
theorem ruledTo_len (p : List Rc87.Ins) : ∀ n, n ≤ p.length → (ruledTo p n).length ≤ 2 * n
  | 0, _ => Nat.le_refl _
  | n + 1, h => by
    have ih := ruledTo_len p n (by omega)
    have hx : p[n]? = some p[n] := List.getElem?_eq_getElem (by omega)
    rw [ruledTo_succ hx, List.length_append]
    have q : (rulesAt (p[n], n)).length ≤ 2 := by
      unfold rulesAt
      cases p[n] <;> (first | exact Nat.zero_le 2 | exact (by decide : 1 ≤ 2) | exact (by decide : 2 ≤ 2))
    omega
theorem backTo_len (n : Nat) : (backTo n).length = n := by
  unfold backTo
  rw [List.length_map, List.length_range]
theorem others_iff {c : Rc87.Row} {i : Nat} : Rc87.others c i = true ↔ ∀ j, j < c.length → j ≠ i → c.getD j 0 = 0 := by
  unfold Rc87.others
  rw [List.all_eq_true]
  constructor
  · intro h j hj n
    have e : (c.set i 0)[j]? = some c[j] := by rw [List.getElem?_set_ne (Ne.symm n), List.getElem?_eq_getElem hj]
    have q := eq_of_beq (h _ (List.mem_of_getElem? e))
    rw [List.getD_eq_getElem?_getD, List.getElem?_eq_getElem hj]
    exact q
  · intro h x hx
    obtain ⟨j, hj, e⟩ := List.getElem_of_mem hx
    rw [List.length_set] at hj
    by_cases n : j = i
    · subst n
      rw [List.getElem_set_self] at e
      rw [← e]
      decide
    · rw [List.getElem_set_ne (Ne.symm n)] at e
      have q := h j hj n
      rw [List.getD_eq_getElem?_getD, List.getElem?_eq_getElem hj] at q
      have q : c[j] = 0 := q
      rw [← e, q]
      decide
theorem till_none {l : List Rc87.Rule} {i k : Nat} {c : Rc87.Row} (h : Rc87.step l c = none) : Rc87.till l i (k + 1) c = (1, 0, c) := by
  rw [Rc87.till, h]
theorem till_high {l : List Rc87.Rule} {i k : Nat} {c d : Rc87.Row} (h : Rc87.step l c = some d) (hs : Rc87.small d = false) : Rc87.till l i (k + 1) c = (2, 0, c) := by
  rw [Rc87.till, h]
  dsimp only
  rw [if_pos hs]
theorem till_so {l : List Rc87.Rule} {i k : Nat} {c d : Rc87.Row} (h : Rc87.step l c = some d) (hs : Rc87.small d = true) (ho : Rc87.others d i = true) : Rc87.till l i (k + 1) c = (3, 1, d) := by
  rw [Rc87.till, h]
  dsimp only
  rw [if_neg (by rw [hs]; decide), if_pos ho]
theorem till_on {l : List Rc87.Rule} {i k : Nat} {c d : Rc87.Row} (h : Rc87.step l c = some d) (hs : Rc87.small d = true) (ho : Rc87.others d i = false) : Rc87.till l i (k + 1) c = ((Rc87.till l i k d).1, (Rc87.till l i k d).2.1 + 1, (Rc87.till l i k d).2.2) := by
  rw [Rc87.till, h]
  dsimp only
  rw [if_neg (by rw [hs]; decide), if_neg (by rw [ho]; decide)]
end Fc
end
section
set_option Elab.async false
set_option linter.all false
set_option maxRecDepth 100000
set_option maxHeartbeats 4000000
/-! The text by places. -/
namespace Fc
open PySem L2
def top (i : Nat) : Stmt := PySem.Challenge.pw_fortycounters_s01_answers.main.body.getD i (.Pass ⟨0, 0, 0, 0⟩)
abbrev sRuleInit : Stmt := inClass (top 3) 0
abbrev sRuleFits : Stmt := inClass (top 3) 1
abbrev sRuleHigh : Stmt := inClass (top 3) 2
abbrev sOneEach : Stmt := top 4
abbrev sInInit : Stmt := inClass (top 13) 0
abbrev sInIs : Stmt := inClass (top 13) 1
abbrev sInRules : Stmt := inClass (top 13) 2
abbrev sInsOf : Stmt := top 14
abbrev sAreCode : Stmt := top 15
abbrev sRulesOf : Stmt := top 16
abbrev sPower : Stmt := top 20
abbrev sNumber : Stmt := top 21
abbrev sIsCounter : Stmt := top 35
abbrev sMayBe : Stmt := top 36
abbrev sMInit : Stmt := inClass (top 37) 0
abbrev sMAddRule : Stmt := inClass (top 37) 1
abbrev sMPut : Stmt := inClass (top 37) 2
abbrev sMGet : Stmt := inClass (top 37) 3
abbrev sMStep : Stmt := inClass (top 37) 4
abbrev sMTake : Stmt := inClass (top 37) 5
abbrev sMRun : Stmt := inClass (top 37) 6
abbrev sMAlone : Stmt := inClass (top 37) 7
abbrev sMNumber : Stmt := inClass (top 37) 8
abbrev sMRatio : Stmt := inClass (top 37) 9
abbrev sMSetCode : Stmt := inClass (top 37) 10
abbrev sMMake : Stmt := inClass (top 37) 11
abbrev sMGo : Stmt := inClass (top 37) 12
abbrev sMDo : Stmt := inClass (top 37) 13
abbrev sMMore : Stmt := inClass (top 37) 14
abbrev sMLess : Stmt := inClass (top 37) 15
abbrev sRInit : Stmt := inClass (top 51) 0
abbrev sRMore : Stmt := inClass (top 51) 1
abbrev sRNum : Stmt := inClass (top 51) 2
abbrev sRRow : Stmt := inClass (top 51) 3
abbrev sAnswerCall : Stmt := top 52
abbrev sAnswers : Stmt := top 53
/-! fields by their names -/
theorem lk_here {k : Str} {v : V} {r : List (Str × V)} : List.lookup k ((k, v) :: r) = some v := by
  have e : (k == k) = true := beq_self_eq_true k
  simp only [List.lookup, e]
theorem lk_past {k g : Str} {v : V} {r : List (Str × V)} (h : (k == g) = false) : List.lookup k ((g, v) :: r) = List.lookup k r := by
  simp only [List.lookup, h]
theorem put_here {f : Str} {v x : V} {r : List (Str × V)} : putF f v ((f, x) :: r) = (f, v) :: r := if_pos rfl
theorem put_past {f g : Str} {v x : V} {r : List (Str × V)} (h : ¬ g = f) : putF f v ((g, x) :: r) = (g, x) :: putF f v r := if_neg h
/-- all that is tracked stands, but at p -/
def But (p : Addr) (H H' : Hp) : Prop := ∀ b o, H b = some o → b ≠ p → H' b = some o
theorem But.refl (p : Addr) (H : Hp) : But p H H := fun _ _ e _ => e
theorem But.upd {p : Addr} {H H' : Hp} {o : HO} (h : But p H H') : But p H (upd H' p o) := fun b u e n => by
  rw [upd_ne n]
  exact h b u e n
theorem But.new {p q : Addr} {H H' : Hp} {o : HO} (h : But p H H') (hq : H' q = none) : But p H (L2.upd H' q o) := fun b u e n => by
  rw [upd_ne (ne_of_none (h b u e n) hq)]
  exact h b u e n
theorem But.seq {K : PySem.W.Frag} {p : Addr} {H H' : Hp} {a : Addr} {xs : List V} (h : But p H H') {C dx : Addr} {fs : List (Str × V)} (hp : H p = some (.ins C dx fs)) (hs : SqL K H a xs) : SqL K H' a xs := by
  rcases hs with (e | ⟨o, e⟩) | e
  · exact .inl (.inl (h _ _ e (ne_of e hp (by intro z; cases z))))
  · exact .inl (.inr ⟨o, h _ _ e (ne_of e hp (by intro z; cases z))⟩)
  · exact .inr e
/-- what stands in a heap and not in an earlier one -/
def fresh (H0 H : Hp) : Hp := fun b => match H0 b with
  | none => H b
  | some _ => none
theorem fresh_at {H0 H : Hp} {b : Addr} (h : H0 b = none) : fresh H0 H b = H b := by
  unfold fresh
  rw [h]
theorem fresh_some {H0 H : Hp} {b : Addr} {o : HO} (h : fresh H0 H b = some o) : H0 b = none ∧ H b = some o := by
  unfold fresh at h
  cases e : H0 b with
  | none => rw [e] at h; exact ⟨rfl, h⟩
  | some u => rw [e] at h; cases h
theorem fresh_mono {H0 H H' : Hp} (s : Same H H') : Same (fresh H0 H) (fresh H0 H') := fun b o e => by
  obtain ⟨h1, h2⟩ := fresh_some e
  rw [fresh_at h1]
  exact s _ _ h2
theorem fresh_down {H0 H1 H : Hp} (s : Same H0 H1) : Same (fresh H1 H) (fresh H0 H) := fun b o e => by
  obtain ⟨h1, h2⟩ := fresh_some e
  rw [fresh_at (s.free h1)]
  exact h2
/-- all but what stands at q -/
def hide (q : Addr) (H : Hp) : Hp := fun b => if b = q then none else H b
theorem hide_at {q b : Addr} {H : Hp} (h : b ≠ q) : hide q H b = H b := if_neg h
theorem hide_none {q : Addr} {H : Hp} : hide q H q = none := if_pos rfl
theorem hide_some {q b : Addr} {H : Hp} {o : HO} (h : hide q H b = some o) : b ≠ q ∧ H b = some o := by
  unfold hide at h
  split at h
  · cases h
  · rename_i n
    exact ⟨n, h⟩
theorem hide_mono {q : Addr} {H H' : Hp} (s : Same H H') : Same (hide q H) (hide q H') := fun b o e => by
  obtain ⟨n, e⟩ := hide_some e
  rw [hide_at n]
  exact s _ _ e
theorem hide_upd {q : Addr} {H : Hp} {o : HO} : hide q (upd H q o) = hide q H := funext fun b => by
  unfold hide
  split
  · rfl
  · rename_i n
    rw [upd_ne n]
/-- what is new behind was new ahead -/
theorem free_of {p q : Addr} {H H' : Hp} (h : But p H H') {o : HO} (_ : H p = some o) (hq : H' q = none) (n : p ≠ q) : H q = none := by
  cases e : H q with
  | none => rfl
  | some u => rw [h q u e (Ne.symm n)] at hq; cases hq
end Fc
end
section
set_option Elab.async false
set_option linter.all false
set_option maxRecDepth 100000
set_option maxHeartbeats 4000000
namespace Fc
open PySem L2
/-! ### Reader: the list that is read, and where -/
def rdF (a : Addr) (n : Nat) : List (Str × V) := [("calls", .ref a), ("at", .int (n : Int))]
def RdAt (C : Addr) (H : Hp) (p a : Addr) (n : Nat) : Prop := ∃ dx, H p = some (.ins C dx (rdF a n))
theorem rdF_calls (a : Addr) (n : Nat) : (rdF a n).lookup ("calls" : Str) = some (.ref a) := lk_here
theorem rdF_at (a : Addr) (n : Nat) : (rdF a n).lookup ("at" : Str) = some (.int (n : Int)) := (lk_past (by decide +kernel)).trans lk_here
theorem rdF_put (a : Addr) (n m : Nat) : putF "at" (.int (m : Int)) (rdF a n) = rdF a m := (put_past (by decide +kernel)).trans (congrArg _ put_here)
theorem rdF_new (a : Addr) : putF "at" (.int 0) (putF "calls" (.ref a) []) = rdF a 0 := (put_past (by decide +kernel)).trans rfl
theorem rdF_num (a : Addr) (n : Nat) : (rdF a n).lookup ("read_number" : Str) = none := (lk_past (by decide +kernel)).trans ((lk_past (by decide +kernel)).trans rfl)
theorem rdF_row (a : Addr) (n : Nat) : (rdF a n).lookup ("read_row" : Str) = none := (lk_past (by decide +kernel)).trans ((lk_past (by decide +kernel)).trans rfl)
theorem rdF_more (a : Addr) (n : Nat) : (rdF a n).lookup ("has_more" : Str) = none := (lk_past (by decide +kernel)).trans ((lk_past (by decide +kernel)).trans rfl)
structure TxtR (K : PySem.W.Frag) (mg : Str → Option Value) (C : Addr) : Prop where
  cl : Cls K C
  nC : NoAttr K C "calls"
  nA : NoAttr K C "at"
  len : mg "len" = none
def spRInit (C : Addr) : Sp := fun vs H Q _ => ∃ (p dx a : Addr), vs = [.ref p, .ref a] ∧ H p = some (.ins C dx []) ∧
  ∀ H' : Hp, RdAt C H' p a 0 → But p H H' → Q .non H'
def spRMore (K : PySem.W.Frag) (C : Addr) : Sp := fun vs H Q _ => ∃ (p a : Addr) (n : Nat) (ns : List Int), vs = [.ref p] ∧ RdAt C H p a n ∧ SqL K H a (ns.map V.int) ∧
  Q (.bl (decide (n < ns.length))) H
def spRNum (K : PySem.W.Frag) (C : Addr) : Sp := fun vs H Q _ => ∃ (p a : Addr) (n : Nat) (ns : List Int) (z : Int), vs = [.ref p] ∧ RdAt C H p a n ∧ SqL K H a (ns.map V.int) ∧ ns[n]? = some z ∧
  ∀ H' : Hp, RdAt C H' p a (n + 1) → But p H H' → Q (.int z) H'
/-- a row: its length stands at n, its numbers behind it -/
def spRRow (K : PySem.W.Frag) (C : Addr) : Sp := fun vs H Q _ => ∃ (p a : Addr) (n : Nat) (ns row : List Int) (t : List Int), vs = [.ref p] ∧ RdAt C H p a n ∧ SqL K H a (ns.map V.int) ∧ ns.drop n = (row.length : Int) :: (row ++ t) ∧
  ∀ (H' : Hp) (q : Addr), RdAt C H' p a (n + 1 + row.length) → But p H H' → H q = none → H' q = some (.lst (row.map V.int)) → Q (.ref q) H'
section
variable {P : Program} {w : World} {K : PySem.W.Frag} {mg : Str → Option Value} {base : Heap} {C : Addr}
theorem scRInit : FnScope ["self", "calls"] ["self", "calls"] (defScope sRInit) := ⟨rfl, rfl, rfl, by decide +kernel, rfl, by decide +kernel, by decide +kernel⟩
theorem ok_rinit {f : Addr} {fd : FuncData} (F : Fun K "__init__" "Reader.__init__" sRInit f fd) (T : TxtR K mg C) : FnOk P w K mg base CX0 1 f fd ["self", "calls"] (spRInit C) := by
  refine F.ok scRInit (fun vs H Q E h => ?_) (fun cdv A outer s H vs Q E hr h => ?_)
  · obtain ⟨p, dx, a, rfl, _⟩ := h
    rfl
  · obtain ⟨p, dx, a, rfl, hp, k⟩ := h
    refine ⟨_, pss_cons (ps_fld (pv 0) (pv 1) rfl) (pss_one (ps_fld (pv 0) pe_int rfl)), ?_⟩
    refine ⟨_, rfl, _, rfl, p, C, dx, [], rfl, hp, T.cl, T.nC, (by show 0 < 1000; decide), ?_⟩
    refine ⟨_, rfl, p, C, dx, _, rfl, upd_same, T.cl, T.nA, (by show 1 < 1000; decide), ?_⟩
    exact k _ ⟨dx, Eq.trans upd_same (congrArg (fun q => some (HO.ins C dx q)) (rdF_new a))⟩ (But.refl p H).upd.upd
theorem scRMore : FnScope ["self"] ["self"] (defScope sRMore) := ⟨rfl, rfl, rfl, by decide +kernel, rfl, by decide +kernel, by decide +kernel⟩
theorem ok_rmore {f : Addr} {fd : FuncData} (F : Fun K "has_more" "Reader.has_more" sRMore f fd) (T : TxtR K mg C) : FnOk P w K mg base CX0 1 f fd ["self"] (spRMore K C) := by
  refine F.ok scRMore (fun vs H Q E h => ?_) (fun cdv A outer s H vs Q E hr h => ?_)
  · obtain ⟨p, a, n, ns, rfl, _⟩ := h
    rfl
  · obtain ⟨p, a, n, ns, rfl, ⟨dx, hp⟩, hs, k⟩ := h
    refine ⟨_, pss_one (ps_ret (pe_cmpR op_lt (pe_fld (pv 0) rfl) (pe_callB call_len_seq (by rfl) T.len PySem.boot_len (pa_cons (pe_fld (pv 0) rfl) pa_nil)) (nomark _))), ?_⟩
    refine ⟨_, rfl, p, C, dx, _, _, rfl, hp, T.cl, T.nA, rdF_at a n, _, rfl, p, C, dx, _, _, rfl, hp, T.cl, T.nC, rdF_calls a n, a, _, rfl, .inl hs, _, _, rfl, rfl, ?_⟩
    have e : decide ((n : Int) < ((ns.map V.int).length : Int)) = decide (n < ns.length) := by
      rw [List.length_map]
      exact decide_eq_decide.mpr Int.ofNat_lt
    show Q (.bl (decide ((n : Int) < ((ns.map V.int).length : Int)))) H
    rw [e]
    exact k
theorem scRNum : FnScope ["self", "number"] ["self"] (defScope sRNum) := ⟨rfl, rfl, rfl, by decide +kernel, rfl, by decide +kernel, by decide +kernel⟩
theorem ok_rnum {f : Addr} {fd : FuncData} (F : Fun K "read_number" "Reader.read_number" sRNum f fd) (T : TxtR K mg C) : FnOk P w K mg base CX0 1 f fd ["self"] (spRNum K C) := by
  refine F.ok scRNum (fun vs H Q E h => ?_) (fun cdv A outer s H vs Q E hr h => ?_)
  · obtain ⟨p, a, n, ns, z, rfl, _⟩ := h
    rfl
  · obtain ⟨p, a, n, ns, z, rfl, ⟨dx, hp⟩, hs, hz, k⟩ := h
    have hz' : (ns.map V.int)[n]? = some (V.int z) := by rw [List.getElem?_map, hz]; rfl
    refine ⟨_, pss_cons (ps_set (i := 1) scRNum.nd rfl (Or.inl rfl) (pe_ix ix_list (pe_fld (pv 0) rfl) (pe_fld (pv 0) rfl) (fun _ _ => rfl)))
      (pss_cons (ps_fld (pv 0) (pe_op op_add (pe_fld (pv 0) rfl) pe_int) rfl) (pss_one (ps_ret (pv 1)))), ?_⟩
    refine ⟨_, rfl, p, C, dx, _, _, rfl, hp, T.cl, T.nC, rdF_calls a n, _, rfl, p, C, dx, _, _, rfl, hp, T.cl, T.nA, rdF_at a n, a, _, _, _, rfl, rfl, hs, atI_nat hz', ?_⟩
    refine ⟨_, rfl, p, C, dx, _, _, rfl, hp, T.cl, T.nA, rdF_at a n, _, _, rfl, rfl, _, rfl, p, C, dx, _, rfl, hp, T.cl, T.nA, (by show 2 < 1000; decide), ?_⟩
    refine ⟨_, rfl, ?_⟩
    refine k _ ⟨dx, ?_⟩ (But.refl p H).upd
    rw [upd_same]
    exact congrArg (fun q => some (HO.ins C dx q)) (rdF_put a n (n + 1))
theorem cut_nat {xs : List V} {i j : Nat} (h : i + j ≤ xs.length) : cutV xs (some (i : Int)) (some ((i : Int) + (j : Int))) = (xs.drop i).take j := by
  unfold cutV
  have e : ((i : Int) + (j : Int)) = ((i + j : Nat) : Int) := by omega
  rw [e, HT.sIx_nat, HT.sIx_nat, Nat.min_eq_left h, Nat.min_eq_left (show i ≤ xs.length by omega), Nat.add_sub_cancel_left]
theorem drop_get {α : Type} {l : List α} {n : Nat} {x : α} {r : List α} (h : l.drop n = x :: r) : l[n]? = some x ∧ l.drop (n + 1) = r := by
  constructor
  · have e : (l.drop n)[0]? = some x := by rw [h]; rfl
    rw [List.getElem?_drop, Nat.add_zero] at e
    exact e
  · rw [← List.drop_drop, h]
    rfl
theorem scRRow : FnScope ["self", "length", "row"] ["self"] (defScope sRRow) := ⟨rfl, rfl, rfl, by decide +kernel, rfl, by decide +kernel, by decide +kernel⟩
theorem ok_rrow {f fN : Addr} {fd fdN : FuncData} (F : Fun K "read_row" "Reader.read_row" sRRow f fd) (T : TxtR K mg C) (FN : Fun K "read_number" "Reader.read_number" sRNum fN fdN) (bN : Binds K fdN ["self"] []) (mN : Meth K C "read_number" fN) :
    FnOk P w K mg base CX0 2 f fd ["self"] (spRRow K C) := by
  have GN : FnOk P w K mg base CX0 1 fN fdN ["self"] (spRNum K C) := ok_rnum FN T
  refine F.ok scRRow (fun vs H Q E h => ?_) (fun cdv A outer s H vs Q E hr h => ?_)
  · obtain ⟨p, a, n, ns, row, t, rfl, _⟩ := h
    rfl
  · obtain ⟨p, a, n, ns, row, t, rfl, ⟨dx, hp⟩, hs, hd, k⟩ := h
    obtain ⟨h0, h1⟩ := drop_get hd
    refine ⟨_, pss_cons (ps_set (i := 1) scRRow.nd rfl (Or.inl rfl) (pe_meth0 (pv 0) T.cl mN GN hr bN .nil pass0))
      (pss_cons (ps_set (i := 2) scRRow.nd rfl (Or.inl rfl) (pe_slice sl_list (pe_fld (pv 0) rfl) (po_some (pe_fld (pv 0) rfl)) (po_some (pe_op op_add (pe_fld (pv 0) rfl) (pv 1)))))
      (pss_cons (ps_fld (pv 0) (pe_op op_add (pe_fld (pv 0) rfl) (pv 1)) rfl) (pss_one (ps_ret (pv 2))))), ?_⟩
    refine ⟨_, rfl, p, dx, _, rfl, hp, rdF_num a n, p, a, n, ns, _, rfl, ⟨dx, hp⟩, hs, h0, fun H1 ⟨dx1, hp1⟩ B1 => ?_⟩
    have hs1 : SqL K H1 a (ns.map V.int) := B1.seq hp hs
    refine ⟨_, rfl, p, C, dx1, _, _, rfl, hp1, T.cl, T.nC, rdF_calls a _, _, rfl, p, C, dx1, _, _, rfl, hp1, T.cl, T.nA, rdF_at a _, _, rfl,
      _, rfl, p, C, dx1, _, _, rfl, hp1, T.cl, T.nA, rdF_at a _, _, rfl, _, _, rfl, rfl, _, rfl, a, _, rfl, hs1, fun q hq => ?_⟩
    have nqp : p ≠ q := ne_of_none hp1 hq
    refine ⟨_, rfl, p, C, dx1, _, _, rfl, (upd_ne nqp).trans hp1, T.cl, T.nA, rdF_at a _, _, rfl, _, _, rfl, rfl, _, rfl, p, C, dx1, _, rfl, (upd_ne nqp).trans hp1, T.cl, T.nA, (by show 2 < 1000; decide), ?_⟩
    refine ⟨_, rfl, ?_⟩
    have hlen : n + 1 + row.length ≤ (ns.map V.int).length := by
      have e : ((row.length : Int) :: (row ++ t)).length ≤ ns.length - n := by rw [← hd, List.length_drop]; exact Nat.le_refl _
      simp only [List.length_cons, List.length_append] at e
      rw [List.length_map]
      omega
    refine k _ q ⟨dx1, ?_⟩ (B1.new hq).upd (free_of B1 hp hq nqp) ?_
    · rw [upd_same]
      refine congrArg (fun q => some (HO.ins C dx1 q)) ?_
      exact rdF_put a (n + 1) (n + 1 + row.length)
    · rw [upd_ne (Ne.symm nqp), upd_same, cut_nat hlen, ← List.map_drop, h1, ← List.map_take, List.take_left']
      rfl
end
end Fc
end
section
set_option Elab.async false
set_option linter.all false
set_option maxRecDepth 100000
set_option maxHeartbeats 4000000
namespace Fc
open PySem L2
/-! ### lists of pairs of whole numbers, each a tuple of its own -/
def Tups (H : Hp) : List V → List (Int × Int) → Prop
  | [], [] => True
  | v :: vs, p :: ps => (∃ t, v = .ref t ∧ H t = some (.tup [.int p.1, .int p.2])) ∧ Tups H vs ps
  | _, _ => False
theorem Tups.mono {H H' : Hp} (s : Same H H') : ∀ {vs : List V} {ps : List (Int × Int)}, Tups H vs ps → Tups H' vs ps
  | [], [], _ => trivial
  | _ :: _, _ :: _, ⟨⟨t, e, h⟩, r⟩ => ⟨⟨t, e, s _ _ h⟩, Tups.mono s r⟩
  | [], _ :: _, h => h.elim
  | _ :: _, [], h => h.elim
theorem Tups.snoc {H : Hp} {t : Addr} {a b : Int} (ht : H t = some (.tup [.int a, .int b])) : ∀ {vs : List V} {ps : List (Int × Int)}, Tups H vs ps → Tups H (vs ++ [.ref t]) (ps ++ [(a, b)])
  | [], [], _ => ⟨⟨t, rfl, ht⟩, trivial⟩
  | _ :: _, _ :: _, ⟨h, r⟩ => ⟨h, Tups.snoc ht r⟩
  | [], _ :: _, h => h.elim
  | _ :: _, [], h => h.elim
theorem Tups.len {H : Hp} : ∀ {vs : List V} {ps : List (Int × Int)}, Tups H vs ps → vs.length = ps.length
  | [], [], _ => rfl
  | _ :: _, _ :: _, ⟨_, r⟩ => congrArg (· + 1) (Tups.len r)
  | [], _ :: _, h => h.elim
  | _ :: _, [], h => h.elim
theorem Tups.get {H : Hp} : ∀ {vs : List V} {ps : List (Int × Int)} {i : Nat} {v : V}, Tups H vs ps → vs[i]? = some v → ∃ t p, v = .ref t ∧ ps[i]? = some p ∧ H t = some (.tup [.int p.1, .int p.2])
  | [], [], _, _, _, h => by simp at h
  | _ :: _, p :: _, 0, _, ⟨⟨t, e, h⟩, _⟩, q => ⟨t, p, (Option.some.inj q).symm.trans e, rfl, h⟩
  | _ :: _, _ :: _, i + 1, _, ⟨_, r⟩, q => Tups.get (i := i) r q
  | [], _ :: _, _, _, h, _ => h.elim
  | _ :: _, [], _, _, h, _ => h.elim
/-- an object of another kind may change -/
theorem Tups.upd {H : Hp} {a : Addr} {o : HO} {xs : List V} (ha : H a = some (.lst xs)) : ∀ {vs : List V} {ps : List (Int × Int)}, Tups H vs ps → Tups (upd H a o) vs ps
  | [], [], _ => trivial
  | _ :: _, _ :: _, ⟨⟨t, e, h⟩, r⟩ => ⟨⟨t, e, by rw [upd_ne (ne_of h ha (by intro z; cases z))]; exact h⟩, Tups.upd ha r⟩
  | [], _ :: _, h => h.elim
  | _ :: _, [], h => h.elim
theorem Tups.updI {H : Hp} {a C dx : Addr} {o : HO} {fs : List (Str × V)} (ha : H a = some (.ins C dx fs)) : ∀ {vs : List V} {ps : List (Int × Int)}, Tups H vs ps → Tups (L2.upd H a o) vs ps
  | [], [], _ => trivial
  | _ :: _, _ :: _, ⟨⟨t, e, h⟩, r⟩ => ⟨⟨t, e, by rw [upd_ne (ne_of h ha (by intro z; cases z))]; exact h⟩, Tups.updI ha r⟩
  | [], _ :: _, h => h.elim
  | _ :: _, [], h => h.elim
/-- the pairs (i, f i) of the i below n that are kept -/
def picked (keep : Nat → Bool) (f : Nat → Int) : Nat → List (Int × Int)
  | 0 => []
  | n + 1 => if keep n = true then picked keep f n ++ [((n : Int), f n)] else picked keep f n
theorem picked_len (keep : Nat → Bool) (f : Nat → Int) : ∀ n, (picked keep f n).length ≤ n
  | 0 => Nat.le_refl _
  | n + 1 => by
    have h := picked_len keep f n
    unfold picked
    split
    · rw [List.length_append, List.length_singleton]
      omega
    · omega
theorem mem_picked {keep : Nat → Bool} {f : Nat → Int} {p : Int × Int} : ∀ {n : Nat}, p ∈ picked keep f n ↔ ∃ i, i < n ∧ keep i = true ∧ p = ((i : Int), f i)
  | 0 => by simp [picked]
  | n + 1 => by
    unfold picked
    constructor
    · intro h
      split at h
      · rename_i hk
        rcases List.mem_append.mp h with h | h
        · obtain ⟨i, h1, h2, h3⟩ := mem_picked.mp h
          exact ⟨i, by omega, h2, h3⟩
        · exact ⟨n, Nat.lt_succ_self n, hk, List.mem_singleton.mp h⟩
      · obtain ⟨i, h1, h2, h3⟩ := mem_picked.mp h
        exact ⟨i, by omega, h2, h3⟩
    · rintro ⟨i, h1, h2, h3⟩
      by_cases e : i = n
      · subst e
        rw [if_pos h2]
        exact List.mem_append_right _ (List.mem_singleton.mpr h3)
      · have q : p ∈ picked keep f n := mem_picked.mpr ⟨i, by omega, h2, h3⟩
        split
        · exact List.mem_append_left _ q
        · exact q
/-- what a comprehension of such pairs has made so far, all of it new -/
def Made (H1 : Hp) (D : Addr) (keep : Nat → Bool) (f : Nat → Int) (i : Nat) (H' : Hp) : Prop := H1 D = none ∧ Same H1 H' ∧ ∃ ts, H' D = some (.lst ts) ∧ Tups (fresh H1 H') ts (picked keep f i)
theorem Made.start {H1 : Hp} {D : Addr} {keep : Nat → Bool} {f : Nat → Int} (hD : H1 D = none) : Made H1 D keep f 0 (upd H1 D (.lst [])) :=
  ⟨hD, fun b o e => by rw [upd_ne (ne_of_none e hD)]; exact e, [], upd_same, trivial⟩
theorem Made.skip {H1 H' : Hp} {D : Addr} {keep : Nat → Bool} {f : Nat → Int} {i : Nat} (h : Made H1 D keep f i H') (hk : keep i = false) : Made H1 D keep f (i + 1) H' := by
  unfold Made picked
  rw [hk, if_neg Bool.false_ne_true]
  exact h
theorem fresh_upd {H0 H : Hp} {a : Addr} {o : HO} (h : H0 a = none) : fresh H0 (upd H a o) = upd (fresh H0 H) a o := funext fun b => by
  by_cases e : b = a
  · subst e
    rw [fresh_at h, upd_same, upd_same]
  · rw [upd_ne e]
    unfold fresh
    rw [upd_ne e]
theorem Made.put {H1 H' : Hp} {D t : Addr} {keep : Nat → Bool} {f : Nat → Int} {i : Nat} (h : Made H1 D keep f i H') (hk : keep i = true) (hi : i < 1000) (ht : H' t = none) :
    ∃ acc, (upd H' t (.tup [.int (i : Int), .int (f i)])) D = some (.lst acc) ∧ acc.length < sizeLine ∧ Made H1 D keep f (i + 1) (upd (upd H' t (.tup [.int (i : Int), .int (f i)])) D (.lst (acc ++ [.ref t]))) := by
  obtain ⟨hD, s, ts, hd, hT⟩ := h
  have n : D ≠ t := ne_of_none hd ht
  have ht1 : H1 t = none := s.free ht
  refine ⟨ts, by rw [upd_ne n]; exact hd, ?_, hD, fun b o e => ?_, _, upd_same, ?_⟩
  · rw [hT.len]
    exact small1000 (Nat.le_trans (picked_len _ _ _) (Nat.le_of_lt hi))
  · rw [upd_ne (ne_of_none e hD), upd_ne (ne_of_none (s _ _ e) ht)]
    exact s _ _ e
  · rw [fresh_upd hD, fresh_upd ht1]
    have q : Tups (upd (fresh H1 H') t (.tup [.int (i : Int), .int (f i)])) ts (picked keep f i) := hT.mono fun b o e => by
      rw [upd_ne (ne_of_none (fresh_some e).2 ht)]
      exact e
    have q2 := (q.snoc (t := t) (a := (i : Int)) (b := f i) upd_same).upd (a := D) (o := .lst (ts ++ [.ref t])) (xs := ts) (by rw [upd_ne n, fresh_at hD]; exact hd)
    unfold picked
    rw [hk, if_pos rfl]
    exact q2
end Fc
end
section
set_option Elab.async false
set_option linter.all false
set_option maxRecDepth 100000
set_option maxHeartbeats 4000000
namespace Fc
open PySem L2
/-! ### Rule: a row of whole numbers, kept as what it takes and what it changes -/
/-- what is taken and given of counter i by a row -/
def tk (l : List Nat) (i : Nat) : Nat := l.getD i 0
def gv (l : List Nat) (i : Nat) : Nat := l.getD (l.length / 2 + i) 0
def takesOf (l : List Nat) : List (Int × Int) := picked (fun i => decide ((tk l i : Int) > 0)) (fun i => (tk l i : Int)) (l.length / 2)
def changesOf (l : List Nat) : List (Int × Int) := picked (fun i => !decide (V.int (gv l i : Int) = V.int (tk l i : Int))) (fun i => (gv l i : Int) - (tk l i : Int)) (l.length / 2)
def rowV (l : List Nat) : List V := l.map fun (n : Nat) => V.int (n : Int)
def ruF (x y t g : Addr) : List (Str × V) := [("taken", .ref x), ("given", .ref y), ("takes", .ref t), ("changes", .ref g)]
def RuAt (C : Addr) (H : Hp) (p : Addr) (l : List Nat) : Prop := ∃ (dx x y t g : Addr) (ts gs : List V), H p = some (.ins C dx (ruF x y t g)) ∧ H x = some (.lst (rowV (l.take (l.length / 2)))) ∧ H y = some (.lst (rowV (l.drop (l.length / 2)))) ∧ H t = some (.lst ts) ∧ Tups H ts (takesOf l) ∧ H g = some (.lst gs) ∧ Tups H gs (changesOf l)
theorem RuAt.mono {C : Addr} {H H' : Hp} {p : Addr} {l : List Nat} (s : Same H H') : RuAt C H p l → RuAt C H' p l
  | ⟨dx, x, y, t, g, ts, gs, h1, hx, hy, h2, h3, h4, h5⟩ => ⟨dx, x, y, t, g, ts, gs, s _ _ h1, s _ _ hx, s _ _ hy, s _ _ h2, h3.mono s, s _ _ h4, h5.mono s⟩
theorem ruF_taken (x y t g : Addr) : (ruF x y t g).lookup ("taken" : Str) = some (.ref x) := lk_here
theorem ruF_given (x y t g : Addr) : (ruF x y t g).lookup ("given" : Str) = some (.ref y) := (lk_past (by decide +kernel)).trans lk_here
theorem ruF_takes (x y t g : Addr) : (ruF x y t g).lookup ("takes" : Str) = some (.ref t) := (lk_past (by decide +kernel)).trans ((lk_past (by decide +kernel)).trans lk_here)
theorem ruF_changes (x y t g : Addr) : (ruF x y t g).lookup ("changes" : Str) = some (.ref g) := (lk_past (by decide +kernel)).trans ((lk_past (by decide +kernel)).trans ((lk_past (by decide +kernel)).trans lk_here))
def ruF2 (x y : Addr) : List (Str × V) := [("taken", .ref x), ("given", .ref y)]
theorem ruF2_new (x y : Addr) : putF "given" (.ref y) (putF "taken" (.ref x) []) = ruF2 x y := (put_past (by decide +kernel)).trans rfl
theorem ruF_new (x y t g : Addr) : putF "changes" (.ref g) (putF "takes" (.ref t) (ruF2 x y)) = ruF x y t g := by
  have e : putF "takes" (.ref t) (ruF2 x y) = ([("taken", .ref x), ("given", .ref y), ("takes", .ref t)] : List (Str × V)) := (put_past (by decide +kernel)).trans (congrArg _ ((put_past (by decide +kernel)).trans rfl))
  rw [e]
  exact (put_past (by decide +kernel)).trans (congrArg _ ((put_past (by decide +kernel)).trans (congrArg _ ((put_past (by decide +kernel)).trans rfl))))
theorem ruF_no (x y t g : Addr) {s : Str} (h1 : (s == "taken") = false) (h2 : (s == "given") = false) (h3 : (s == "takes") = false) (h4 : (s == "changes") = false) : (ruF x y t g).lookup s = none := (lk_past h1).trans ((lk_past h2).trans ((lk_past h3).trans ((lk_past h4).trans rfl)))
theorem ruF_fits (x y t g : Addr) : (ruF x y t g).lookup ("fits" : Str) = none := ruF_no x y t g (by decide +kernel) (by decide +kernel) (by decide +kernel) (by decide +kernel)
theorem ruF_high (x y t g : Addr) : (ruF x y t g).lookup ("goes_too_high" : Str) = none := ruF_no x y t g (by decide +kernel) (by decide +kernel) (by decide +kernel) (by decide +kernel)
theorem rowV_take (l : List Nat) (n : Nat) : rowV (l.take n) = (rowV l).take n := List.map_take
theorem rowV_drop (l : List Nat) (n : Nat) : rowV (l.drop n) = (rowV l).drop n := List.map_drop
structure TxtU (K : PySem.W.Frag) (mg : Str → Option Value) (C : Addr) : Prop where
  cl : Cls K C
  nA : NoAttr K C "taken"
  nG : NoAttr K C "given"
  nT : NoAttr K C "takes"
  nC : NoAttr K C "changes"
  len : mg "len" = none
  range : mg "range" = none
  high : ∃ t, mg "HIGHEST" = some (.int 2147483647 t)
def spUInit (K : PySem.W.Frag) (C : Addr) : Sp := fun vs H Q _ => ∃ (H0 : Hp) (p dx a : Addr) (l : List Nat), vs = [.ref p, .ref a] ∧ Same H0 H ∧ H0 p = none ∧ H p = some (.ins C dx []) ∧ H a = some (.lst (rowV l)) ∧ l.length ≤ 80 ∧ l.length % 2 = 0 ∧
  ∀ H' : Hp, RuAt C (fresh H0 H') p l → But p H H' → Q .non H'
theorem upd_upd {H : Hp} {r : Addr} {o u : HO} : upd (upd H r o) r u = upd H r u := funext fun b => by
  by_cases e : b = r
  · subst e; rw [upd_same, upd_same]
  · rw [upd_ne e, upd_ne e, upd_ne e]
section
variable {P : Program} {w : World} {K : PySem.W.Frag} {mg : Str → Option Value} {base : Heap} {C : Addr}
theorem ixK (K : PySem.W.Frag) {X : Cx} (h : X.K = K := by rfl) : IxR X (rIxL K) := by
  subst h
  exact ix_list
theorem row_get {l : List Nat} {i : Nat} (h : i < l.length) : (rowV l)[i]? = some (V.int ((l.getD i 0 : Nat) : Int)) := by
  unfold rowV
  rw [List.getElem?_map, List.getElem?_eq_getElem h, List.getD_eq_getElem?_getD, List.getElem?_eq_getElem h]
  rfl
theorem take_get {l : List Nat} {i n : Nat} (h : i < n) (hn : n ≤ l.length) : ((rowV l).take n)[i]? = some (V.int (tk l i : Int)) := by
  rw [List.getElem?_take_of_lt h]
  exact row_get (Nat.lt_of_lt_of_le h hn)
theorem drop_get2 {l : List Nat} {i : Nat} (h : l.length / 2 + i < l.length) : ((rowV l).drop (l.length / 2))[i]? = some (V.int (gv l i : Int)) := by
  rw [List.getElem?_drop]
  exact row_get h
theorem cut_lo {xs : List V} {i : Nat} (h : i ≤ xs.length) : cutV xs none (some (i : Int)) = xs.take i := by
  unfold cutV
  rw [HT.sIx_nat, HT.sIx_none, Nat.min_eq_left h]
  rfl
theorem cut_hi {xs : List V} {i : Nat} (h : i ≤ xs.length) : cutV xs (some (i : Int)) none = xs.drop i := by
  unfold cutV
  rw [HT.sIx_nat, HT.sIx_none, Nat.min_eq_left h, List.take_of_length_le]
  rw [List.length_drop]
  exact Nat.le_refl _
theorem scUInit : FnScope ["self", "amounts", "half", "taken", "given", "i"] ["self", "amounts"] (defScope sRuleInit) := ⟨rfl, rfl, rfl, by decide +kernel, rfl, by decide +kernel, by decide +kernel⟩
theorem ok_uinit {f : Addr} {fd : FuncData} (F : Fun K "__init__" "Rule.__init__" sRuleInit f fd) (T : TxtU K mg C) : FnOk P w K mg base CX0 1 f fd ["self", "amounts"] (spUInit K C) := by
  refine F.ok scUInit (fun vs H Q E h => ?_) (fun cdv A outer s H vs Q E hr h => ?_)
  · obtain ⟨H0, p, dx, a, l, rfl, _⟩ := h
    rfl
  · obtain ⟨H0, p, dx, a, l, rfl, s0, p0, hp, ha, hl, he, k⟩ := h
    refine ⟨_, pss_cons (ps_set (i := 2) scUInit.nd rfl (Or.inl rfl) (pe_op op_fdiv (pe_callB call_len_seq (by rfl) T.len PySem.boot_len (pa_cons (pv 1) pa_nil)) pe_int))
      (pss_cons (ps_set (i := 3) scUInit.nd rfl (Or.inr rfl) (pe_slice sl_list (pv 1) po_none (po_some (pv 2))))
      (pss_cons (ps_set (i := 4) scUInit.nd rfl (Or.inr rfl) (pe_slice sl_list (pv 1) (po_some (pv 2)) po_none))
      (pss_cons (ps_fld (pv 0) (pv 3) rfl) (pss_cons (ps_fld (pv 0) (pv 4) rfl)
      (pss_cons (ps_fld (pv 0) (pe_lc (own := [("i", 5)]) (g := gName 5) rfl scUInit.nd (pi_range1 rfl T.range (pa_cons (pv 2) pa_nil)) (blkOk_by (own := [("i", 5)]) (N := ["self", "amounts", "half", "taken", "given", "i"]) (sc := defScope sRuleInit) (by decide +kernel))
          (fun _ _ _ _ _ => pg_name (i := 5) scUInit.nd rfl (Or.inl rfl)) (fun _ _ _ _ _ => pts_one (pt_cmpR op_gt (pe_ix (ixK K) (pv 3) (pv 5) (fun _ _ => rfl)) pe_int (nomark _)))
          (fun _ _ _ _ _ => pe_tup (pa_cons (pv 5) (pa_cons (pe_ix (ixK K) (pv 3) (pv 5) (fun _ _ => rfl)) pa_nil)))) rfl)
      (pss_one (ps_fld (pv 0) (pe_lc (own := [("i", 5)]) (g := gName 5) rfl scUInit.nd (pi_range1 rfl T.range (pa_cons (pv 2) pa_nil)) (blkOk_by (own := [("i", 5)]) (N := ["self", "amounts", "half", "taken", "given", "i"]) (sc := defScope sRuleInit) (by decide +kernel))
          (fun _ _ _ _ _ => pg_name (i := 5) scUInit.nd rfl (Or.inl rfl)) (fun _ _ _ _ _ => pts_one (pt_cmpR op_ne (pe_ix (ixK K) (pv 4) (pv 5) (fun _ _ => rfl)) (pe_ix (ixK K) (pv 3) (pv 5) (fun _ _ => rfl)) (nomark _)))
          (fun _ _ _ _ _ => pe_tup (pa_cons (pv 5) (pa_cons (pe_op op_sub (pe_ix (ixK K) (pv 4) (pv 5) (fun _ _ => rfl)) (pe_ix (ixK K) (pv 3) (pv 5) (fun _ _ => rfl))) pa_nil)))) rfl))))))), ?_⟩
    have eh : ((rowV l).length : Int) / 2 = ((l.length / 2 : Nat) : Int) := by
      unfold rowV
      rw [List.length_map]
      omega
    have rl : (rowV l).length = l.length := List.length_map _
    refine ⟨_, rfl, a, _, rfl, .inl (SqL.of ha), _, _, rfl, rfl, ⟨by decide, by decide⟩, ?_⟩
    show tSeq _ _ _ [some (.ref p), some (.ref a), some (.int (((rowV l).length : Int) / 2)), none, none, none] H
    rw [eh]
    -- taken
    refine ⟨_, rfl, _, rfl, _, rfl, a, _, rfl, SqL.of ha, fun p1 n1 => ?_⟩
    rw [cut_lo (by omega)]
    have a1 : (upd H p1 (.lst ((rowV l).take (l.length / 2)))) a = some (.lst (rowV l)) := by rw [upd_ne (ne_of_none ha n1)]; exact ha
    -- given
    refine ⟨_, rfl, _, rfl, _, rfl, a, _, rfl, SqL.of a1, fun p2 n2 => ?_⟩
    rw [cut_hi (by omega)]
    generalize hH2 : upd (upd H p1 (.lst ((rowV l).take (l.length / 2)))) p2 (.lst ((rowV l).drop (l.length / 2))) = HZ
    have hz1 : HZ p1 = some (.lst ((rowV l).take (l.length / 2))) := by
      rw [← hH2, upd_ne (ne_of_none upd_same n2), upd_same]
    have hz2 : HZ p2 = some (.lst ((rowV l).drop (l.length / 2))) := by rw [← hH2, upd_same]
    have hpz : HZ p = some (.ins C dx []) := by rw [← hH2, upd_ne (ne_of_none (by rw [upd_ne (ne_of_none hp n1)]; exact hp) n2), upd_ne (ne_of_none hp n1)]; exact hp
    have s0z : Same H0 HZ := fun b o e => by
      rw [← hH2, upd_ne (ne_of_none (by rw [upd_ne (ne_of_none (s0 _ _ e) n1)]; exact s0 _ _ e) n2), upd_ne (ne_of_none (s0 _ _ e) n1)]
      exact s0 _ _ e
    have Bz : But p H HZ := by rw [← hH2]; exact ((But.refl p H).new n1).new n2
    -- the two halves are kept
    refine ⟨_, rfl, _, rfl, p, C, dx, [], rfl, hpz, T.cl, T.nA, (by show 0 < 1000; decide), ?_⟩
    refine ⟨_, rfl, _, rfl, p, C, dx, _, rfl, upd_same, T.cl, T.nG, (by show 1 < 1000; decide), ?_⟩
    rw [upd_upd, ruF2_new]
    have nez : ∀ {b : Addr} {xs : List V}, HZ b = some (.lst xs) → b ≠ p := fun e => ne_of e hpz (by intro z; cases z)
    generalize hHH : upd HZ p (.ins C dx (ruF2 p1 p2)) = H2
    have h1 : H2 p1 = some (.lst ((rowV l).take (l.length / 2))) := by rw [← hHH, upd_ne (nez hz1)]; exact hz1
    have h2 : H2 p2 = some (.lst ((rowV l).drop (l.length / 2))) := by rw [← hHH, upd_ne (nez hz2)]; exact hz2
    have hp2 : H2 p = some (.ins C dx (ruF2 p1 p2)) := by rw [← hHH, upd_same]
    have s02 : Same H0 H2 := fun b o e => by
      rw [← hHH, upd_ne (ne_of_none e p0)]
      exact s0z _ _ e
    have B2 : But p H H2 := by rw [← hHH]; exact Bz.upd
    have p10 : H0 p1 = none := s0.free n1
    have p20 : H0 p2 = none := by
      cases e : H0 p2 with
      | none => rfl
      | some o =>
        have z := s0 _ _ e
        rw [upd_ne (ne_of_none z n1), z] at n2
        cases n2
    -- takes
    refine ⟨_, rfl, _, rfl, by omega, by omega, fun D1 nD1 => lc_range (lo := 0) (n := l.length / 2) (Made H2 D1 (fun i => decide ((tk l i : Int) > 0)) (fun i => (tk l i : Int))) (Made.start nD1) (fun i H' hi M => ?_) (fun H3 M3 => ?_)⟩
    · rw [Int.zero_add]
      have q1 : H' p1 = some (.lst ((rowV l).take (l.length / 2))) := M.2.1 _ _ h1
      refine ⟨rfl, _, rfl, _, rfl, p1, _, _, _, rfl, rfl, SqL.of q1, atI_nat (take_get hi (by omega)), _, _, rfl, rfl, _, rfl, ?_⟩
      refine ite2 (fun c => ?_) (fun c => M.skip (Bool.eq_false_iff.mpr c))
      refine ⟨_, rfl, _, rfl, _, rfl, p1, _, _, _, rfl, rfl, SqL.of q1, atI_nat (take_get hi (by omega)), (by show 2 ≤ sizeLine; decide), fun t ht => ?_⟩
      exact M.put c (by omega) ht
    · obtain ⟨hD1, s3, ts, hT1, hT2⟩ := M3
      have hp3 : H3 p = some (.ins C dx (ruF2 p1 p2)) := s3 _ _ hp2
      refine ⟨_, rfl, p, C, dx, _, rfl, hp3, T.cl, T.nT, (by show 2 < 1000; decide), ?_⟩
      generalize hH4 : upd H3 p (.ins C dx (putF "takes" (.ref D1) (ruF2 p1 p2))) = H4
      have ne : ∀ {b : Addr} {xs : List V}, H3 b = some (.lst xs) → b ≠ p := fun e => ne_of e hp3 (by intro z; cases z)
      have h14 : H4 p1 = some (.lst ((rowV l).take (l.length / 2))) := by rw [← hH4, upd_ne (ne (s3 _ _ h1))]; exact s3 _ _ h1
      have h24 : H4 p2 = some (.lst ((rowV l).drop (l.length / 2))) := by rw [← hH4, upd_ne (ne (s3 _ _ h2))]; exact s3 _ _ h2
      have hp4 : H4 p = some (.ins C dx (putF "takes" (.ref D1) (ruF2 p1 p2))) := by rw [← hH4, upd_same]
      have hT14 : H4 D1 = some (.lst ts) := by rw [← hH4, upd_ne (ne hT1)]; exact hT1
      have s04 : Same H0 H4 := fun b o e => by
        rw [← hH4, upd_ne (ne_of_none e p0)]
        exact s3 _ _ (s02 _ _ e)
      have D10 : H0 D1 = none := s02.free hD1
      have hT24 : Tups (fresh H0 H4) ts (takesOf l) := by
        rw [← hH4, fresh_upd p0]
        exact (hT2.mono (fresh_down s02)).updI (by rw [fresh_at p0]; exact hp3)
      have B4 : But p H H4 := fun b o e n => by
        rw [← hH4, upd_ne n]
        exact s3 _ _ (B2 b o e n)
      -- changes
      refine ⟨_, rfl, _, rfl, by omega, by omega, fun D2 nD2 => lc_range (lo := 0) (n := l.length / 2) (Made H4 D2 (fun i => !decide (V.int (gv l i : Int) = V.int (tk l i : Int))) (fun i => (gv l i : Int) - (tk l i : Int))) (Made.start nD2) (fun i H' hi M => ?_) (fun H5 M5 => ?_)⟩
      · rw [Int.zero_add]
        have q1 : H' p1 = some (.lst ((rowV l).take (l.length / 2))) := M.2.1 _ _ h14
        have q2 : H' p2 = some (.lst ((rowV l).drop (l.length / 2))) := M.2.1 _ _ h24
        refine ⟨rfl, _, rfl, _, rfl, p2, _, _, _, rfl, rfl, SqL.of q2, atI_nat (drop_get2 (by omega)), _, rfl, _, rfl, p1, _, _, _, rfl, rfl, SqL.of q1, atI_nat (take_get hi (by omega)), rfl, _, rfl, ?_⟩
        refine ite2 (fun c => ?_) (fun c => M.skip (Bool.eq_false_iff.mpr c))
        refine ⟨_, rfl, _, rfl, _, rfl, p2, _, _, _, rfl, rfl, SqL.of q2, atI_nat (drop_get2 (by omega)), _, rfl, _, rfl, p1, _, _, _, rfl, rfl, SqL.of q1, atI_nat (take_get hi (by omega)), _, _, rfl, rfl, (by show 2 ≤ sizeLine; decide), fun t ht => ?_⟩
        exact M.put c (by omega) ht
      · obtain ⟨hD2, s5, us, hU1, hU2⟩ := M5
        have hp5 := s5 _ _ hp4
        refine ⟨_, rfl, p, C, dx, _, rfl, hp5, T.cl, T.nC, (by show 3 < 1000; decide), ?_⟩
        have ne5 : ∀ {b : Addr} {xs : List V}, H5 b = some (.lst xs) → b ≠ p := fun e => ne_of e hp5 (by intro z; cases z)
        have fp5 : fresh H0 H5 p = some (.ins C dx (putF "takes" (.ref D1) (ruF2 p1 p2))) := by rw [fresh_at p0]; exact hp5
        refine k _ ⟨dx, p1, p2, D1, D2, ts, us, ?_, ?_, ?_, ?_, ?_, ?_, ?_⟩ fun b o e n => ?_
        · rw [fresh_at p0, upd_same, ruF_new]
        · rw [fresh_at p10, upd_ne (ne5 (s5 _ _ h14)), rowV_take]; exact s5 _ _ h14
        · rw [fresh_at p20, upd_ne (ne5 (s5 _ _ h24)), rowV_drop]; exact s5 _ _ h24
        · rw [fresh_at D10, upd_ne (ne5 (s5 _ _ hT14))]; exact s5 _ _ hT14
        · rw [fresh_upd p0]
          exact (hT24.mono (fresh_mono s5)).updI fp5
        · rw [fresh_at (s04.free hD2), upd_ne (ne5 hU1)]; exact hU1
        · rw [fresh_upd p0]
          exact (hU2.mono (fresh_down s04)).updI fp5
        · rw [upd_ne n]
          exact s5 _ _ (B4 b o e n)
end
end Fc
end
section
set_option Elab.async false
set_option linter.all false
set_option maxRecDepth 100000
set_option maxHeartbeats 4000000
namespace Fc
open PySem L2
def cnt (cs : List Nat) (p : Int × Int) : Int := ((cs.getD p.1.toNat 0 : Nat) : Int)
def fitsP (l cs : List Nat) : Bool := (takesOf l).all fun p => !decide (cnt cs p < p.2)
def highP (l cs : List Nat) : Bool := (changesOf l).any fun p => decide (2147483647 < cnt cs p + p.2)
theorem take_more {α : Type} : ∀ {l : List α} {i : Nat} {x : α}, l[i]? = some x → l.take (i + 1) = l.take i ++ [x]
  | [], i, x, h => by simp at h
  | a :: l, 0, x, h => by
    have e : a = x := Option.some.inj h
    subst e
    rfl
  | a :: l, i + 1, x, h => by
    have ih := take_more (l := l) (i := i) (x := x) h
    show a :: l.take (i + 1) = a :: l.take i ++ [x]
    rw [ih]
    rfl
theorem picked_place {keep : Nat → Bool} {f : Nat → Int} {n i : Nat} {p : Int × Int} (h : (picked keep f n)[i]? = some p) : ∃ j, j < n ∧ keep j = true ∧ p = ((j : Int), f j) := mem_picked.mp (List.mem_of_getElem? h)
def spFits (K : PySem.W.Frag) (C : Addr) : Sp := fun vs H Q _ => ∃ (p c : Addr) (l cs : List Nat), vs = [.ref p, .ref c] ∧ RuAt C H p l ∧ H c = some (.lst (rowV cs)) ∧ l.length ≤ 80 ∧ cs.length = 40 ∧ Q (.bl (fitsP l cs)) H
section
variable {P : Program} {w : World} {K : PySem.W.Frag} {mg : Str → Option Value} {base : Heap} {C : Addr}
theorem scFits : FnScope ["self", "counters", "i", "amount"] ["self", "counters"] (defScope sRuleFits) := ⟨rfl, rfl, rfl, by decide +kernel, rfl, by decide +kernel, by decide +kernel⟩
theorem ok_fits {f : Addr} {fd : FuncData} (F : Fun K "fits" "Rule.fits" sRuleFits f fd) (T : TxtU K mg C) : FnOk P w K mg base CX0 1 f fd ["self", "counters"] (spFits K C) := by
  refine F.ok scFits (fun vs H Q E h => ?_) (fun cdv A outer s H vs Q E hr h => ?_)
  · obtain ⟨p, c, l, cs, rfl, _⟩ := h
    rfl
  · obtain ⟨p, c, l, cs, rfl, ⟨dx, x0, y0, t, g, ts, gs, hp, -, -, ht, hT, hg, hG⟩, hc, hl, h40, k⟩ := h
    refine ⟨_, pss_cons (ps_for PassesOwn.never rfl (pi_list (pe_fld (pv 0) rfl)) (pg_tup rfl (pgs_cons (pg_name (i := 2) scFits.nd rfl (Or.inl rfl)) (pgs_cons (pg_name (i := 3) scFits.nd rfl (Or.inl rfl)) pgs_nil)))
        (pss_one (ps_if (pt_cmpR op_lt (pe_ix (ixK K) (pv 1) (pv 2) (fun _ _ => rfl)) (pv 3) (nomark _)) (pss_one (ps_ret pe_bl)) pss_nil)))
      (pss_one (ps_ret pe_bl)), ?_⟩
    refine ⟨_, rfl, p, C, dx, _, _, rfl, hp, T.cl, T.nT, ruF_takes x0 y0 t g, t, rfl, ⟨_, SqL.of ht⟩, for_list (K := K) (a := t) (xs := ts) (fun i σ H' => H' = H ∧ (∃ u v, σ = [some (.ref p), some (.ref c), u, v]) ∧ ∀ q ∈ (takesOf l).take i, ¬ (cnt cs q < q.2))
      ⟨rfl, ⟨_, _, rfl⟩, by simp⟩ (fun i σ H' _ ⟨e, _⟩ => by rw [e]; exact SqL.of ht) ?_ ?_⟩
    · rintro i x σ H' hi ⟨rfl, ⟨u, v, rfl⟩, hq⟩
      obtain ⟨b, q, rfl, hq1, hb⟩ := hT.get hi
      obtain ⟨j, hj, hk, rfl⟩ := picked_place hq1
      have hj40 : j < cs.length := by omega
      refine ⟨b, _, rfl, SqT.of hb, rfl, _, _, rfl, _, _, rfl, rfl, ?_⟩
      refine ⟨_, rfl, _, rfl, c, _, _, _, rfl, rfl, SqL.of hc, atI_nat (row_get hj40), _, rfl, _, _, rfl, rfl, _, rfl, ?_⟩
      refine ite2 (fun hlt => ?_) (fun hlt => ?_)
      · have e : fitsP l cs = false := by
          refine Bool.eq_false_iff.mpr fun h => ?_
          have q := List.all_eq_true.mp h _ (List.mem_of_getElem? hq1)
          rw [Bool.not_eq_true'] at q
          exact absurd (of_decide_eq_true hlt) (of_decide_eq_false q)
        show Q (.bl false) H'
        rw [← e]
        exact k
      · refine ⟨rfl, ⟨_, _, rfl⟩, fun q hm => ?_⟩
        rw [take_more hq1] at hm
        rcases List.mem_append.mp hm with h | h
        · exact hq q h
        · rw [List.mem_singleton.mp h]
          exact fun z => hlt (decide_eq_true z)
    · rintro σ H' ⟨rfl, ⟨u, v, rfl⟩, hq⟩
      rw [hT.len, List.take_length] at hq
      have e : fitsP l cs = true := List.all_eq_true.mpr fun q hm => by
        rw [decide_eq_false (hq q hm)]
        rfl
      show Q (.bl true) H'
      rw [← e]
      exact k
def spHigh (K : PySem.W.Frag) (C : Addr) : Sp := fun vs H Q _ => ∃ (p c : Addr) (l cs : List Nat), vs = [.ref p, .ref c] ∧ RuAt C H p l ∧ H c = some (.lst (rowV cs)) ∧ l.length ≤ 80 ∧ cs.length = 40 ∧ Q (.bl (highP l cs)) H
theorem scHigh : FnScope ["self", "counters", "i", "amount"] ["self", "counters"] (defScope sRuleHigh) := ⟨rfl, rfl, rfl, by decide +kernel, rfl, by decide +kernel, by decide +kernel⟩
theorem ok_high {f : Addr} {fd : FuncData} (F : Fun K "goes_too_high" "Rule.goes_too_high" sRuleHigh f fd) (T : TxtU K mg C) : FnOk P w K mg base CX0 1 f fd ["self", "counters"] (spHigh K C) := by
  obtain ⟨tH, mH⟩ := T.high
  refine F.ok scHigh (fun vs H Q E h => ?_) (fun cdv A outer s H vs Q E hr h => ?_)
  · obtain ⟨p, c, l, cs, rfl, _⟩ := h
    rfl
  · obtain ⟨p, c, l, cs, rfl, ⟨dx, x0, y0, t, g, ts, gs, hp, -, -, ht, hT, hg, hG⟩, hc, hl, h40, k⟩ := h
    refine ⟨_, pss_cons (ps_for PassesOwn.never rfl (pi_list (pe_fld (pv 0) rfl)) (pg_tup rfl (pgs_cons (pg_name (i := 2) scHigh.nd rfl (Or.inl rfl)) (pgs_cons (pg_name (i := 3) scHigh.nd rfl (Or.inl rfl)) pgs_nil)))
        (pss_one (ps_if (pt_cmpR op_gt (pe_op op_add (pe_ix (ixK K) (pv 1) (pv 2) (fun _ _ => rfl)) (pv 3)) (pe_glob (v := .int 2147483647) rfl mH ⟨_, rfl⟩) (nomark _)) (pss_one (ps_ret pe_bl)) pss_nil)))
      (pss_one (ps_ret pe_bl)), ?_⟩
    refine ⟨_, rfl, p, C, dx, _, _, rfl, hp, T.cl, T.nC, ruF_changes x0 y0 t g, g, rfl, ⟨_, SqL.of hg⟩, for_list (K := K) (a := g) (xs := gs) (fun i σ H' => H' = H ∧ (∃ u v, σ = [some (.ref p), some (.ref c), u, v]) ∧ ∀ q ∈ (changesOf l).take i, ¬ (2147483647 < cnt cs q + q.2))
      ⟨rfl, ⟨_, _, rfl⟩, by simp⟩ (fun i σ H' _ ⟨e, _⟩ => by rw [e]; exact SqL.of hg) ?_ ?_⟩
    · rintro i x σ H' hi ⟨rfl, ⟨u, v, rfl⟩, hq⟩
      obtain ⟨b, q, rfl, hq1, hb⟩ := hG.get hi
      obtain ⟨j, hj, hk, rfl⟩ := picked_place hq1
      have hj40 : j < cs.length := by omega
      refine ⟨b, _, rfl, SqT.of hb, rfl, _, _, rfl, _, _, rfl, rfl, ?_⟩
      refine ⟨_, rfl, _, rfl, c, _, _, _, rfl, rfl, SqL.of hc, atI_nat (row_get hj40), _, rfl, _, _, rfl, rfl, _, _, rfl, rfl, _, rfl, ?_⟩
      refine ite2 (fun hlt => ?_) (fun hlt => ?_)
      · have e : highP l cs = true := List.any_eq_true.mpr ⟨_, List.mem_of_getElem? hq1, hlt⟩
        show Q (.bl true) H'
        rw [← e]
        exact k
      · refine ⟨rfl, ⟨_, _, rfl⟩, fun q hm => ?_⟩
        rw [take_more hq1] at hm
        rcases List.mem_append.mp hm with h | h
        · exact hq q h
        · rw [List.mem_singleton.mp h]
          exact fun z => hlt (decide_eq_true z)
    · rintro σ H' ⟨rfl, ⟨u, v, rfl⟩, hq⟩
      rw [hG.len, List.take_length] at hq
      have e : highP l cs = false := by
        refine Bool.eq_false_iff.mpr fun h => ?_
        obtain ⟨q, hm, h2⟩ := List.any_eq_true.mp h
        exact hq q hm (of_decide_eq_true h2)
      show Q (.bl false) H'
      rw [← e]
      exact k
end
end Fc
end
section
set_option Elab.async false
set_option linter.all false
set_option maxRecDepth 100000
set_option maxHeartbeats 4000000
namespace Fc
open PySem L2
/-! ### Machine: its own heap above what is not its own -/
def Rules (C : Addr) (H : Hp) : List V → List (List Nat) → Prop
  | [], [] => True
  | v :: vs, r :: rs => (∃ a, v = .ref a ∧ RuAt C H a r ∧ r.length ≤ 80 ∧ r.length % 2 = 0) ∧ Rules C H vs rs
  | _, _ => False
theorem Rules.mono {C : Addr} {H H' : Hp} (s : Same H H') : ∀ {vs : List V} {rs : List (List Nat)}, Rules C H vs rs → Rules C H' vs rs
  | [], [], _ => trivial
  | _ :: _, _ :: _, ⟨⟨a, e, h, n⟩, r⟩ => ⟨⟨a, e, h.mono s, n⟩, Rules.mono s r⟩
  | [], _ :: _, h => h.elim
  | _ :: _, [], h => h.elim
theorem Rules.snoc {C : Addr} {H : Hp} {a : Addr} {l : List Nat} (h : RuAt C H a l) (n : l.length ≤ 80 ∧ l.length % 2 = 0) : ∀ {vs : List V} {rs : List (List Nat)}, Rules C H vs rs → Rules C H (vs ++ [.ref a]) (rs ++ [l])
  | [], [], _ => ⟨⟨a, rfl, h, n⟩, trivial⟩
  | _ :: _, _ :: _, ⟨k, r⟩ => ⟨k, Rules.snoc h n r⟩
  | [], _ :: _, h => h.elim
  | _ :: _, [], h => h.elim
theorem Rules.len {C : Addr} {H : Hp} : ∀ {vs : List V} {rs : List (List Nat)}, Rules C H vs rs → vs.length = rs.length
  | [], [], _ => rfl
  | _ :: _, _ :: _, ⟨_, r⟩ => congrArg (· + 1) (Rules.len r)
  | [], _ :: _, h => h.elim
  | _ :: _, [], h => h.elim
theorem Rules.get {C : Addr} {H : Hp} : ∀ {vs : List V} {rs : List (List Nat)} {i : Nat} {v : V}, Rules C H vs rs → vs[i]? = some v → ∃ a r, v = .ref a ∧ rs[i]? = some r ∧ RuAt C H a r ∧ r.length ≤ 80 ∧ r.length % 2 = 0
  | [], [], _, _, _, h => by simp at h
  | _ :: _, r :: _, 0, _, ⟨⟨a, e, h, n⟩, _⟩, q => ⟨a, r, (Option.some.inj q).symm.trans e, rfl, h, n⟩
  | _ :: _, _ :: _, i + 1, _, ⟨_, r⟩, q => Rules.get (i := i) r q
  | [], _ :: _, _, _, h, _ => h.elim
  | _ :: _, [], _, _, h, _ => h.elim
/-- each value is an object of which R holds -/
def Each {α : Type} (R : Addr → α → Prop) : List V → List α → Prop
  | [], [] => True
  | v :: vs, x :: xs => (∃ a, v = .ref a ∧ R a x) ∧ Each R vs xs
  | _, _ => False
theorem Each.mono {α : Type} {R R' : Addr → α → Prop} (s : ∀ a x, R a x → R' a x) : ∀ {vs : List V} {xs : List α}, Each R vs xs → Each R' vs xs
  | [], [], _ => trivial
  | _ :: _, _ :: _, ⟨⟨a, e, h⟩, r⟩ => ⟨⟨a, e, s _ _ h⟩, Each.mono s r⟩
  | [], _ :: _, h => h.elim
  | _ :: _, [], h => h.elim
theorem Each.snoc {α : Type} {R : Addr → α → Prop} {a : Addr} {x : α} (h : R a x) : ∀ {vs : List V} {xs : List α}, Each R vs xs → Each R (vs ++ [.ref a]) (xs ++ [x])
  | [], [], _ => ⟨⟨a, rfl, h⟩, trivial⟩
  | _ :: _, _ :: _, ⟨k, r⟩ => ⟨k, Each.snoc h r⟩
  | [], _ :: _, h => h.elim
  | _ :: _, [], h => h.elim
theorem Each.len {α : Type} {R : Addr → α → Prop} : ∀ {vs : List V} {xs : List α}, Each R vs xs → vs.length = xs.length
  | [], [], _ => rfl
  | _ :: _, _ :: _, ⟨_, r⟩ => congrArg (· + 1) (Each.len r)
  | [], _ :: _, h => h.elim
  | _ :: _, [], h => h.elim
theorem Each.get {α : Type} {R : Addr → α → Prop} : ∀ {vs : List V} {xs : List α} {i : Nat} {v : V}, Each R vs xs → vs[i]? = some v → ∃ a x, v = .ref a ∧ xs[i]? = some x ∧ R a x
  | [], [], _, _, _, h => by simp at h
  | _ :: _, x :: _, 0, _, ⟨⟨a, e, h⟩, _⟩, q => ⟨a, x, (Option.some.inj q).symm.trans e, rfl, h⟩
  | _ :: _, _ :: _, i + 1, _, ⟨_, r⟩, q => Each.get (i := i) r q
  | [], _ :: _, _, _, h, _ => h.elim
  | _ :: _, [], _, _, h, _ => h.elim
theorem Rules.app {C : Addr} {H : Hp} : ∀ {vs ws : List V} {rs qs : List (List Nat)}, Rules C H vs rs → Rules C H ws qs → Rules C H (vs ++ ws) (rs ++ qs)
  | [], _, [], _, _, h => h
  | _ :: _, _, _ :: _, _, ⟨k, r⟩, h => ⟨k, Rules.app r h⟩
  | [], _, _ :: _, _, h, _ => h.elim
  | _ :: _, _, [], _, h, _ => h.elim
/-- an instruction's four bytes -/
structure Q4 where
  a : Nat
  r : Nat
  j : Nat
  k : Nat
def inF (q : Q4) : List (Str × V) := [("kind", .int (q.a : Int)), ("counter", .int (q.r : Int)), ("then", .int (q.j : Int)), ("otherwise", .int (q.k : Int))]
def InAt (CI : Addr) (H : Hp) (p : Addr) (q : Q4) : Prop := ∃ dx, H p = some (.ins CI dx (inF q))
theorem InAt.mono {CI : Addr} {H H' : Hp} {p : Addr} {q : Q4} (s : Same H H') : InAt CI H p q → InAt CI H' p q
  | ⟨dx, h⟩ => ⟨dx, s _ _ h⟩
/-- an instruction of a code of so many -/
def okQ (n : Nat) (q : Q4) : Prop := q.a = 0 ∨ (q.r < 8 ∧ q.j < n ∧ (q.a = 1 ∨ (q.a = 2 ∧ q.k < n)))
structure Kept where
  e : Addr
  ev : List V
  qs : List Q4
  n : Nat
def wfc (qs : List Q4) (n : Nat) : Prop := qs.length ≤ 16 ∧ (∀ q ∈ qs, okQ qs.length q) ∧ (n = 0 ∨ n < qs.length)
def maF (c l : Addr) (kk : Kept) : List (Str × V) := [("counters", .ref c), ("rules", .ref l), ("instructions", .ref kk.e), ("next_instruction", .int (kk.n : Int))]
theorem maF_counters (c l : Addr) (kk : Kept) : (maF c l kk).lookup ("counters" : Str) = some (.ref c) := lk_here
theorem maF_rules (c l : Addr) (kk : Kept) : (maF c l kk).lookup ("rules" : Str) = some (.ref l) := (lk_past (by decide +kernel)).trans lk_here
theorem maF_code (c l : Addr) (kk : Kept) : (maF c l kk).lookup ("instructions" : Str) = some (.ref kk.e) := (lk_past (by decide +kernel)).trans ((lk_past (by decide +kernel)).trans lk_here)
theorem maF_next (c l : Addr) (kk : Kept) : (maF c l kk).lookup ("next_instruction" : Str) = some (.int (kk.n : Int)) := (lk_past (by decide +kernel)).trans ((lk_past (by decide +kernel)).trans ((lk_past (by decide +kernel)).trans lk_here))
theorem maF_new1 (c l : Addr) : putF "rules" (.ref l) (putF "counters" (.ref c) []) = ([("counters", .ref c), ("rules", .ref l)] : List (Str × V)) := (put_past (by decide +kernel)).trans rfl
theorem maF_new2 (c l e : Addr) : putF "instructions" (.ref e) ([("counters", .ref c), ("rules", .ref l)] : List (Str × V)) = ([("counters", .ref c), ("rules", .ref l), ("instructions", .ref e)] : List (Str × V)) := (put_past (by decide +kernel)).trans (congrArg _ ((put_past (by decide +kernel)).trans rfl))
theorem maF_new3 (c l e : Addr) : putF "next_instruction" (.int 0) ([("counters", .ref c), ("rules", .ref l), ("instructions", .ref e)] : List (Str × V)) = maF c l ⟨e, [], [], 0⟩ := (put_past (by decide +kernel)).trans (congrArg _ ((put_past (by decide +kernel)).trans (congrArg _ ((put_past (by decide +kernel)).trans rfl))))
theorem maF_putC (c d l : Addr) (kk : Kept) : putF "counters" (.ref d) (maF c l kk) = maF d l kk := put_here
theorem maF_putR (c l d : Addr) (kk : Kept) : putF "rules" (.ref d) (maF c l kk) = maF c d kk := (put_past (by decide +kernel)).trans (congrArg _ put_here)
theorem maF_putI (c l d : Addr) (kk : Kept) : putF "instructions" (.ref d) (maF c l kk) = maF c l { kk with e := d } := (put_past (by decide +kernel)).trans (congrArg _ ((put_past (by decide +kernel)).trans (congrArg _ put_here)))
theorem maF_putN (c l : Addr) (kk : Kept) (m : Nat) : putF "next_instruction" (.int (m : Int)) (maF c l kk) = maF c l { kk with n := m } := (put_past (by decide +kernel)).trans (congrArg _ ((put_past (by decide +kernel)).trans (congrArg _ ((put_past (by decide +kernel)).trans (congrArg _ put_here)))))
theorem maF_no (c l : Addr) (kk : Kept) {x : Str} (h1 : (x == "counters") = false) (h2 : (x == "rules") = false) (h3 : (x == "instructions") = false) (h4 : (x == "next_instruction") = false) : (maF c l kk).lookup x = none := (lk_past h1).trans ((lk_past h2).trans ((lk_past h3).trans ((lk_past h4).trans rfl)))
structure MS where
  cs : List Nat
  rs : List (List Nat)
  qs : List Q4
  n : Nat
structure Mach (C CU CI : Addr) (kk : Kept) (H0 HR H : Hp) (m dx c l : Addr) (rv : List V) (zs : List V) (rs : List (List Nat)) : Prop where
  s0 : Same H0 H
  sr : Same HR H
  dj : ∀ b o, HR b = some o → H0 b = none
  m0 : H0 m = none
  c0 : H0 c = none
  l0 : H0 l = none
  mr : HR m = none
  cr : HR c = none
  lr : HR l = none
  hm : H m = some (.ins C dx (maF c l kk))
  hc : H c = some (.lst zs)
  hl : H l = some (.lst rv)
  ncl : c ≠ l
  ru : Rules CU HR rv rs
  he : HR kk.e = some (.lst kk.ev)
  hq : Each (InAt CI HR) kk.ev kk.qs
theorem Mach.ext {C CU CI : Addr} {kk : Kept} {H0 HR H H' : Hp} {m dx c l : Addr} {rv zs : List V} {rs : List (List Nat)} (M : Mach C CU CI kk H0 HR H m dx c l rv zs rs) (s : Same H H') : Mach C CU CI kk H0 HR H' m dx c l rv zs rs :=
  { M with s0 := M.s0.trans s, sr := M.sr.trans s, hm := s _ _ M.hm, hc := s _ _ M.hc, hl := s _ _ M.hl }
theorem Mach.counters {C CU CI : Addr} {kk : Kept} {H0 HR H : Hp} {m dx c l : Addr} {rv zs ws : List V} {rs : List (List Nat)} (M : Mach C CU CI kk H0 HR H m dx c l rv zs rs) : Mach C CU CI kk H0 HR (upd H c (.lst ws)) m dx c l rv ws rs :=
  { M with
    s0 := fun b o e => by rw [upd_ne (ne_of_none e M.c0)]; exact M.s0 _ _ e
    sr := fun b o e => by rw [upd_ne (ne_of_none e M.cr)]; exact M.sr _ _ e
    hm := by rw [upd_ne (ne_of M.hm M.hc (by intro z; cases z))]; exact M.hm
    hc := upd_same
    hl := by rw [upd_ne (Ne.symm M.ncl)]; exact M.hl }
/-- the next instruction is another -/
theorem Mach.next {C CU CI : Addr} {kk : Kept} {H0 HR H : Hp} {m dx c l : Addr} {rv zs : List V} {rs : List (List Nat)} (M : Mach C CU CI kk H0 HR H m dx c l rv zs rs) (n : Nat) : Mach C CU CI { kk with n := n } H0 HR (upd H m (.ins C dx (putF "next_instruction" (.int (n : Int)) (maF c l kk)))) m dx c l rv zs rs :=
  { M with
    s0 := fun b o e => by rw [upd_ne (ne_of_none e M.m0)]; exact M.s0 _ _ e
    sr := fun b o e => by rw [upd_ne (ne_of_none e M.mr)]; exact M.sr _ _ e
    hm := by rw [upd_same, maF_putN]
    hc := by rw [upd_ne (ne_of M.hc M.hm (by intro z; cases z))]; exact M.hc
    hl := by rw [upd_ne (ne_of M.hl M.hm (by intro z; cases z))]; exact M.hl }
def low (rs : List (List Nat)) : Prop := ∀ r ∈ rs, ∀ x ∈ r, x ≤ 255
def small (cs : List Nat) : Prop := cs.length = 40 ∧ ∀ x ∈ cs, x ≤ 2147483647
def MachAt (C CU CI : Addr) (H0 H : Hp) (m : Addr) (S : MS) : Prop := small S.cs ∧ (S.rs.length ≤ 64 ∧ wfc S.qs S.n ∧ low S.rs) ∧ ∃ e ev HR dx c l rv, Mach C CU CI ⟨e, ev, S.qs, S.n⟩ H0 HR H m dx c l rv (rowV S.cs) S.rs
structure TxtM (K : PySem.W.Frag) (mg : Str → Option Value) (C : Addr) : Prop where
  cl : Cls K C
  nC : NoAttr K C "counters"
  nR : NoAttr K C "rules"
  nI : NoAttr K C "instructions"
  nN : NoAttr K C "next_instruction"
  len : mg "len" = none
  range : mg "range" = none
  enum : mg "enumerate" = none
  cCount : ∃ t, mg "COUNTERS" = some (.int 40 t)
  cMR : ∃ t, mg "MOST_RULES" = some (.int 64 t)
  cMS : ∃ t, mg "MOST_STEPS" = some (.int 1000000000 t)
  cOut : ∃ t, mg "OUT_OF_RANGE" = some (.int (-1) t)
  cFull : ∃ t, mg "RULES_ARE_FULL" = some (.int (-2) t)
  cNone : ∃ t, mg "NONE_FITS" = some (.int (-2) t)
  cHigh : ∃ t, mg "TOO_HIGH" = some (.int (-3) t)
  cDone : ∃ t, mg "ALL_DONE" = some (.int 0 t)
  cStop : ∃ t, mg "STOPPED_NONE_FITS" = some (.int 1 t)
  cStopH : ∃ t, mg "STOPPED_TOO_HIGH" = some (.int 2 t)
  cStopS : ∃ t, mg "STOPPED_AT_STOP" = some (.int 1 t)
  cAlone : ∃ t, mg "LEFT_ALONE" = some (.int 3 t)
  cNoIns : ∃ t, mg "NO_INSTRUCTION" = some (.int (-2) t)
  cBytes : ∃ t, mg "BYTES" = some (.int 4 t)
  cRegs : ∃ t, mg "REGISTERS" = some (.int 8 t)
  cNow : ∃ t, mg "NOW" = some (.int 8 t)
  cHighest : ∃ t, mg "HIGHEST" = some (.int 2147483647 t)
  kStop : ∃ t, mg "STOP" = some (.int 0 t)
  kMore : ∃ t, mg "ONE_MORE" = some (.int 1 t)
  sum : mg "sum" = none
/-! ### is_counter -/
def spIs : Sp := fun vs H Q _ => ∃ (i : Int), vs = [.int i] ∧ Q (.bl (decide (0 ≤ i ∧ i < 40))) H
/-! ### may_be_asked -/
def spMay : Sp := fun vs H Q _ => ∃ (k : Int), vs = [.int k] ∧ Q (.bl (decide (0 ≤ k ∧ k ≤ 1000000000))) H
section
variable {P : Program} {w : World} {K : PySem.W.Frag} {mg : Str → Option Value} {base : Heap} {C CU CI : Addr}
theorem scIs : FnScope ["i"] ["i"] (defScope sIsCounter) := ⟨rfl, rfl, rfl, by decide +kernel, rfl, by decide +kernel, by decide +kernel⟩
theorem ok_is {f : Addr} {fd : FuncData} (F : Fun K "is_counter" "is_counter" sIsCounter f fd) (hC : ∃ t, mg "COUNTERS" = some (.int 40 t)) : FnOk P w K mg base CX0 1 f fd ["i"] spIs := by
  obtain ⟨tC, mC⟩ := hC
  refine F.ok scIs (fun vs H Q E h => ?_) (fun cdv A outer s H vs Q E hr h => ?_)
  · obtain ⟨i, rfl, _⟩ := h
    rfl
  · obtain ⟨i, rfl, k⟩ := h
    refine ⟨_, pss_one (ps_ret (pe_and (pe_cmpR op_ge (pv 0) pe_int (nomark _)) (pe_one (pe_cmpR op_lt (pv 0) (pe_glob (v := .int 40) rfl mC ⟨_, rfl⟩) (nomark _))))), ?_⟩
    refine ⟨_, rfl, _, _, rfl, rfl, _, rfl, ?_⟩
    refine ite2 (fun c => ?_) (fun c => ?_)
    · refine ⟨_, rfl, _, _, rfl, rfl, ?_⟩
      have c1 : 0 ≤ i := of_decide_eq_true c
      have e : decide (i < 40) = decide (0 ≤ i ∧ i < 40) := decide_eq_decide.mpr ⟨fun h => ⟨c1, h⟩, fun h => h.2⟩
      show Q (.bl (decide (i < 40))) H
      rw [e]
      exact k
    · have c1 : ¬ 0 ≤ i := fun h => c (decide_eq_true h)
      have e : decide (0 ≤ i ∧ i < 40) = false := decide_eq_false fun h => c1 h.1
      show Q (.bl false) H
      rw [← e]
      exact k
theorem scMay : FnScope ["k"] ["k"] (defScope sMayBe) := ⟨rfl, rfl, rfl, by decide +kernel, rfl, by decide +kernel, by decide +kernel⟩
theorem ok_may {f : Addr} {fd : FuncData} (F : Fun K "may_be_asked" "may_be_asked" sMayBe f fd) (hC : ∃ t, mg "MOST_STEPS" = some (.int 1000000000 t)) : FnOk P w K mg base CX0 1 f fd ["k"] spMay := by
  obtain ⟨tC, mC⟩ := hC
  refine F.ok scMay (fun vs H Q E h => ?_) (fun cdv A outer s H vs Q E hr h => ?_)
  · obtain ⟨i, rfl, _⟩ := h
    rfl
  · obtain ⟨i, rfl, k⟩ := h
    refine ⟨_, pss_one (ps_ret (pe_and (pe_cmpR op_ge (pv 0) pe_int (nomark _)) (pe_one (pe_cmpR op_le (pv 0) (pe_glob (v := .int 1000000000) rfl mC ⟨_, rfl⟩) (nomark _))))), ?_⟩
    refine ⟨_, rfl, _, _, rfl, rfl, _, rfl, ?_⟩
    refine ite2 (fun c => ?_) (fun c => ?_)
    · refine ⟨_, rfl, _, _, rfl, rfl, ?_⟩
      have c1 : 0 ≤ i := of_decide_eq_true c
      have e : decide (i ≤ 1000000000) = decide (0 ≤ i ∧ i ≤ 1000000000) := decide_eq_decide.mpr ⟨fun h => ⟨c1, h⟩, fun h => h.2⟩
      show Q (.bl (decide (i ≤ 1000000000))) H
      rw [e]
      exact k
    · have c1 : ¬ 0 ≤ i := fun h => c (decide_eq_true h)
      have e : decide (0 ≤ i ∧ i ≤ 1000000000) = false := decide_eq_false fun h => c1 h.1
      show Q (.bl false) H
      rw [← e]
      exact k
end
end Fc
end
section
set_option Elab.async false
set_option linter.all false
set_option maxRecDepth 100000
set_option maxHeartbeats 4000000
namespace Fc
open PySem L2
def S0 : MS := ⟨List.replicate 40 0, [], [], 0⟩
theorem small0 : small S0.cs := ⟨by decide, fun x h => by
  have e : x = 0 := List.eq_of_mem_replicate h
  omega⟩
def spMInit (C CU CI : Addr) : Sp := fun vs H Q _ => ∃ (H0 : Hp) (p dx : Addr), vs = [.ref p] ∧ Same H0 H ∧ H0 p = none ∧ H p = some (.ins C dx []) ∧ ∀ H' : Hp, MachAt C CU CI H0 H' p S0 → Q .non H'
def spMPut (C CU CI : Addr) : Sp := fun vs H Q _ => ∃ (H0 : Hp) (p : Addr) (S : MS) (i v : Int), vs = [.ref p, .int i, .int v] ∧ MachAt C CU CI H0 H p S ∧ v ≤ 2147483647 ∧
  ∀ H' : Hp, (¬ (0 ≤ i ∧ i < 40) ∨ v < 0 → MachAt C CU CI H0 H' p S → Q (.int (-1)) H') ∧ ((0 ≤ i ∧ i < 40) ∧ 0 ≤ v → MachAt C CU CI H0 H' p { S with cs := S.cs.set i.toNat v.toNat } → Q (.int 0) H')
def spMGet (C CU CI : Addr) : Sp := fun vs H Q _ => ∃ (H0 : Hp) (p : Addr) (S : MS) (i : Int), vs = [.ref p, .int i] ∧ MachAt C CU CI H0 H p S ∧
  ∀ H' : Hp, MachAt C CU CI H0 H' p S → Q (.int (if 0 ≤ i ∧ i < 40 then ((S.cs.getD i.toNat 0 : Nat) : Int) else -1)) H'
section
variable {P : Program} {w : World} {K : PySem.W.Frag} {mg : Str → Option Value} {base : Heap} {C CU CI : Addr}
theorem row_len (l : List Nat) : (rowV l).length = l.length := List.length_map _
theorem row_set (l : List Nat) (i v : Nat) : rowV (l.set i v) = (rowV l).set i (V.int (v : Int)) := by
  unfold rowV
  exact List.map_set
theorem scMInit : FnScope ["self"] ["self"] (defScope sMInit) := ⟨rfl, rfl, rfl, by decide +kernel, rfl, by decide +kernel, by decide +kernel⟩
theorem ok_minit {f : Addr} {fd : FuncData} (F : Fun K "__init__" "Machine.__init__" sMInit f fd) (T : TxtM K mg C) : FnOk P w K mg base CX0 1 f fd ["self"] (spMInit C CU CI) := by
  obtain ⟨tC, mC⟩ := T.cCount
  refine F.ok scMInit (fun vs H Q E h => ?_) (fun cdv A outer s H vs Q E hr h => ?_)
  · obtain ⟨H0, p, dx, rfl, _⟩ := h
    rfl
  · obtain ⟨H0, p, dx, rfl, s0, p0, hp, k⟩ := h
    refine ⟨_, pss_cons (ps_fld (pv 0) (pe_op op_rep (pe_lst (pa_cons pe_int pa_nil)) (pe_glob (v := .int 40) rfl mC ⟨_, rfl⟩)) rfl) (pss_cons (ps_fld (pv 0) (pe_lst pa_nil) rfl) (pss_cons (ps_fld (pv 0) (pe_lst pa_nil) rfl) (pss_one (ps_fld (pv 0) pe_int rfl)))), ?_⟩
    refine ⟨by show 1 ≤ sizeLine; decide, fun q nq => ⟨q, 40, _, rfl, rfl, upd_same, by decide, by decide, by show 1 * 40 ≤ sizeLine; decide, fun c nc => ?_⟩⟩
    have nqp : p ≠ q := ne_of_none hp nq
    have h1 : (upd (upd H q (.lst [.int 0])) c (.lst (List.replicate (40 : Int).toNat [V.int 0]).flatten)) p = some (.ins C dx []) := by
      rw [upd_ne (ne_of_none (by rw [upd_ne nqp]; exact hp) nc), upd_ne nqp]
      exact hp
    have ncp : p ≠ c := ne_of_none (by rw [upd_ne nqp]; exact hp) nc
    have c0 : H0 c = none := by
      cases e : H0 c with
      | none => rfl
      | some o =>
        have z := s0 _ _ e
        rw [upd_ne (ne_of_none z nq), z] at nc
        cases nc
    refine ⟨_, rfl, p, C, dx, [], rfl, h1, T.cl, T.nC, (by show 0 < 1000; decide), ?_⟩
    refine ⟨Nat.zero_le _, fun l nl => ?_⟩
    generalize hH2 : upd (upd (upd H q (.lst [.int 0])) c (.lst (List.replicate (40 : Int).toNat [V.int 0]).flatten)) p (.ins C dx (putF "counters" (.ref c) [])) = H2 at nl ⊢
    have hp2 : H2 p = some (.ins C dx (putF "counters" (.ref c) [])) := by rw [← hH2, upd_same]
    have hc2 : H2 c = some (.lst (rowV S0.cs)) := by
      rw [← hH2, upd_ne (Ne.symm ncp), upd_same]
      rfl
    have s2 : Same H0 H2 := fun b o e => by
      have z := s0 _ _ e
      rw [← hH2, upd_ne (ne_of_none e p0), upd_ne (ne_of_none e c0), upd_ne (ne_of_none z nq)]
      exact z
    have l0 : H0 l = none := s2.free nl
    have nlp : p ≠ l := ne_of_none hp2 nl
    have nlc : c ≠ l := ne_of_none hc2 nl
    refine ⟨_, rfl, p, C, dx, _, rfl, by rw [upd_ne nlp]; exact hp2, T.cl, T.nR, (by show 1 < 1000; decide), ?_⟩
    rw [maF_new1]
    generalize hH3 : upd (upd H2 l (.lst [])) p (.ins C dx [("counters", .ref c), ("rules", .ref l)]) = H3
    have hp3 : H3 p = some (.ins C dx [("counters", .ref c), ("rules", .ref l)]) := by rw [← hH3, upd_same]
    have hc3 : H3 c = some (.lst (rowV S0.cs)) := by rw [← hH3, upd_ne (Ne.symm ncp), upd_ne nlc]; exact hc2
    have hl3 : H3 l = some (.lst []) := by rw [← hH3, upd_ne (Ne.symm nlp), upd_same]
    have s3 : Same H0 H3 := fun b o e => by rw [← hH3, upd_ne (ne_of_none e p0), upd_ne (ne_of_none e l0)]; exact s2 _ _ e
    refine ⟨Nat.zero_le _, fun e ne => ?_⟩
    have e0 : H0 e = none := s3.free ne
    have nep : p ≠ e := ne_of_none hp3 ne
    have nec : c ≠ e := ne_of_none hc3 ne
    have nel : l ≠ e := ne_of_none hl3 ne
    refine ⟨_, rfl, p, C, dx, _, rfl, by rw [upd_ne nep]; exact hp3, T.cl, T.nI, (by show 2 < 1000; decide), ?_⟩
    rw [maF_new2]
    refine ⟨_, rfl, p, C, dx, _, rfl, upd_same, T.cl, T.nN, (by show 3 < 1000; decide), ?_⟩
    rw [upd_upd, maF_new3]
    refine k _ ⟨small0, ⟨by decide, ⟨by decide, fun q h => (by cases h), .inl rfl⟩, fun r h => (by cases h)⟩, e, [], fun b => if b = e then some (.lst []) else none, dx, c, l, [], ?_⟩
    have hr : ∀ {b : Addr} {o : HO}, (if b = e then some (HO.lst []) else none) = some o → b = e ∧ o = .lst [] := fun {b o} z => by
      by_cases y : b = e
      · rw [if_pos y] at z
        exact ⟨y, (Option.some.inj z).symm⟩
      · rw [if_neg y] at z
        cases z
    exact
      { s0 := fun b o z => by rw [upd_ne (ne_of_none z p0), upd_ne (ne_of_none z e0)]; exact s3 _ _ z
        sr := fun b o z => by
          obtain ⟨y1, y2⟩ := hr z
          rw [y1, y2, upd_ne (Ne.symm nep), upd_same]
        dj := fun b o z => by rw [(hr z).1]; exact e0
        m0 := p0
        c0 := c0
        l0 := l0
        mr := if_neg nep
        cr := if_neg nec
        lr := if_neg nel
        hm := upd_same
        hc := by rw [upd_ne (Ne.symm ncp), upd_ne nec]; exact hc3
        hl := by rw [upd_ne (Ne.symm nlp), upd_ne nel]; exact hl3
        ncl := nlc
        ru := trivial
        he := if_pos rfl
        hq := trivial }
theorem scPut : FnScope ["self", "i", "v"] ["self", "i", "v"] (defScope sMPut) := ⟨rfl, rfl, rfl, by decide +kernel, rfl, by decide +kernel, by decide +kernel⟩
theorem ok_put {f fI : Addr} {fd fdI : FuncData} (F : Fun K "put" "Machine.put" sMPut f fd) (T : TxtM K mg C) (FI : Fun K "is_counter" "is_counter" sIsCounter fI fdI) (bI : Binds K fdI ["i"] []) (gI : mg "is_counter" = some (.ref fI)) : FnOk P w K mg base CX0 2 f fd ["self", "i", "v"] (spMPut C CU CI) := by
  have GI : FnOk P w K mg base CX0 1 fI fdI ["i"] spIs := ok_is FI T.cCount
  obtain ⟨tO, mO⟩ := T.cOut
  refine F.ok scPut (fun vs H Q E h => ?_) (fun cdv A outer s H vs Q E hr h => ?_)
  · obtain ⟨H0, p, S, i, v, rfl, _⟩ := h
    rfl
  · obtain ⟨H0, p, S, i, v, rfl, ⟨sm, r64, e0, evs, HR, dx, c, l, rv, M⟩, hv, k⟩ := h
    refine ⟨_, pss_cons (ps_if (PW.pt (pw_or (pt_not (pt_val (pe_call GI hr rfl gI FI.kp bI .nil pass0 (pa_cons (pv 1) pa_nil)))) (pw_or1 (pt_cmpR op_lt (pv 2) pe_int (nomark _))))) (pss_one (ps_ret (pe_glob (v := .int (-1)) rfl mO ⟨_, rfl⟩))) pss_nil)
      (pss_cons (ps_asg (pv 2) (pg_sub (pe_fld (pv 0) rfl) (pv 1) set_list)) (pss_one (ps_ret pe_int))), ?_⟩
    refine ⟨_, rfl, i, rfl, ⟨_, rfl, ?_⟩⟩
    have MA : MachAt C CU CI H0 H p S := ⟨sm, r64, e0, evs, HR, dx, c, l, rv, M⟩
    refine ite2 (fun q => ?_) (fun q => ?_)
    · refine (k H).1 (.inl fun z => ?_) MA
      rw [decide_eq_true z] at q
      cases q
    · have q1 : 0 ≤ i ∧ i < 40 := by
        by_cases z : 0 ≤ i ∧ i < 40
        · exact z
        · rw [decide_eq_false z] at q
          exact absurd rfl q
      refine ⟨_, rfl, _, _, rfl, rfl, _, rfl, ?_⟩
      refine ite2 (fun q2 => ?_) (fun q2 => ?_)
      · exact (k H).1 (.inr (of_decide_eq_true q2)) MA
      · have q3 : 0 ≤ v := Int.not_lt.mp fun z => q2 (decide_eq_true z)
        have ei : i = ((i.toNat : Nat) : Int) := by omega
        have ev : v = ((v.toNat : Nat) : Int) := by omega
        have hlt : i.toNat < (rowV S.cs).length := by rw [row_len, sm.1]; omega
        refine ⟨_, rfl, _, rfl, p, C, dx, _, _, rfl, M.hm, T.cl, T.nC, maF_counters c l _, _, rfl, c, _, _, i.toNat, rfl, rfl, M.hc, ?_, ?_⟩
        · rw [ei]
          exact Evl.ixN_nat hlt
        · refine (k _).2 ⟨q1, q3⟩ ⟨⟨by rw [List.length_set]; exact sm.1, fun x hx => ?_⟩, r64, e0, evs, HR, dx, c, l, rv, ?_⟩
          · rcases List.mem_or_eq_of_mem_set hx with hx | hx
            · exact sm.2 x hx
            · omega
          · have e : (rowV S.cs).set i.toNat (V.int v) = rowV (S.cs.set i.toNat v.toNat) := by
              rw [row_set, ← ev]
            show Mach C CU CI ⟨e0, evs, S.qs, S.n⟩ H0 HR (upd H c (.lst ((rowV S.cs).set i.toNat (V.int v)))) p dx c l rv _ S.rs
            rw [e]
            exact M.counters
theorem scGet : FnScope ["self", "i"] ["self", "i"] (defScope sMGet) := ⟨rfl, rfl, rfl, by decide +kernel, rfl, by decide +kernel, by decide +kernel⟩
theorem ok_get {f fI : Addr} {fd fdI : FuncData} (F : Fun K "get" "Machine.get" sMGet f fd) (T : TxtM K mg C) (FI : Fun K "is_counter" "is_counter" sIsCounter fI fdI) (bI : Binds K fdI ["i"] []) (gI : mg "is_counter" = some (.ref fI)) : FnOk P w K mg base CX0 2 f fd ["self", "i"] (spMGet C CU CI) := by
  have GI : FnOk P w K mg base CX0 1 fI fdI ["i"] spIs := ok_is FI T.cCount
  obtain ⟨tO, mO⟩ := T.cOut
  refine F.ok scGet (fun vs H Q E h => ?_) (fun cdv A outer s H vs Q E hr h => ?_)
  · obtain ⟨H0, p, S, i, rfl, _⟩ := h
    rfl
  · obtain ⟨H0, p, S, i, rfl, ⟨sm, r64, e0, evs, HR, dx, c, l, rv, M⟩, k⟩ := h
    refine ⟨_, pss_cons (ps_if (pt_not (pt_val (pe_call GI hr rfl gI FI.kp bI .nil pass0 (pa_cons (pv 1) pa_nil)))) (pss_one (ps_ret (pe_glob (v := .int (-1)) rfl mO ⟨_, rfl⟩))) pss_nil)
      (pss_one (ps_ret (pe_ix (ixK K) (pe_fld (pv 0) rfl) (pv 1) (fun _ _ => rfl)))), ?_⟩
    refine ⟨_, rfl, i, rfl, ⟨_, rfl, ?_⟩⟩
    have k1 := k H ⟨sm, r64, e0, evs, HR, dx, c, l, rv, M⟩
    refine ite2 (fun q => ?_) (fun q => ?_)
    · have q1 : ¬ (0 ≤ i ∧ i < 40) := fun z => by
        rw [decide_eq_true z] at q
        cases q
      rw [if_neg q1] at k1
      exact k1
    · have q1 : 0 ≤ i ∧ i < 40 := by
        by_cases z : 0 ≤ i ∧ i < 40
        · exact z
        · rw [decide_eq_false z] at q
          exact absurd rfl q
      rw [if_pos q1] at k1
      have ei : i = ((i.toNat : Nat) : Int) := by omega
      refine ⟨_, rfl, p, C, dx, _, _, rfl, M.hm, T.cl, T.nC, maF_counters c l _, _, rfl, c, _, _, _, rfl, rfl, SqL.of M.hc, ?_, k1⟩
      have g := atI_nat (row_get (l := S.cs) (i := i.toNat) (by rw [sm.1]; omega))
      rw [← ei] at g
      exact g
end
end Fc
end
section
set_option Elab.async false
set_option linter.all false
set_option maxRecDepth 100000
set_option maxHeartbeats 4000000
namespace Fc
open PySem L2
/-! ### rules and counters: what the program's pairs say, as the specification's rows say it -/
def TT (r : List Nat) (i : Nat) : Nat := if 2 * i < r.length then tk r i else 0
def GG (r : List Nat) (i : Nat) : Nat := if 2 * i < r.length then gv r i else 0
theorem range_getD {cs : List Nat} {n : Nat} (h : cs.length = n) : (List.range n).map (fun i => cs.getD i 0) = cs := by
  refine List.ext_getElem (by rw [List.length_map, List.length_range, h]) fun i h1 h2 => ?_
  rw [List.getElem_map, List.getElem_range, List.getD_eq_getElem?_getD, List.getElem?_eq_getElem h2]
  rfl
theorem halves_take (r : List Nat) : (Rc87.halves r).take = (List.range 40).map (TT r) := rfl
theorem halves_give (r : List Nat) : (Rc87.halves r).give = (List.range 40).map (GG r) := rfl
theorem fits_range {r cs : List Nat} (h : cs.length = 40) : Rc87.fits (Rc87.halves r) cs = (List.range 40).all fun i => decide (TT r i ≤ cs.getD i 0) := by
  unfold Rc87.fits
  rw [halves_take]
  have e : cs = (List.range 40).map (fun i => cs.getD i 0) := (range_getD h).symm
  rw [e, List.zip_map', List.all_map, ← e]
  rfl
theorem applied_range {r cs : List Nat} (h : cs.length = 40) : Rc87.applied (Rc87.halves r) cs = (List.range 40).map fun i => cs.getD i 0 - TT r i + GG r i := by
  unfold Rc87.applied
  rw [halves_take, halves_give]
  have e : cs = (List.range 40).map (fun i => cs.getD i 0) := (range_getD h).symm
  rw [e, List.zip_map', List.zip_map', List.map_map, ← e]
  rfl
theorem applied_len {r cs : List Nat} (h : cs.length = 40) : (Rc87.applied (Rc87.halves r) cs).length = 40 := by
  rw [applied_range h, List.length_map, List.length_range]
theorem fitsP_eq {r cs : List Nat} (h : cs.length = 40) (hl : r.length ≤ 80) (he : r.length % 2 = 0) : fitsP r cs = Rc87.fits (Rc87.halves r) cs := by
  rw [fits_range h, Bool.eq_iff_iff]
  unfold fitsP
  rw [List.all_eq_true, List.all_eq_true]
  constructor
  · intro q i hi
    have hi := List.mem_range.mp hi
    refine decide_eq_true ?_
    unfold TT
    by_cases c : 2 * i < r.length
    · rw [if_pos c]
      by_cases z : (tk r i : Int) > 0
      · have m : ((i : Int), (tk r i : Int)) ∈ takesOf r := mem_picked.mpr ⟨i, by omega, decide_eq_true z, rfl⟩
        have q1 := q _ m
        rw [Bool.not_eq_true'] at q1
        have q2 : ¬ (((cs.getD i 0 : Nat) : Int) < (tk r i : Int)) := of_decide_eq_false q1
        omega
      · omega
    · rw [if_neg c]
      exact Nat.zero_le _
  · intro q p hp
    obtain ⟨i, hi, -, rfl⟩ := mem_picked.mp hp
    have q1 := of_decide_eq_true (q i (List.mem_range.mpr (by omega)))
    unfold TT at q1
    rw [if_pos (by omega)] at q1
    rw [Bool.not_eq_true']
    refine decide_eq_false ?_
    show ¬ (((cs.getD i 0 : Nat) : Int) < (tk r i : Int))
    omega
theorem fits_at {r cs : List Nat} (h : cs.length = 40) (f : Rc87.fits (Rc87.halves r) cs = true) {i : Nat} (hi : i < 40) : TT r i ≤ cs.getD i 0 := by
  rw [fits_range h, List.all_eq_true] at f
  exact of_decide_eq_true (f i (List.mem_range.mpr hi))
theorem keep_iff (r : List Nat) (i : Nat) : (!decide (V.int (gv r i : Int) = V.int (tk r i : Int))) = true ↔ gv r i ≠ tk r i := by
  rw [Bool.not_eq_true', decide_eq_false_iff_not]
  constructor
  · intro h e
    exact h (by rw [e])
  · intro h e
    have e1 : (gv r i : Int) = (tk r i : Int) := by injection e
    omega
theorem highP_eq {r cs : List Nat} (h : small cs) (hl : r.length ≤ 80) (he : r.length % 2 = 0) (f : Rc87.fits (Rc87.halves r) cs = true) : highP r cs = !Rc87.small (Rc87.applied (Rc87.halves r) cs) := by
  have getle : ∀ i, cs.getD i 0 ≤ 2147483647 := fun i => by
    rw [List.getD_eq_getElem?_getD]
    cases e : cs[i]? with
    | none => exact Nat.zero_le _
    | some x => exact h.2 x (List.mem_of_getElem? e)
  have key : highP r cs = true ↔ Rc87.small (Rc87.applied (Rc87.halves r) cs) = false := by
    rw [applied_range h.1]
    unfold highP Rc87.small
    rw [List.any_eq_true, List.all_map, List.all_eq_false]
    constructor
    · rintro ⟨p, hp, q⟩
      obtain ⟨i, hi, hk, rfl⟩ := mem_picked.mp hp
      refine ⟨i, List.mem_range.mpr (by omega), ?_⟩
      have q1 : 2147483647 < ((cs.getD i 0 : Nat) : Int) + ((gv r i : Int) - (tk r i : Int)) := of_decide_eq_true q
      have f1 := fits_at h.1 f (i := i) (by omega)
      unfold TT at f1
      rw [if_pos (by omega)] at f1
      show ¬ decide (cs.getD i 0 - TT r i + GG r i ≤ 2147483647) = true
      unfold TT GG
      rw [if_pos (by omega), if_pos (by omega), decide_eq_true_iff]
      omega
    · rintro ⟨i, hi, q⟩
      have hi := List.mem_range.mp hi
      have q1 : ¬ (cs.getD i 0 - TT r i + GG r i ≤ 2147483647) := fun z => q (decide_eq_true z)
      have f1 := fits_at h.1 f (i := i) hi
      have g1 := getle i
      unfold TT at q1 f1
      unfold GG at q1
      by_cases c : 2 * i < r.length
      · rw [if_pos c] at q1 f1
        rw [if_pos c] at q1
        refine ⟨((i : Int), (gv r i : Int) - (tk r i : Int)), mem_picked.mpr ⟨i, by omega, (keep_iff r i).mpr (by omega), rfl⟩, decide_eq_true ?_⟩
        show 2147483647 < ((cs.getD i 0 : Nat) : Int) + ((gv r i : Int) - (tk r i : Int))
        omega
      · rw [if_neg c, if_neg c] at q1
        omega
  cases e : Rc87.small (Rc87.applied (Rc87.halves r) cs) with
  | false => rw [key.mpr e]; rfl
  | true =>
    cases e2 : highP r cs with
    | false => rfl
    | true => rw [key.mp e2] at e; cases e
/-- the pairs put into the counters one by one -/
def appI (zs : List Int) (p : Int × Int) : List Int := zs.set p.1.toNat (zs.getD p.1.toNat 0 + p.2)
def asI (cs : List Nat) : List Int := cs.map fun (n : Nat) => (n : Int)
theorem appI_len (zs : List Int) (p : Int × Int) : (appI zs p).length = zs.length := List.length_set
theorem foldI_len : ∀ (ps : List (Int × Int)) (zs : List Int), (ps.foldl appI zs).length = zs.length
  | [], _ => rfl
  | p :: ps, zs => (foldI_len ps (appI zs p)).trans (appI_len zs p)
theorem picked_fold {keep : Nat → Bool} {f : Nat → Int} {zs : List Int} : ∀ {n : Nat}, n ≤ zs.length → ∀ i, ((picked keep f n).foldl appI zs).getD i 0 = if i < n ∧ keep i = true then zs.getD i 0 + f i else zs.getD i 0
  | 0, _, i => by
    rw [if_neg (by omega)]
    rfl
  | n + 1, hn, i => by
    have ih := picked_fold (keep := keep) (f := f) (zs := zs) (n := n) (by omega)
    unfold picked
    by_cases k : keep n = true
    · rw [if_pos k, List.foldl_append]
      show ((((picked keep f n).foldl appI zs).set n (((picked keep f n).foldl appI zs).getD n 0 + f n))).getD i 0 = _
      rw [ih n, if_neg (show ¬ (n < n ∧ keep n = true) by omega)]
      by_cases e : i = n
      · subst e
        rw [if_pos ⟨Nat.lt_succ_self _, k⟩, List.getD_eq_getElem?_getD, List.getElem?_set_self (by rw [foldI_len]; omega)]
        rfl
      · rw [List.getD_eq_getElem?_getD, List.getElem?_set_ne (Ne.symm e), ← List.getD_eq_getElem?_getD, ih i]
        by_cases c : i < n ∧ keep i = true
        · rw [if_pos c, if_pos ⟨by omega, c.2⟩]
        · rw [if_neg c, if_neg (fun z => c ⟨by omega, z.2⟩)]
    · rw [if_neg k, ih i]
      by_cases c : i < n ∧ keep i = true
      · rw [if_pos c, if_pos ⟨by omega, c.2⟩]
      · rw [if_neg c, if_neg (fun z => c ⟨by
          rcases Nat.lt_or_eq_of_le (Nat.le_of_lt_succ z.1) with y | y
          · exact y
          · rw [y] at z; exact absurd z.2 k, z.2⟩)]
theorem asI_getD (cs : List Nat) (i : Nat) : (asI cs).getD i 0 = ((cs.getD i 0 : Nat) : Int) := by
  unfold asI
  rw [List.getD_eq_getElem?_getD, List.getElem?_map, List.getD_eq_getElem?_getD]
  cases cs[i]? <;> rfl
theorem fold_applied {r cs : List Nat} (h : cs.length = 40) (hl : r.length ≤ 80) (he : r.length % 2 = 0) (f : Rc87.fits (Rc87.halves r) cs = true) : (changesOf r).foldl appI (asI cs) = asI (Rc87.applied (Rc87.halves r) cs) := by
  have hz : (asI cs).length = 40 := by unfold asI; rw [List.length_map, h]
  have len2 : (asI (Rc87.applied (Rc87.halves r) cs)).length = 40 := by unfold asI; rw [List.length_map, applied_len h]
  refine List.ext_getElem (by rw [foldI_len, hz, len2]) fun i h1 h2 => ?_
  rw [len2] at h2
  have e : ((changesOf r).foldl appI (asI cs)).getD i 0 = (asI (Rc87.applied (Rc87.halves r) cs)).getD i 0 := by
    have q := picked_fold (keep := fun i => !decide (V.int (gv r i : Int) = V.int (tk r i : Int))) (f := fun i => (gv r i : Int) - (tk r i : Int)) (zs := asI cs) (n := r.length / 2) (by rw [hz]; omega) i
    refine q.trans ?_
    rw [asI_getD, asI_getD, applied_range h]
    have e2 : ((List.range 40).map fun i => cs.getD i 0 - TT r i + GG r i).getD i 0 = cs.getD i 0 - TT r i + GG r i := by
      rw [List.getD_eq_getElem?_getD, List.getElem?_map, List.getElem?_range h2]
      rfl
    rw [e2]
    have f1 := fits_at h f h2
    by_cases c : i < r.length / 2
    · have c2 : 2 * i < r.length := by omega
      unfold TT GG
      unfold TT at f1
      rw [if_pos c2] at f1
      rw [if_pos c2, if_pos c2]
      by_cases k : gv r i ≠ tk r i
      · rw [if_pos ⟨c, (keep_iff r i).mpr k⟩]
        omega
      · rw [if_neg (fun z => k ((keep_iff r i).mp z.2))]
        omega
    · rw [if_neg (fun z => c z.1)]
      unfold TT GG
      rw [if_neg (by omega), if_neg (by omega)]
      omega
  rw [List.getD_eq_getElem?_getD, List.getElem?_eq_getElem h1, List.getD_eq_getElem?_getD, List.getElem?_eq_getElem (by rw [len2]; exact h2)] at e
  exact e
end Fc
end
section
set_option Elab.async false
set_option linter.all false
set_option maxRecDepth 100000
set_option maxHeartbeats 4000000
namespace Fc
open PySem L2
def intV (zs : List Int) : List V := zs.map V.int
theorem rowV_asI (cs : List Nat) : rowV cs = intV (asI cs) := by
  unfold rowV intV asI
  rw [List.map_map]
  rfl
def spTake (C CU CI : Addr) : Sp := fun vs H Q _ => ∃ (kk : Kept) (H0 HR : Hp) (p dx c l a : Addr) (rv : List V) (cs r : List Nat) (rs : List (List Nat)), vs = [.ref p, .ref a] ∧ Mach C CU CI kk H0 HR H p dx c l rv (rowV cs) rs ∧ small cs ∧
  RuAt CU HR a r ∧ r.length ≤ 80 ∧ r.length % 2 = 0 ∧ Rc87.fits (Rc87.halves r) cs = true ∧
  ∀ H' : Hp, Mach C CU CI kk H0 HR H' p dx c l rv (rowV (Rc87.applied (Rc87.halves r) cs)) rs → Q .non H'
section
variable {P : Program} {w : World} {K : PySem.W.Frag} {mg : Str → Option Value} {base : Heap} {C CU CI : Addr}
theorem scTake : FnScope ["self", "rule", "i", "amount"] ["self", "rule"] (defScope sMTake) := ⟨rfl, rfl, rfl, by decide +kernel, rfl, by decide +kernel, by decide +kernel⟩
theorem ok_take {f : Addr} {fd : FuncData} (F : Fun K "take_and_give" "Machine.take_and_give" sMTake f fd) (T : TxtM K mg C) (TU : TxtU K mg CU) : FnOk P w K mg base CX0 1 f fd ["self", "rule"] (spTake C CU CI) := by
  refine F.ok scTake (fun vs H Q E h => ?_) (fun cdv A outer s H vs Q E hr h => ?_)
  · obtain ⟨kk, H0, HR, p, dx, c, l, a, rv, cs, r, rs, rfl, _⟩ := h
    rfl
  · obtain ⟨kk, H0, HR, p, dx, c, l, a, rv, cs, r, rs, rfl, M, sm, RU, hl, he, hf, k⟩ := h
    obtain ⟨du, x0, y0, t, g, ts, gs, hp, -, -, ht, hT, hg, hG⟩ := RU
    refine ⟨_, pss_one (ps_for PassesOwn.never rfl (pi_list (pe_fld (pv 1) rfl)) (pg_tup rfl (pgs_cons (pg_name (i := 2) scTake.nd rfl (Or.inl rfl)) (pgs_cons (pg_name (i := 3) scTake.nd rfl (Or.inl rfl)) pgs_nil)))
        (pss_one (ps_asg (pe_op op_add (pe_ix (ixK K) (pe_fld (pv 0) rfl) (pv 2) (fun _ _ => rfl)) (pv 3)) (pg_sub (pe_fld (pv 0) rfl) (pv 2) set_list)))), ?_⟩
    refine ⟨_, rfl, a, CU, du, _, _, rfl, M.sr _ _ hp, TU.cl, TU.nC, ruF_changes x0 y0 t g, g, rfl, ⟨_, SqL.of (M.sr _ _ hg)⟩, for_list (K := K) (a := g) (xs := gs) (fun i σ H' => (∃ u v, σ = [some (.ref p), some (.ref a), u, v]) ∧ Mach C CU CI kk H0 HR H' p dx c l rv (intV (((changesOf r).take i).foldl appI (asI cs))) rs)
      ⟨⟨_, _, rfl⟩, by rw [List.take_zero]; rw [rowV_asI] at M; exact M⟩ (fun i σ H' _ ⟨_, M'⟩ => SqL.of (M'.sr _ _ hg)) ?_ ?_⟩
    · rintro i x σ H' hi ⟨⟨u, v, rfl⟩, M'⟩
      obtain ⟨b, q, rfl, hq1, hb⟩ := hG.get hi
      obtain ⟨j, hj, hk, rfl⟩ := picked_place hq1
      have hj40 : j < (((changesOf r).take i).foldl appI (asI cs)).length := by
        rw [foldI_len]
        unfold asI
        rw [List.length_map, sm.1]
        omega
      generalize hz : ((changesOf r).take i).foldl appI (asI cs) = zs at M' hj40
      have g1 : (intV zs)[j]? = some (V.int (zs.getD j 0)) := by
        unfold intV
        rw [List.getElem?_map, List.getElem?_eq_getElem hj40, List.getD_eq_getElem?_getD, List.getElem?_eq_getElem hj40]
        rfl
      refine ⟨b, _, rfl, SqT.of (M'.sr _ _ hb), rfl, _, _, rfl, _, _, rfl, rfl, ?_⟩
      refine ⟨_, rfl, p, C, dx, _, _, rfl, M'.hm, T.cl, T.nC, maF_counters c l _, _, rfl, c, _, _, _, rfl, rfl, SqL.of M'.hc, atI_nat g1, _, rfl, _, _, rfl, rfl,
        _, rfl, p, C, dx, _, _, rfl, M'.hm, T.cl, T.nC, maF_counters c l _, _, rfl, c, _, _, j, rfl, rfl, M'.hc, Evl.ixN_nat (by unfold intV; rw [List.length_map]; exact hj40), ?_⟩
      refine ⟨⟨_, _, rfl⟩, ?_⟩
      rw [take_more hq1, List.foldl_append, hz]
      have e : (intV zs).set j (V.int (zs.getD j 0 + ((gv r j : Int) - (tk r j : Int)))) = intV (appI zs ((j : Int), (gv r j : Int) - (tk r j : Int))) := by
        unfold intV appI
        rw [List.map_set]
        rfl
      show Mach C CU CI kk H0 HR (upd H' c (.lst ((intV zs).set j (V.int (zs.getD j 0 + ((gv r j : Int) - (tk r j : Int))))))) p dx c l rv (intV (appI zs ((j : Int), (gv r j : Int) - (tk r j : Int)))) rs
      rw [e]
      exact M'.counters
    · rintro σ H' ⟨⟨u, v, rfl⟩, M'⟩
      rw [hG.len, List.take_length, fold_applied sm.1 hl he hf, ← rowV_asI] at M'
      exact k _ M'
end
end Fc
end
section
set_option Elab.async false
set_option linter.all false
set_option maxRecDepth 100000
set_option maxHeartbeats 4000000
namespace Fc
open PySem L2
def MS.rules (S : MS) : List Rc87.Rule := S.rs.map Rc87.halves
/-- one step by the specification: what is answered, the state then -/
def stepM (S : MS) : Int × MS := match Rc87.next S.rules S.cs, Rc87.step S.rules S.cs with
  | some i, some d => if Rc87.small d = false then (-3, S) else ((i : Nat), { S with cs := d })
  | _, _ => (-2, S)
theorem find_some {rs : List (List Nat)} {cs r : List Nat} {i : Nat} (h : rs[i]? = some r) (hb : ∀ q ∈ rs.take i, Rc87.fits (Rc87.halves q) cs = false) (hf : Rc87.fits (Rc87.halves r) cs = true) :
    Rc87.next (rs.map Rc87.halves) cs = some i ∧ Rc87.step (rs.map Rc87.halves) cs = some (Rc87.applied (Rc87.halves r) cs) := by
  induction rs generalizing i with
  | nil => simp at h
  | cons a rs ih =>
    cases i with
    | zero =>
      have e : a = r := Option.some.inj h
      subst e
      unfold Rc87.next Rc87.step
      rw [List.map_cons, List.findIdx?_cons, List.find?_cons, hf]
      exact ⟨rfl, rfl⟩
    | succ i =>
      have ha : Rc87.fits (Rc87.halves a) cs = false := hb a (by rw [List.take_succ_cons]; exact List.mem_cons_self)
      obtain ⟨e1, e2⟩ := ih (i := i) h (fun q hq => hb q (by rw [List.take_succ_cons]; exact List.mem_cons_of_mem _ hq))
      unfold Rc87.next at e1
      unfold Rc87.step at e2
      unfold Rc87.next Rc87.step
      rw [List.map_cons, List.findIdx?_cons, List.find?_cons, ha]
      refine ⟨?_, e2⟩
      rw [if_neg Bool.false_ne_true, e1]
      rfl
theorem find_none {rs : List (List Nat)} {cs : List Nat} (hb : ∀ q ∈ rs, Rc87.fits (Rc87.halves q) cs = false) : Rc87.next (rs.map Rc87.halves) cs = none ∧ Rc87.step (rs.map Rc87.halves) cs = none := by
  induction rs with
  | nil => exact ⟨rfl, rfl⟩
  | cons a rs ih =>
    obtain ⟨e1, e2⟩ := ih fun q hq => hb q (List.mem_cons_of_mem _ hq)
    unfold Rc87.next at e1
    unfold Rc87.step at e2
    unfold Rc87.next Rc87.step
    rw [List.map_cons, List.findIdx?_cons, List.find?_cons, hb a List.mem_cons_self]
    refine ⟨?_, e2⟩
    rw [if_neg Bool.false_ne_true, e1]
    rfl
def spStep (C CU CI : Addr) : Sp := fun vs H Q _ => ∃ (H0 : Hp) (p : Addr) (S : MS), vs = [.ref p] ∧ MachAt C CU CI H0 H p S ∧ ∀ H' : Hp, MachAt C CU CI H0 H' p (stepM S).2 → Q (.int (stepM S).1) H'
theorem small_of {cs : List Nat} (h : cs.length = 40) (e : Rc87.small cs = true) : small cs := ⟨h, fun x hx => of_decide_eq_true (List.all_eq_true.mp e x hx)⟩
section
variable {P : Program} {w : World} {K : PySem.W.Frag} {mg : Str → Option Value} {base : Heap} {C CU CI : Addr}
theorem scStep : FnScope ["self", "place", "rule"] ["self"] (defScope sMStep) := ⟨rfl, rfl, rfl, by decide +kernel, rfl, by decide +kernel, by decide +kernel⟩
theorem ok_step {f fF fG fT : Addr} {fd fdF fdG fdT : FuncData} (F : Fun K "step" "Machine.step" sMStep f fd) (T : TxtM K mg C) (TU : TxtU K mg CU)
    (FF : Fun K "fits" "Rule.fits" sRuleFits fF fdF) (bF : Binds K fdF ["self", "counters"] []) (mF : Meth K CU "fits" fF)
    (FG : Fun K "goes_too_high" "Rule.goes_too_high" sRuleHigh fG fdG) (bG : Binds K fdG ["self", "counters"] []) (mG : Meth K CU "goes_too_high" fG)
    (FT : Fun K "take_and_give" "Machine.take_and_give" sMTake fT fdT) (bT : Binds K fdT ["self", "rule"] []) (mT : Meth K C "take_and_give" fT) : FnOk P w K mg base CX0 2 f fd ["self"] (spStep C CU CI) := by
  have GF : FnOk P w K mg base CX0 1 fF fdF ["self", "counters"] (spFits K CU) := ok_fits FF TU
  have GG : FnOk P w K mg base CX0 1 fG fdG ["self", "counters"] (spHigh K CU) := ok_high FG TU
  have GT : FnOk P w K mg base CX0 1 fT fdT ["self", "rule"] (spTake C CU CI) := ok_take FT T TU
  obtain ⟨tH, mH⟩ := T.cHigh
  obtain ⟨tN, mN⟩ := T.cNone
  refine F.ok scStep (fun vs H Q E h => ?_) (fun cdv A outer s H vs Q E hr h => ?_)
  · obtain ⟨H0, p, S, rfl, _⟩ := h
    rfl
  · obtain ⟨H0, p, S, rfl, ⟨sm, r64, e0, evs, HR, dx, c, l, rv, M⟩, k⟩ := h
    refine ⟨_, pss_cons (ps_for PassesOwn.never rfl (pi_enum (by rfl) T.enum (pa_cons (pe_fld (pv 0) rfl) pa_nil)) (pg_tup rfl (pgs_cons (pg_name (i := 1) scStep.nd rfl (Or.inl rfl)) (pgs_cons (pg_name (i := 2) scStep.nd rfl (Or.inl rfl)) pgs_nil)))
        (pss_one (ps_if (pt_val (pe_meth (pv 2) TU.cl mF GF hr bF .nil pass0 (pa_cons (pe_fld (pv 0) rfl) pa_nil)))
          (pss_cons (ps_if (pt_val (pe_meth (pv 2) TU.cl mG GG hr bG .nil pass0 (pa_cons (pe_fld (pv 0) rfl) pa_nil))) (pss_one (ps_ret (pe_glob (v := .int (-3)) rfl mH ⟨_, rfl⟩))) pss_nil)
          (pss_cons (ps_expr (pe_meth (pv 0) T.cl mT GT hr bT .nil pass0 (pa_cons (pv 2) pa_nil))) (pss_one (ps_ret (pv 1))))) pss_nil)))
      (pss_one (ps_ret (pe_glob (v := .int (-2)) rfl mN ⟨_, rfl⟩))), ?_⟩
    refine ⟨_, rfl, p, C, dx, _, _, rfl, M.hm, T.cl, T.nR, maF_rules c l _, l, _, rfl, SqL.of M.hl, for_it (walk_enum (K := K) (a := l) (xs := rv)) (fun i σ H' => (∃ u v, σ = [some (.ref p), u, v]) ∧ Mach C CU CI ⟨e0, evs, S.qs, S.n⟩ H0 HR H' p dx c l rv (rowV S.cs) S.rs ∧ ∀ q ∈ S.rs.take i, Rc87.fits (Rc87.halves q) S.cs = false)
      ⟨⟨_, _, rfl⟩, M, by simp⟩ (fun i σ H' _ ⟨_, M', _⟩ => SqL.of M'.hl) ?_ ?_⟩
    · rintro i x σ H1 H2 hi ⟨⟨u, v, rfl⟩, M1, hb⟩ ⟨t, y, z, rfl, nt, rfl, ey, ez⟩
      have ey := (Option.some.inj ey).symm
      subst ey
      obtain ⟨a, r, rfl, hr1, RU, hl, he⟩ := M1.ru.get ez
      have M2 := M1.ext (H' := upd H1 t (.tup [.int ((i : Nat) : Int), .ref a])) fun b o e => by rw [upd_ne (ne_of_none e nt)]; exact e
      have st : (upd H1 t (.tup [.int ((i : Nat) : Int), .ref a])) t = some (.tup [.int ((i : Nat) : Int), .ref a]) := upd_same
      generalize upd H1 t (.tup [.int ((i : Nat) : Int), .ref a]) = H2 at M2 st ⊢
      refine ⟨t, _, rfl, SqT.of st, rfl, _, _, rfl, _, _, rfl, rfl, ?_⟩
      obtain ⟨du, xu, yu, tu, gu, ts, gs, hp, -, -, ht, hT, hg, hG⟩ := id (RU.mono M2.sr)
      refine ⟨_, rfl, a, du, _, rfl, hp, ruF_fits xu yu tu gu, _, rfl, p, C, dx, _, _, rfl, M2.hm, T.cl, T.nC, maF_counters c l _, a, c, r, S.cs, rfl, RU.mono M2.sr, M2.hc, hl, sm.1, _, rfl, ?_⟩
      rw [fitsP_eq sm.1 hl he]
      refine ite2 (fun hf => ?_) (fun hf => ?_)
      · obtain ⟨e1, e2⟩ := find_some hr1 hb hf
        refine ⟨_, rfl, a, du, _, rfl, hp, ruF_high xu yu tu gu, _, rfl, p, C, dx, _, _, rfl, M2.hm, T.cl, T.nC, maF_counters c l _, a, c, r, S.cs, rfl, RU.mono M2.sr, M2.hc, hl, sm.1, _, rfl, ?_⟩
        rw [highP_eq sm hl he hf]
        have es : stepM S = if Rc87.small (Rc87.applied (Rc87.halves r) S.cs) = false then (-3, S) else (((i : Nat) : Int), { S with cs := Rc87.applied (Rc87.halves r) S.cs }) := by
          unfold stepM MS.rules
          rw [e1, e2]
        refine ite2 (fun q => ?_) (fun q => ?_)
        · rw [Bool.not_eq_true'] at q
          rw [if_pos q] at es
          rw [es] at k
          exact k _ ⟨sm, r64, e0, evs, HR, dx, c, l, rv, M2⟩
        · have q : Rc87.small (Rc87.applied (Rc87.halves r) S.cs) = true := by
            cases z : Rc87.small (Rc87.applied (Rc87.halves r) S.cs) with
            | true => rfl
            | false => rw [z] at q; exact absurd rfl q
          rw [if_neg (by rw [q]; decide)] at es
          rw [es] at k
          refine ⟨_, rfl, p, dx, _, rfl, M2.hm, maF_no c l _ (by decide +kernel) (by decide +kernel) (by decide +kernel) (by decide +kernel), _, rfl, _, H0, HR, p, dx, c, l, a, rv, S.cs, r, S.rs, rfl, M2, sm, RU, hl, he, hf, fun H3 M3 => ?_⟩
          exact ⟨_, rfl, k _ ⟨small_of (applied_len sm.1) q, r64, e0, evs, HR, dx, c, l, rv, M3⟩⟩
      · refine ⟨⟨_, _, rfl⟩, M2, fun q hq => ?_⟩
        rw [take_more hr1] at hq
        rcases List.mem_append.mp hq with h | h
        · exact hb q h
        · rw [List.mem_singleton.mp h]
          exact Bool.eq_false_iff.mpr hf
    · rintro σ H' ⟨⟨u, v, rfl⟩, M', hb⟩
      rw [M.ru.len, List.take_length] at hb
      obtain ⟨e1, e2⟩ := find_none hb
      have es : stepM S = (-2, S) := by
        unfold stepM MS.rules
        rw [e1]
      rw [es] at k
      exact k _ ⟨sm, r64, e0, evs, HR, dx, c, l, rv, M'⟩
end
end Fc
end
section
set_option Elab.async false
set_option linter.all false
set_option maxRecDepth 100000
set_option maxHeartbeats 4000000
namespace Fc
open PySem L2
/-- a new object that is not the machine's -/
theorem Mach.alloc {C CU CI : Addr} {kk : Kept} {H0 HR H : Hp} {m dx c l : Addr} {rv zs : List V} {rs : List (List Nat)} (M : Mach C CU CI kk H0 HR H m dx c l rv zs rs) {q : Addr} {o : HO} (hq : H q = none) : Mach C CU CI kk (upd H0 q o) HR (upd H q o) m dx c l rv zs rs :=
  have up : ∀ {b : Addr} {u : HO}, H b = some u → (upd H q o) b = some u := fun e => by rw [upd_ne (ne_of_none e hq)]; exact e
  { s0 := fun b u e => by
      by_cases z : b = q
      · subst z
        rw [upd_same] at e ⊢
        exact e
      · rw [upd_ne z] at e ⊢
        exact M.s0 _ _ e
    sr := fun b u e => up (M.sr _ _ e)
    dj := fun b u e => by
      rw [upd_ne (ne_of_none (M.sr _ _ e) hq)]
      exact M.dj _ _ e
    m0 := by rw [upd_ne (ne_of_none M.hm hq)]; exact M.m0
    c0 := by rw [upd_ne (ne_of_none M.hc hq)]; exact M.c0
    l0 := by rw [upd_ne (ne_of_none M.hl hq)]; exact M.l0
    mr := M.mr
    cr := M.cr
    lr := M.lr
    hm := up M.hm
    hc := up M.hc
    hl := up M.hl
    ncl := M.ncl
    ru := M.ru
    he := M.he
    hq := M.hq }
theorem MachAt.alloc {C CU CI : Addr} {H0 H : Hp} {m : Addr} {S : MS} {q : Addr} {o : HO} (h : MachAt C CU CI H0 H m S) (hq : H q = none) : MachAt C CU CI (upd H0 q o) (upd H q o) m S := by
  obtain ⟨sm, r64, e0, evs, HR, dx, c, l, rv, M⟩ := h
  exact ⟨sm, r64, e0, evs, HR, dx, c, l, rv, M.alloc hq⟩
theorem MachAt.new {C CU CI : Addr} {H0 H : Hp} {m : Addr} {S : MS} {q : Addr} (h : MachAt C CU CI H0 H m S) (hq : H q = none) : H0 q = none := by
  obtain ⟨sm, r64, e0, evs, HR, dx, c, l, rv, M⟩ := h
  exact M.s0.free hq
def addSteps (i : Nat) (x : Nat × Nat × Rc87.Row) : Nat × Nat × Rc87.Row := (x.1, x.2.1 + i, x.2.2)
/-- run by the specification -/
def runM (S : MS) (k : Int) : List Int × MS := if Rc87.between k 0 Rc87.LONG = false then ([-1], S) else
  let x := Rc87.runs S.rules k.toNat S.cs
  ([(x.1 : Nat), (x.2.1 : Nat)], { S with cs := x.2.2 })
def spRun (C CU CI : Addr) : Sp := fun vs H Q _ => ∃ (H0 : Hp) (p : Addr) (S : MS) (k : Int), vs = [.ref p, .int k] ∧ MachAt C CU CI H0 H p S ∧ (k ≤ 5000 ∨ 1000000000 < k) ∧
  ∀ (H' : Hp) (q : Addr), H0 q = none → MachAt C CU CI (upd H0 q (.lst (intV (runM S k).1))) H' p (runM S k).2 → Q (.ref q) H'
theorem between_iff {k : Int} : Rc87.between k 0 Rc87.LONG = true ↔ 0 ≤ k ∧ k ≤ 1000000000 := by
  unfold Rc87.between Rc87.LONG
  rw [Bool.and_eq_true, decide_eq_true_iff, decide_eq_true_iff]
  exact Iff.rfl
/-- one step of run, by what step answers -/
theorem runs_none {S : MS} {k : Nat} (e : (stepM S).1 = -2) : Rc87.runs S.rules (k + 1) S.cs = (1, 0, S.cs) ∧ (stepM S).2 = S := by
  unfold stepM at e ⊢
  rw [Rc87.runs]
  cases h : Rc87.next S.rules S.cs with
  | none =>
    have h2 : Rc87.step S.rules S.cs = none := by
      unfold Rc87.next at h
      unfold Rc87.step
      rw [List.findIdx?_eq_none_iff] at h
      rw [List.find?_eq_none.mpr (fun x hx => by rw [h x hx]; decide)]
      rfl
    rw [h2]
    exact ⟨rfl, rfl⟩
  | some i =>
    rw [h] at e
    cases h2 : Rc87.step S.rules S.cs with
    | none =>
      exact ⟨rfl, rfl⟩
    | some d =>
      rw [h2] at e
      dsimp only at e
      split at e
      · cases e
      · exfalso
        dsimp only at e
        omega
theorem runs_high {S : MS} {k : Nat} (e : (stepM S).1 = -3) : Rc87.runs S.rules (k + 1) S.cs = (2, 0, S.cs) ∧ (stepM S).2 = S := by
  unfold stepM at e ⊢
  rw [Rc87.runs]
  cases h : Rc87.next S.rules S.cs with
  | none => rw [h] at e; cases e
  | some i =>
    rw [h] at e
    cases h2 : Rc87.step S.rules S.cs with
    | none => rw [h2] at e; cases e
    | some d =>
      rw [h2] at e
      dsimp only at e ⊢
      split at e
      · rename_i q
        rw [if_pos q, if_pos q]
        exact ⟨rfl, rfl⟩
      · exfalso
        dsimp only at e
        omega
theorem runs_step {S : MS} {k : Nat} (e2 : (stepM S).1 ≠ -2) (e3 : (stepM S).1 ≠ -3) : Rc87.runs S.rules (k + 1) S.cs = addSteps 1 (Rc87.runs S.rules k (stepM S).2.cs) ∧ (stepM S).2.rs = S.rs ∧ (stepM S).2.qs = S.qs ∧ (stepM S).2.n = S.n := by
  unfold stepM at e2 e3 ⊢
  rw [Rc87.runs]
  cases h : Rc87.next S.rules S.cs with
  | none => rw [h] at e2; exact absurd rfl e2
  | some i =>
    rw [h] at e2 e3
    cases h2 : Rc87.step S.rules S.cs with
    | none => rw [h2] at e2; exact absurd rfl e2
    | some d =>
      rw [h2] at e2 e3
      dsimp only at e2 e3 ⊢
      split at e3
      · exact absurd rfl e3
      · rename_i q
        rw [if_neg q, if_neg q]
        exact ⟨rfl, rfl, rfl, rfl⟩
section
variable {P : Program} {w : World} {K : PySem.W.Frag} {mg : Str → Option Value} {base : Heap} {C CU CI : Addr}
theorem scRun : FnScope ["self", "k", "done", "answer"] ["self", "k"] (defScope sMRun) := ⟨rfl, rfl, rfl, by decide +kernel, rfl, by decide +kernel, by decide +kernel⟩
theorem MachAt.no {H0 H : Hp} {p : Addr} {S : MS} (h : MachAt C CU CI H0 H p S) {x : Str} (h1 : (x == "counters") = false) (h2 : (x == "rules") = false) (h3 : (x == "instructions") = false) (h4 : (x == "next_instruction") = false) : ∃ dx fs, H p = some (.ins C dx fs) ∧ fs.lookup x = none := by
  obtain ⟨sm, r64, e0, evs, HR, dx, c, l, rv, M⟩ := h
  exact ⟨dx, _, M.hm, maF_no c l _ h1 h2 h3 h4⟩
theorem ok_run {f fS fY : Addr} {fd fdS fdY : FuncData} (F : Fun K "run" "Machine.run" sMRun f fd) (T : TxtM K mg C) (GY : FnOk P w K mg base CX0 1 fY fdY ["k"] spMay) (bY : Binds K fdY ["k"] []) (gY : mg "may_be_asked" = some (.ref fY)) (kY : PySem.W.keepIn K (.ref fY) = true) (GS : FnOk P w K mg base CX0 2 fS fdS ["self"] (spStep C CU CI)) (bS : Binds K fdS ["self"] []) (mS : Meth K C "step" fS) : FnOk P w K mg base CX0 3 f fd ["self", "k"] (spRun C CU CI) := by
  obtain ⟨tN, mN⟩ := T.cNone
  obtain ⟨tH, mH⟩ := T.cHigh
  obtain ⟨tO, mO⟩ := T.cOut
  obtain ⟨tM, mM⟩ := T.cMS
  obtain ⟨tD, mD⟩ := T.cDone
  obtain ⟨t1, m1⟩ := T.cStop
  obtain ⟨t2, m2⟩ := T.cStopH
  refine F.ok scRun (fun vs H Q E h => ?_) (fun cdv A outer s H vs Q E hr h => ?_)
  · obtain ⟨H0, p, S, k, rfl, _⟩ := h
    rfl
  · obtain ⟨H0, p, S, k, rfl, MA, hk, kk⟩ := h
    have hr1 : Room 1 _ := hr.mono (by decide)
    refine ⟨_, pss_cons (ps_if (pt_not (pt_val (pe_call GY hr1 rfl gY kY bY .nil pass0 (pa_cons (pv 1) pa_nil)))) (pss_one (ps_ret (pe_lst (pa_cons (pe_glob (v := .int (-1)) rfl mO ⟨_, rfl⟩) pa_nil)))) pss_nil)
      (pss_cons (ps_for PassesOwn.never rfl (pi_range1 rfl T.range (pa_cons (pv 1) pa_nil)) (pg_name (i := 2) scRun.nd rfl (Or.inl rfl))
        (pss_cons (ps_set (i := 3) scRun.nd rfl (Or.inl rfl) (pe_meth0 (pv 0) T.cl mS GS hr bS .nil pass0))
        (pss_cons (ps_if (pt_cmpR op_eq (pv 3) (pe_glob (v := .int (-2)) rfl mN ⟨_, rfl⟩) (nomark _)) (pss_one (ps_ret (pe_lst (pa_cons (pe_glob (v := .int 1) rfl m1 ⟨_, rfl⟩) (pa_cons (pv 2) pa_nil))))) pss_nil)
        (pss_one (ps_if (pt_cmpR op_eq (pv 3) (pe_glob (v := .int (-3)) rfl mH ⟨_, rfl⟩) (nomark _)) (pss_one (ps_ret (pe_lst (pa_cons (pe_glob (v := .int 2) rfl m2 ⟨_, rfl⟩) (pa_cons (pv 2) pa_nil))))) pss_nil)))))
      (pss_one (ps_ret (pe_lst (pa_cons (pe_glob (v := .int 0) rfl mD ⟨_, rfl⟩) (pa_cons (pv 1) pa_nil)))))), ?_⟩
    have refuse : ¬ (0 ≤ k ∧ k ≤ 1000000000) → ∀ q, H q = none → Q (.ref q) (upd H q (.lst [.int (-1)])) := fun z q hq => by
      have e : runM S k = ([-1], S) := by
        unfold runM
        rw [if_pos (Bool.eq_false_iff.mpr fun y => z (between_iff.mp y))]
      rw [e] at kk
      exact kk _ q (MA.new hq) (MA.alloc hq)
    refine ⟨_, rfl, k, rfl, ⟨_, rfl, ?_⟩⟩
    refine ite2 (fun q1 => ?_) (fun q1 => ?_)
    · exact ⟨by show 1 ≤ sizeLine; decide, refuse fun z => by rw [decide_eq_true z] at q1; cases q1⟩
    have q12 : 0 ≤ k ∧ k ≤ 1000000000 := by
      by_cases z : 0 ≤ k ∧ k ≤ 1000000000
      · exact z
      · rw [decide_eq_false z] at q1
        exact absurd rfl q1
    have q1 := q12.1
    have q2 := q12.2
    have k5 : k ≤ 5000 := by omega
    have er : runM S k = ([(((Rc87.runs S.rules k.toNat S.cs).1 : Nat) : Int), (((Rc87.runs S.rules k.toNat S.cs).2.1 : Nat) : Int)], { S with cs := (Rc87.runs S.rules k.toNat S.cs).2.2 }) := by
      unfold runM
      rw [if_neg (by rw [between_iff.mpr ⟨q1, q2⟩]; decide)]
    rw [er] at kk
    refine ⟨_, rfl, k, rfl, by omega, by omega, for_range (lo := 0) (n := k.toNat) (fun i σ H' => (∃ u v, σ = [some (.ref p), some (.int k), u, v]) ∧ ∃ ci, MachAt C CU CI H0 H' p { S with cs := ci } ∧ ∀ j, Rc87.runs S.rules (i + j) S.cs = addSteps i (Rc87.runs S.rules j ci))
      ⟨⟨_, _, rfl⟩, S.cs, MA, fun j => by rw [Nat.zero_add]; rfl⟩ ?_ ?_⟩
    · rintro i σ H1 hi ⟨⟨u, v, rfl⟩, ci, M1, hj⟩
      rw [Int.zero_add]
      obtain ⟨dm, fm, hm, nm⟩ := M1.no (x := "step") (by decide +kernel) (by decide +kernel) (by decide +kernel) (by decide +kernel)
      refine ⟨_, rfl, p, dm, fm, rfl, hm, nm, H0, p, { S with cs := ci }, rfl, M1, fun H2 M2 => ?_⟩
      refine ⟨_, rfl, rfl, _, rfl, ?_⟩
      have hki : i + ((k.toNat - i - 1) + 1) = k.toNat := by omega
      refine ite2 (fun z => ?_) (fun z => ?_)
      · have z1 : (stepM { S with cs := ci }).1 = -2 := by
          have y := of_decide_eq_true z
          injection y
        obtain ⟨e1, e2⟩ := runs_none (S := { S with cs := ci }) (k := k.toNat - i - 1) z1
        have e3 := hj ((k.toNat - i - 1) + 1)
        rw [hki] at e3
        have e4 := e3.trans (congrArg (addSteps i) e1)
        rw [e4] at kk
        rw [e2] at M2
        refine ⟨_, rfl, (by show 2 ≤ sizeLine; decide), fun q hq => ?_⟩
        have e5 : ((0 + i : Nat) : Int) = (i : Int) := by omega
        have kq := kk _ q (M2.new hq) (by
          show MachAt C CU CI (upd H0 q (.lst [.int (1 : Int), .int ((0 + i : Nat) : Int)])) (upd H2 q (.lst [.int (1 : Int), .int (i : Int)])) p { S with cs := ci }
          rw [e5]
          exact M2.alloc hq)
        exact kq
      · refine ⟨_, rfl, rfl, _, rfl, ?_⟩
        have z1 : (stepM { S with cs := ci }).1 ≠ -2 := fun y => z (decide_eq_true (congrArg V.int y))
        refine ite2 (fun z => ?_) (fun z => ?_)
        · have z1 : (stepM { S with cs := ci }).1 = -3 := by
            have y := of_decide_eq_true z
            injection y
          obtain ⟨e1, e2⟩ := runs_high (S := { S with cs := ci }) (k := k.toNat - i - 1) z1
          have e3 := hj ((k.toNat - i - 1) + 1)
          rw [hki] at e3
          have e4 := e3.trans (congrArg (addSteps i) e1)
          rw [e4] at kk
          rw [e2] at M2
          refine ⟨_, rfl, (by show 2 ≤ sizeLine; decide), fun q hq => ?_⟩
          have e5 : ((0 + i : Nat) : Int) = (i : Int) := by omega
          have kq := kk _ q (M2.new hq) (by
            show MachAt C CU CI (upd H0 q (.lst [.int (2 : Int), .int ((0 + i : Nat) : Int)])) (upd H2 q (.lst [.int (2 : Int), .int (i : Int)])) p { S with cs := ci }
            rw [e5]
            exact M2.alloc hq)
          exact kq
        · have z2 : (stepM { S with cs := ci }).1 ≠ -3 := fun y => z (decide_eq_true (congrArg V.int y))
          refine ⟨⟨_, _, rfl⟩, (stepM { S with cs := ci }).2.cs, ?_, fun j => ?_⟩
          · have e2 := (runs_step (S := { S with cs := ci }) (k := 0) z1 z2).2
            have e6 : (stepM { S with cs := ci }).2 = { S with cs := (stepM { S with cs := ci }).2.cs } := by
              generalize stepM { S with cs := ci } = X at e2 ⊢
              obtain ⟨a, b, d, e⟩ := X
              obtain ⟨e2, e3, e4⟩ := e2
              dsimp only at e2 e3 e4 ⊢
              rw [e2, e3, e4]
            rw [e6] at M2
            exact M2
          · obtain ⟨e1, -⟩ := runs_step (S := { S with cs := ci }) (k := j) z1 z2
            have e3 := hj (j + 1)
            rw [show i + 1 + j = i + (j + 1) by omega]
            refine e3.trans ((congrArg (addSteps i) e1).trans ?_)
            unfold addSteps
            dsimp only
            rw [show ∀ x : Nat, x + 1 + i = x + (i + 1) by intro x; omega]
            rfl
    · rintro σ H1 ⟨⟨u, v, rfl⟩, ci, M1, hj⟩
      have e3 := hj 0
      rw [Nat.add_zero] at e3
      rw [e3] at kk
      refine ⟨_, rfl, (by show 2 ≤ sizeLine; decide), fun q hq => ?_⟩
      have e5 : ((0 + k.toNat : Nat) : Int) = k := by omega
      exact kk _ q (M1.new hq) (by
        show MachAt C CU CI (upd H0 q (.lst [.int (0 : Int), .int ((0 + k.toNat : Nat) : Int)])) (upd H1 q (.lst [.int (0 : Int), .int k])) p { S with cs := ci }
        rw [e5]
        exact M1.alloc hq)
end
end Fc
end
section
set_option Elab.async false
set_option linter.all false
set_option maxRecDepth 100000
set_option maxHeartbeats 4000000
namespace Fc
open PySem L2
def addRuleM (S : MS) (l : List Nat) : Int × MS := if l.length % 2 ≠ 0 then (-1, S) else if 64 ≤ S.rs.length then (-2, S) else (((S.rs.length + 1 : Nat) : Int), { S with rs := S.rs ++ [l] })
def spAddRule (C CU CI : Addr) : Sp := fun vs H Q _ => ∃ (H0 : Hp) (p a : Addr) (S : MS) (l : List Nat), vs = [.ref p, .ref a] ∧ MachAt C CU CI H0 H p S ∧ H0 a = some (.lst (rowV l)) ∧ l.length ≤ 80 ∧ (∀ x ∈ l, x ≤ 255) ∧
  ∀ (H' : Hp), MachAt C CU CI H0 H' p (addRuleM S l).2 → Q (.int (addRuleM S l).1) H'
/-- what is new since G, among the machine's lasting objects -/
def joined (G HR H : Hp) : Hp := fun b => match G b with
  | none => H b
  | some _ => HR b
theorem joined_new {G HR H : Hp} : Same (fresh G H) (joined G HR H) := fun b o e => by
  obtain ⟨h1, h2⟩ := fresh_some e
  unfold joined
  rw [h1]
  exact h2
theorem joined_old {G HR H : Hp} (s : Same HR G) : Same HR (joined G HR H) := fun b o e => by
  unfold joined
  rw [s _ _ e]
  exact e
theorem joined_cases {G HR H : Hp} {b : Addr} {o : HO} (h : joined G HR H b = some o) : (G b = none ∧ H b = some o) ∨ HR b = some o := by
  unfold joined at h
  cases e : G b with
  | none => rw [e] at h; exact .inl ⟨rfl, h⟩
  | some u => rw [e] at h; exact .inr h
section
variable {P : Program} {w : World} {K : PySem.W.Frag} {mg : Str → Option Value} {base : Heap} {C CU CI : Addr}
theorem scAddRule : FnScope ["self", "amounts"] ["self", "amounts"] (defScope sMAddRule) := ⟨rfl, rfl, rfl, by decide +kernel, rfl, by decide +kernel, by decide +kernel⟩
theorem ok_addrule {f fU : Addr} {fd fdU : FuncData} (F : Fun K "add_rule" "Machine.add_rule" sMAddRule f fd) (T : TxtM K mg C) (TU : TxtU K mg CU) (FU : Fun K "__init__" "Rule.__init__" sRuleInit fU fdU) (bU : Binds K fdU ["self", "amounts"] []) (MU : Mk K CU fU) (gU : mg "Rule" = some (.ref CU)) :
    FnOk P w K mg base CX0 3 f fd ["self", "amounts"] (spAddRule C CU CI) := by
  have GU : FnOk P w K mg base CX0 1 fU fdU ["self", "amounts"] (spUInit K CU) := ok_uinit FU TU
  obtain ⟨tO, mO⟩ := T.cOut
  obtain ⟨tF, mF⟩ := T.cFull
  obtain ⟨tM, mM⟩ := T.cMR
  refine F.ok scAddRule (fun vs H Q E h => ?_) (fun cdv A outer s H vs Q E hr h => ?_)
  · obtain ⟨H0, p, a, S, l, rfl, _⟩ := h
    rfl
  · obtain ⟨H0, p, a, S, l, rfl, ⟨sm, r64, e0, evs, HR, dx, c, lr, rv, M⟩, ha0, hl, hb, k⟩ := h
    have ha := M.s0 _ _ ha0
    refine ⟨_, pss_cons (ps_if (pt_cmpR op_ne (pe_op op_mod (pe_callB call_len_seq (by rfl) T.len PySem.boot_len (pa_cons (pv 1) pa_nil)) pe_int) pe_int (nomark _)) (pss_one (ps_ret (pe_glob (v := .int (-1)) rfl mO ⟨_, rfl⟩))) pss_nil)
      (pss_cons (ps_if (pt_cmpR op_ge (pe_callB call_len_seq (by rfl) T.len PySem.boot_len (pa_cons (pe_fld (pv 0) rfl) pa_nil)) (pe_glob (v := .int 64) rfl mM ⟨_, rfl⟩) (nomark _)) (pss_one (ps_ret (pe_glob (v := .int (-2)) rfl mF ⟨_, rfl⟩))) pss_nil)
      (pss_cons (ps_expr (pe_bm PySem.F.plainAttrs_list PySem.F.slot_list_append PySem.F.type_list_append mt_append (pe_fld (pv 0) rfl) (pa_cons (pe_make MU GU hr rfl gU bU .nil pass0 (pa_cons (pv 1) pa_nil)) pa_nil)))
      (pss_one (ps_ret (pe_callB call_len_seq (by rfl) T.len PySem.boot_len (pa_cons (pe_fld (pv 0) rfl) pa_nil)))))), ?_⟩
    have MA : MachAt C CU CI H0 H p S := ⟨sm, r64, e0, evs, HR, dx, c, lr, rv, M⟩
    have rl := row_len l
    refine ⟨_, rfl, a, _, rfl, .inl (SqL.of ha), _, _, rfl, rfl, (by show (0 : Int) < 2; decide), rfl, _, rfl, ?_⟩
    refine ite2 (fun q => ?_) (fun q => ?_)
    · have q1 : l.length % 2 ≠ 0 := fun z => by
        rw [Bool.not_eq_true'] at q
        exact of_decide_eq_false q (congrArg V.int (by omega))
      have e : addRuleM S l = (-1, S) := if_pos q1
      rw [e] at k
      exact k _ MA
    have q1 : l.length % 2 = 0 := by
      by_cases z : l.length % 2 = 0
      · exact z
      · refine absurd ?_ q
        rw [Bool.not_eq_true']
        refine decide_eq_false fun y => ?_
        injection y with y
        omega
    have e : addRuleM S l = if 64 ≤ S.rs.length then (-2, S) else (((S.rs.length + 1 : Nat) : Int), { S with rs := S.rs ++ [l] }) := if_neg (fun z => z q1)
    have rlen := M.ru.len
    refine ⟨_, rfl, p, C, dx, _, _, rfl, M.hm, T.cl, T.nR, maF_rules c lr _, lr, _, rfl, .inl (SqL.of M.hl), _, _, rfl, rfl, _, rfl, ?_⟩
    refine ite2 (fun q2 => ?_) (fun q2 => ?_)
    · have q3 : 64 ≤ S.rs.length := by
        have z : (64 : Int) ≤ (rv.length : Int) := of_decide_eq_true q2
        omega
      rw [e, if_pos q3] at k
      exact k _ MA
    have q3 : ¬ 64 ≤ S.rs.length := fun z => q2 (decide_eq_true (by show (64 : Int) ≤ (rv.length : Int); omega))
    rw [e, if_neg q3] at k
    refine ⟨_, rfl, p, C, dx, _, _, rfl, M.hm, T.cl, T.nR, maF_rules c lr _, .inl ⟨rfl, _, SqL.of M.hl⟩, ?_⟩
    refine ⟨_, rfl, fun x du nx nd ne => ?_⟩
    have up : Same H (upd (upd H du (.own x)) x (.ins CU du [])) := fun b o e => by
      rw [upd_ne (ne_of_none e nx), upd_ne (ne_of_none e nd)]
      exact e
    refine ⟨H, x, du, a, l, rfl, up, nx, upd_same, up _ _ ha, hl, q1, fun H1 RU B1 => ?_⟩
    have s1 : Same H H1 := fun b o e => B1 b o (up _ _ e) (ne_of_none e nx)
    have M1 := M.ext s1
    refine ⟨rfl, lr, _, _, rfl, rfl, M1.hl, small1000 (by omega), ?_⟩
    have nlp : lr ≠ p := ne_of M1.hl M1.hm (by intro z; cases z)
    have M2 : Mach C CU CI ⟨e0, evs, S.qs, S.n⟩ H0 (joined H HR H1) (upd H1 lr (.lst (rv ++ [.ref x]))) p dx c lr (rv ++ [.ref x]) (rowV S.cs) (S.rs ++ [l]) :=
      { s0 := fun b o e => by rw [upd_ne (ne_of_none e M.l0)]; exact M1.s0 _ _ e
        sr := fun b o e => by
          rcases joined_cases e with ⟨h1, h2⟩ | h
          · rw [upd_ne (Ne.symm (ne_of_none M.hl h1))]
            exact h2
          · rw [upd_ne (ne_of_none h M.lr)]
            exact M1.sr _ _ h
        dj := fun b o e => by
          rcases joined_cases e with ⟨h1, h2⟩ | h
          · exact M.s0.free h1
          · exact M.dj _ _ h
        m0 := M.m0
        c0 := M.c0
        l0 := M.l0
        mr := by
          unfold joined
          rw [M.hm]
          exact M.mr
        cr := by
          unfold joined
          rw [M.hc]
          exact M.cr
        lr := by
          unfold joined
          rw [M.hl]
          exact M.lr
        hm := by rw [upd_ne (Ne.symm nlp)]; exact M1.hm
        hc := by rw [upd_ne M.ncl]; exact M1.hc
        hl := upd_same
        ncl := M.ncl
        ru := (M.ru.mono (joined_old M.sr)).snoc (RU.mono joined_new) ⟨hl, q1⟩
        he := joined_old M.sr _ _ M.he
        hq := M.hq.mono fun _ _ h => h.mono (joined_old M.sr) }
    have MA2 : MachAt C CU CI H0 (upd H1 lr (.lst (rv ++ [.ref x]))) p { S with rs := S.rs ++ [l] } := ⟨sm, ⟨by rw [List.length_append, List.length_singleton]; show S.rs.length + 1 ≤ 64; omega, r64.2.1, fun r hr => (List.mem_append.mp hr).elim (r64.2.2 r) fun z => by rw [List.mem_singleton.mp z]; exact hb⟩, e0, evs, _, dx, c, lr, _, M2⟩
    refine ⟨_, rfl, p, C, dx, _, _, rfl, M2.hm, T.cl, T.nR, maF_rules c lr _, lr, _, rfl, .inl (SqL.of M2.hl), ?_⟩
    have e9 : (((rv ++ [V.ref x]).length : Nat) : Int) = ((S.rs.length + 1 : Nat) : Int) := by
      rw [List.length_append, List.length_singleton, rlen]
    show Q (.int (((rv ++ [V.ref x]).length : Nat) : Int)) _
    rw [e9]
    exact k _ MA2
end
end Fc
end
section
set_option Elab.async false
set_option linter.all false
set_option maxRecDepth 100000
set_option maxHeartbeats 4000000
namespace Fc
open PySem L2
/-! ### powers and numbers by their rests -/
theorem big_eq : Rc87.BIG = 18446744073709551616 := by decide
def spPower : Sp := fun vs H Q _ => ∃ (b n : Nat), vs = [.int (b : Int), .int (n : Int)] ∧ b < 18446744073709551616 ∧ Q (.int ((b ^ n % 18446744073709551616 : Nat) : Int)) H
def primesV : List V := rowV Rc87.primes
structure TxtN (K : PySem.W.Frag) (mg : Str → Option Value) : Prop where
  enum : mg "enumerate" = none
  big : ∃ t, mg "BOUND" = some (.int 18446744073709551616 t)
  primes : ∃ a, mg "PRIMES" = some (.ref a) ∧ ∀ H : Hp, SqT K H a primesV
/-- the first so many of a number's factors -/
def numTo (l : List Nat) (i : Nat) : Nat := prod ((Rc87.primes.zip l).take i) % 18446744073709551616
section
variable {P : Program} {w : World} {K : PySem.W.Frag} {mg : Str → Option Value} {base : Heap} {C CU : Addr}
theorem scPower : FnScope ["base", "exponent", "power", "square", "left"] ["base", "exponent"] (defScope sPower) := ⟨rfl, rfl, rfl, by decide +kernel, rfl, by decide +kernel, by decide +kernel⟩
theorem ok_power {f : Addr} {fd : FuncData} (F : Fun K "power_rest" "power_rest" sPower f fd) (T : TxtN K mg) : FnOk P w K mg base CX0 1 f fd ["base", "exponent"] spPower := by
  obtain ⟨tB, mB⟩ := T.big
  refine F.ok scPower (fun vs H Q E h => ?_) (fun cdv A outer s H vs Q E hr h => ?_)
  · obtain ⟨b, n, rfl, _⟩ := h
    rfl
  · obtain ⟨b, n, rfl, hb, k⟩ := h
    refine ⟨_, pss_cons (ps_set (i := 2) scPower.nd rfl (Or.inl rfl) pe_int) (pss_cons (ps_set (i := 3) scPower.nd rfl (Or.inl rfl) (pv 0)) (pss_cons (ps_set (i := 4) scPower.nd rfl (Or.inl rfl) (pv 1))
      (pss_cons (ps_while PassesOwn.never (pt_cmpR op_gt (pv 4) pe_int (nomark _))
        (pss_cons (ps_if (pt_cmpR op_eq (pe_op op_mod (pv 4) pe_int) pe_int (nomark _)) (pss_one (ps_set (i := 2) scPower.nd rfl (Or.inl rfl) (pe_op op_mod (pe_op op_mul (pv 2) (pv 3)) (pe_glob (v := .int 18446744073709551616) rfl mB ⟨_, rfl⟩)))) pss_nil)
        (pss_cons (ps_set (i := 3) scPower.nd rfl (Or.inl rfl) (pe_op op_mod (pe_op op_mul (pv 3) (pv 3)) (pe_glob (v := .int 18446744073709551616) rfl mB ⟨_, rfl⟩)))
        (pss_one (ps_set (i := 4) scPower.nd rfl (Or.inl rfl) (pe_op op_fdiv (pv 4) pe_int))))))
      (pss_one (ps_ret (pv 2)))))), ?_⟩
    refine ⟨_, rfl, _, rfl, ?_⟩
    refine while_by (fun σ H' => H' = H ∧ ∃ r q e : Nat, σ = [some (.int (b : Int)), some (.int (n : Int)), some (.int (r : Int)), some (.int (q : Int)), some (.int (e : Int))] ∧ r < 18446744073709551616 ∧ q < 18446744073709551616 ∧ r * q ^ e % 18446744073709551616 = b ^ n % 18446744073709551616)
      (fun σ _ => match σ with | [_, _, _, _, some (.int e)] => e.toNat | _ => 0) ⟨rfl, 1, b, n, rfl, by decide, hb, by rw [Nat.one_mul]⟩ ?_ ?_
    · rintro σ H' ⟨rfl, r, q, e, rfl, hr1, hq, he⟩
      refine ⟨_, rfl, _, _, rfl, rfl, _, rfl, ?_⟩
      refine ite2 (fun c => ?_) (fun c => ?_)
      · have c : 0 < e := by
          have z : (0 : Int) < (e : Int) := of_decide_eq_true c
          omega
        have fin : ∀ r2 : Nat, r2 < 18446744073709551616 → r2 * (q * q % 18446744073709551616) ^ (e / 2) % 18446744073709551616 = r * q ^ e % 18446744073709551616 →
            ∃ r' q' e' : Nat, [some (V.int (b : Int)), some (.int (n : Int)), some (.int (r2 : Int)), some (.int ((q : Int) * (q : Int) % 18446744073709551616)), some (.int ((e : Int) / 2))] = [some (V.int (b : Int)), some (.int (n : Int)), some (.int (r' : Int)), some (.int (q' : Int)), some (.int (e' : Int))] ∧ r' < 18446744073709551616 ∧ q' < 18446744073709551616 ∧ r' * q' ^ e' % 18446744073709551616 = b ^ n % 18446744073709551616 := fun r2 h2 hm => by
          refine ⟨r2, q * q % 18446744073709551616, e / 2, ?_, h2, Nat.mod_lt _ (by decide), hm.trans he⟩
          rw [Int.natCast_emod, Int.natCast_mul, Int.natCast_ediv]
          rfl
        have low : -(2 ^ 64) < (q : Int) ∧ (q : Int) < 2 ^ 64 := ⟨by omega, by omega⟩
        have low2 : -(2 ^ 64) < (r : Int) ∧ (r : Int) < 2 ^ 64 := ⟨by omega, by omega⟩
        have mu : ((e : Int) / 2).toNat < (e : Int).toNat := by omega
        refine ⟨_, rfl, _, _, rfl, rfl, (by show (0 : Int) < 2; decide), rfl, _, rfl, ?_⟩
        refine ite2 (fun o => ?_) (fun o => ?_)
        · have o : e % 2 = 1 := by
            have y := of_decide_eq_true o
            injection y with y
            omega
          refine ⟨_, rfl, _, rfl, _, _, rfl, rfl, .inl low2, _, _, rfl, rfl, (by show (0 : Int) < 18446744073709551616; decide), ?_⟩
          refine ⟨_, rfl, _, rfl, _, _, rfl, rfl, .inl low, _, _, rfl, rfl, (by show (0 : Int) < 18446744073709551616; decide), ?_⟩
          refine ⟨_, rfl, _, _, rfl, rfl, ⟨by decide, by decide⟩, ?_⟩
          refine ⟨⟨rfl, ?_⟩, mu⟩
          have q1 := fin (r * q % 18446744073709551616) (Nat.mod_lt _ (by decide)) (turn_odd o)
          rw [Int.natCast_emod, Int.natCast_mul] at q1
          exact q1
        · have o : e % 2 = 0 := by
            rcases Nat.mod_two_eq_zero_or_one e with y | y
            · exact y
            · refine absurd (decide_eq_true ?_) o
              refine congrArg V.int ?_
              omega
          refine ⟨_, rfl, _, rfl, _, _, rfl, rfl, .inl low, _, _, rfl, rfl, (by show (0 : Int) < 18446744073709551616; decide), ?_⟩
          refine ⟨_, rfl, _, _, rfl, rfl, ⟨by decide, by decide⟩, ?_⟩
          exact ⟨⟨rfl, fin r hr1 (turn_even o)⟩, mu⟩
      · have c : e = 0 := by
          have z : ¬ ((0 : Int) < (e : Int)) := fun z => c (decide_eq_true z)
          omega
        subst c
        rw [Nat.pow_zero, Nat.mul_one, Nat.mod_eq_of_lt hr1] at he
        refine ⟨_, rfl, ?_⟩
        rw [he]
        exact k
    · rintro σ H' Q1 Q2 hQ ⟨v, hv, i, j, h1, h2, t, h3, h4⟩
      exact ⟨v, hv, i, j, h1, h2, t, h3, hQ _ _ h4⟩
def spNumber (K : PySem.W.Frag) : Sp := fun vs H Q _ => ∃ (a : Addr) (l : List Nat), vs = [.ref a] ∧ SqL K H a (rowV l) ∧ l.length ≤ 40 ∧
  ∀ H' : Hp, Same H H' → Q (.int ((prod (Rc87.primes.zip l) % 18446744073709551616 : Nat) : Int)) H'
theorem primes_len : Rc87.primes.length = 40 := by rw [primes_eq]; rfl
theorem primes_get {i : Nat} (h : i < 40) : ∃ p, Rc87.primes[i]? = some p ∧ p < 18446744073709551616 := by
  refine ⟨Rc87.primes[i]'(by rw [primes_len]; exact h), List.getElem?_eq_getElem _, ?_⟩
  have : ∀ p ∈ Rc87.primes, p < 18446744073709551616 := by rw [primes_eq]; decide
  exact this _ (List.getElem_mem _)
theorem numTo_succ {l : List Nat} {i p x : Nat} (hp : Rc87.primes[i]? = some p) (hx : l[i]? = some x) : numTo l (i + 1) = numTo l i * (p ^ x % 18446744073709551616) % 18446744073709551616 := by
  have e : (Rc87.primes.zip l)[i]? = some (p, x) := by
    rw [List.getElem?_zip_eq_some]
    exact ⟨hp, hx⟩
  unfold numTo
  rw [List.take_add_one, e]
  show prod ((Rc87.primes.zip l).take i ++ [(p, x)]) % _ = _
  rw [prod_append, Nat.mod_mul_mod, Nat.mul_mod_mod]
  show prod ((Rc87.primes.zip l).take i) * (p ^ x * 1) % _ = _
  rw [Nat.mul_one]
theorem scNumber : FnScope ["amounts", "number", "i", "amount"] ["amounts"] (defScope sNumber) := ⟨rfl, rfl, rfl, by decide +kernel, rfl, by decide +kernel, by decide +kernel⟩
theorem ok_number {f fP : Addr} {fd fdP : FuncData} (F : Fun K "number_rest" "number_rest" sNumber f fd) (T : TxtN K mg) (GP : FnOk P w K mg base CX0 1 fP fdP ["base", "exponent"] spPower) (bP : Binds K fdP ["base", "exponent"] []) (gP : mg "power_rest" = some (.ref fP)) (kP : PySem.W.keepIn K (.ref fP) = true) :
    FnOk P w K mg base CX0 2 f fd ["amounts"] (spNumber K) := by
  obtain ⟨tB, mB⟩ := T.big
  obtain ⟨aP, mP, hP⟩ := T.primes
  refine F.ok scNumber (fun vs H Q E h => ?_) (fun cdv A outer s H vs Q E hr h => ?_)
  · obtain ⟨a, l, rfl, _⟩ := h
    rfl
  · obtain ⟨a, l, rfl, ha, hl, k⟩ := h
    refine ⟨_, pss_cons (ps_set (i := 1) scNumber.nd rfl (Or.inl rfl) pe_int)
      (pss_cons (ps_for PassesOwn.never rfl (pi_enum (by rfl) T.enum (pa_cons (pv 0) pa_nil)) (pg_tup rfl (pgs_cons (pg_name (i := 2) scNumber.nd rfl (Or.inl rfl)) (pgs_cons (pg_name (i := 3) scNumber.nd rfl (Or.inl rfl)) pgs_nil)))
        (pss_one (ps_set (i := 1) scNumber.nd rfl (Or.inl rfl) (pe_op op_mod (pe_op op_mul (pv 1) (pe_call GP hr rfl gP kP bP .nil pass0 (pa_cons (pe_ix ix_tup (pe_glob (v := .ref aP) rfl mP rfl) (pv 2) (fun _ _ => rfl)) (pa_cons (pv 3) pa_nil)))) (pe_glob (v := .int 18446744073709551616) rfl mB ⟨_, rfl⟩)))))
      (pss_one (ps_ret (pv 1)))), ?_⟩
    refine ⟨_, rfl, a, _, rfl, ha, for_it (walk_enum (K := K) (a := a) (xs := rowV l)) (fun i σ H' => (∃ u v, σ = [some (.ref a), some (.int ((numTo l i : Nat) : Int)), u, v]) ∧ Same H H')
      ⟨⟨_, _, rfl⟩, Same.refl _⟩ (fun i σ H' _ ⟨_, s⟩ => s.seq ha) ?_ ?_⟩
    · rintro i x σ H1 H2 hi ⟨⟨u, v, rfl⟩, s1⟩ ⟨t, y, z, rfl, nt, rfl, ey, ez⟩
      have ey := (Option.some.inj ey).symm
      subst ey
      have hz : ∃ x, l[i]? = some x ∧ z = .int (x : Int) := by
        have ez : (rowV l)[i]? = some z := ez
        unfold rowV at ez
        rw [List.getElem?_map] at ez
        cases e : l[i]? with
        | none => rw [e] at ez; cases ez
        | some x => rw [e] at ez; exact ⟨x, rfl, (Option.some.inj ez).symm⟩
      obtain ⟨x, hx, rfl⟩ := hz
      have hi40 : i < 40 := by
        have := (List.getElem?_eq_some_iff.mp hx).1
        omega
      obtain ⟨p, hp, hpb⟩ := primes_get hi40
      have hpv : primesV[i]? = some (V.int (p : Int)) := by
        unfold primesV rowV
        rw [List.getElem?_map, hp]
        rfl
      refine ⟨t, _, rfl, SqT.of upd_same, rfl, _, _, rfl, _, _, rfl, rfl, ?_⟩
      refine ⟨_, rfl, _, rfl, aP, _, _, _, rfl, rfl, hP _, atI_nat hpv, _, rfl, p, x, rfl, hpb, _, _, rfl, rfl, .inl ⟨by unfold numTo; omega, by unfold numTo; omega⟩, _, _, rfl, rfl, (by show (0 : Int) < 18446744073709551616; decide), ?_⟩
      refine ⟨⟨some (.int (i : Int)), some (.int (x : Int)), ?_⟩, fun b o e => by rw [upd_ne (ne_of_none (s1 _ _ e) nt)]; exact s1 _ _ e⟩
      rw [numTo_succ hp hx]
      generalize p ^ x % 18446744073709551616 = y
      rw [Int.natCast_emod, Int.natCast_mul]
      rfl
    · rintro σ H' ⟨⟨u, v, rfl⟩, s⟩
      refine ⟨_, rfl, ?_⟩
      have e : numTo l (rowV l).length = prod (Rc87.primes.zip l) % 18446744073709551616 := by
        unfold numTo
        rw [List.take_of_length_le]
        rw [List.length_zip, show (rowV l).length = l.length from List.length_map _]
        exact Nat.min_le_right _ _
      rw [e]
      exact k _ s
end
end Fc
end
section
set_option Elab.async false
set_option linter.all false
set_option maxRecDepth 100000
set_option maxHeartbeats 4000000
namespace Fc
open PySem L2
/-! ### one_each: a rule that takes and gives 1 of each -/
def setAll (n : Nat) (xs : List Nat) (l : List Nat) : List Nat := xs.foldl (fun r x => r.set (n + x) 1) l
theorem setAll_len (n : Nat) : ∀ (xs l : List Nat), (setAll n xs l).length = l.length
  | [], _ => rfl
  | x :: xs, l => (setAll_len n xs (l.set (n + x) 1)).trans List.length_set
theorem setAll_snoc (n : Nat) (xs l : List Nat) (x : Nat) : setAll n (xs ++ [x]) l = (setAll n xs l).set (n + x) 1 := by
  unfold setAll
  rw [List.foldl_append]
  rfl
theorem setAll_get (n : Nat) : ∀ (xs l : List Nat) (i : Nat), i < l.length → (setAll n xs l).getD i 0 = if ∃ x ∈ xs, n + x = i then 1 else l.getD i 0
  | [], l, i, _ => by
    rw [if_neg (by rintro ⟨x, h, _⟩; cases h)]
    rfl
  | x :: xs, l, i, h => by
    have ih := setAll_get n xs (l.set (n + x) 1) i (by rw [List.length_set]; exact h)
    refine Eq.trans (show (setAll n (x :: xs) l).getD i 0 = (setAll n xs (l.set (n + x) 1)).getD i 0 from rfl) (ih.trans ?_)
    by_cases c : ∃ y ∈ xs, n + y = i
    · obtain ⟨y, hy, e⟩ := c
      rw [if_pos ⟨y, hy, e⟩, if_pos ⟨y, List.mem_cons_of_mem _ hy, e⟩]
    · rw [if_neg c]
      by_cases d : n + x = i
      · subst d
        rw [if_pos ⟨x, List.mem_cons_self, rfl⟩, List.getD_eq_getElem?_getD, List.getElem?_set_self h]
        rfl
      · rw [if_neg, List.getD_eq_getElem?_getD, List.getElem?_set_ne d, ← List.getD_eq_getElem?_getD]
        rintro ⟨y, hy, e⟩
        rcases List.mem_cons.mp hy with z | z
        · exact d (by rw [← z]; exact e)
        · exact c ⟨y, z, e⟩
def oneRow (xs ys : List Nat) : List Nat := setAll 40 ys (setAll 0 xs (List.replicate 80 0))
theorem oneRow_len (xs ys : List Nat) : (oneRow xs ys).length = 80 := by
  unfold oneRow
  rw [setAll_len, setAll_len, List.length_replicate]
theorem oneRow_take {xs ys : List Nat} {i : Nat} (hi : i < 40) : (oneRow xs ys).getD i 0 = if i ∈ xs then 1 else 0 := by
  unfold oneRow
  rw [setAll_get _ _ _ _ (by rw [setAll_len, List.length_replicate]; omega), if_neg (by rintro ⟨y, _, e⟩; omega), setAll_get _ _ _ _ (by rw [List.length_replicate]; omega)]
  by_cases c : i ∈ xs
  · rw [if_pos c, if_pos ⟨i, c, Nat.zero_add i⟩]
  · rw [if_neg c, if_neg (by rintro ⟨y, hy, e⟩; rw [Nat.zero_add] at e; rw [e] at hy; exact c hy), List.getD_eq_getElem?_getD, List.getElem?_replicate]
    split <;> rfl
theorem oneRow_give {xs ys : List Nat} (hx : ∀ x ∈ xs, x < 40) {i : Nat} (hi : i < 40) : (oneRow xs ys).getD (40 + i) 0 = if i ∈ ys then 1 else 0 := by
  unfold oneRow
  rw [setAll_get _ _ _ _ (by rw [setAll_len, List.length_replicate]; omega)]
  by_cases c : i ∈ ys
  · rw [if_pos c, if_pos ⟨i, c, rfl⟩]
  · rw [if_neg c, if_neg (by rintro ⟨y, hy, e⟩; rw [show y = i by omega] at hy; exact c hy), setAll_get _ _ _ _ (by rw [List.length_replicate]; omega),
      if_neg (by rintro ⟨y, hy, e⟩; have := hx y hy; omega), List.getD_eq_getElem?_getD, List.getElem?_replicate]
    split <;> rfl
theorem oneRow_halves {xs ys : List Nat} (hx : ∀ x ∈ xs, x < 40) : Rc87.halves (oneRow xs ys) = ⟨(List.range 40).map fun j => if j ∈ xs then 1 else 0, (List.range 40).map fun j => if j ∈ ys then 1 else 0⟩ := by
  have e : (oneRow xs ys).length / 2 = 40 := by rw [oneRow_len]
  unfold Rc87.halves Rc87.COUNTERS
  rw [e, oneRow_len]
  congr 1
  · refine List.map_congr_left fun j hj => ?_
    have hj := List.mem_range.mp hj
    rw [if_pos (by omega), oneRow_take hj]
  · refine List.map_congr_left fun j hj => ?_
    have hj := List.mem_range.mp hj
    rw [if_pos (by omega), oneRow_give hx hj]
def spOne (CU : Addr) : Sp := fun vs H Q _ => ∃ (a b : Addr) (xs ys : List Nat), vs = [.ref a, .ref b] ∧ H a = some (.lst (rowV xs)) ∧ H b = some (.lst (rowV ys)) ∧ (∀ x ∈ xs, x < 40) ∧ (∀ y ∈ ys, y < 40) ∧
  ∀ (H' : Hp) (x : Addr), Same H H' → RuAt CU (fresh H H') x (oneRow xs ys) → Q (.ref x) H'
theorem take_more' {α : Type} {l : List α} {i : Nat} {x : α} (h : l[i]? = some x) : l.take (i + 1) = l.take i ++ [x] := by
  rw [List.take_add_one, h]
  rfl
section
variable {P : Program} {w : World} {K : PySem.W.Frag} {mg : Str → Option Value} {base : Heap} {CU : Addr}
theorem rowV_len (l : List Nat) : (rowV l).length = l.length := List.length_map _
theorem rowV_get {l : List Nat} {i : Nat} {v : V} (h : (rowV l)[i]? = some v) : ∃ x, l[i]? = some x ∧ v = .int (x : Int) := by
  unfold rowV at h
  rw [List.getElem?_map] at h
  cases e : l[i]? with
  | none => rw [e] at h; cases h
  | some x => rw [e] at h; exact ⟨x, rfl, (Option.some.inj h).symm⟩
theorem scOne : FnScope ["taken", "given", "amounts", "i"] ["taken", "given"] (defScope sOneEach) := ⟨rfl, rfl, rfl, by decide +kernel, rfl, by decide +kernel, by decide +kernel⟩
theorem ok_one {f fU : Addr} {fd fdU : FuncData} (F : Fun K "one_each" "one_each" sOneEach f fd) (TU : TxtU K mg CU) (FU : Fun K "__init__" "Rule.__init__" sRuleInit fU fdU) (bU : Binds K fdU ["self", "amounts"] []) (MU : Mk K CU fU) (gU : mg "Rule" = some (.ref CU)) (hC : ∃ t, mg "COUNTERS" = some (.int 40 t)) :
    FnOk P w K mg base CX0 3 f fd ["taken", "given"] (spOne CU) := by
  have GU : FnOk P w K mg base CX0 1 fU fdU ["self", "amounts"] (spUInit K CU) := ok_uinit FU TU
  obtain ⟨tC, mC⟩ := hC
  refine F.ok scOne (fun vs H Q E h => ?_) (fun cdv A outer s H vs Q E hr h => ?_)
  · obtain ⟨a, b, xs, ys, rfl, _⟩ := h
    rfl
  · obtain ⟨a, b, xs, ys, rfl, ha, hb, hx, hy, k⟩ := h
    refine ⟨_, pss_cons (ps_set (i := 2) scOne.nd rfl (Or.inl rfl) (pe_op op_rep (pe_lst (pa_cons pe_int pa_nil)) (pe_op op_mul pe_int (pe_glob (v := .int 40) rfl mC ⟨_, rfl⟩))))
      (pss_cons (ps_for PassesOwn.never rfl (pi_list (pv 0)) (pg_name (i := 3) scOne.nd rfl (Or.inl rfl)) (pss_one (ps_asg pe_int (pg_sub (pv 2) (pv 3) set_list))))
      (pss_cons (ps_for PassesOwn.never rfl (pi_list (pv 1)) (pg_name (i := 3) scOne.nd rfl (Or.inl rfl)) (pss_one (ps_asg pe_int (pg_sub (pv 2) (pe_op op_add (pe_glob (v := .int 40) rfl mC ⟨_, rfl⟩) (pv 3)) set_list))))
      (pss_one (ps_ret (pe_make MU GU hr rfl gU bU .nil pass0 (pa_cons (pv 2) pa_nil)))))), ?_⟩
    refine ⟨by show 1 ≤ sizeLine; decide, fun q nq => ⟨_, _, rfl, rfl, .inl ⟨by decide, by decide⟩, q, 80, _, rfl, rfl, upd_same, by decide, by decide, by show 1 * 80 ≤ sizeLine; decide, fun c nc => ?_⟩⟩
    have nqc : q ≠ c := ne_of_none upd_same nc
    have c0 : H c = none := by
      rw [upd_ne (Ne.symm nqc)] at nc
      exact nc
    have z0 : (List.replicate (80 : Int).toNat [V.int 0]).flatten = rowV (setAll 0 (xs.take 0) (List.replicate 80 0)) := rfl
    rw [z0]
    generalize hH1 : upd H q (.lst [.int 0]) = H1 at nc ⊢
    have s1 : Same H H1 := fun b o e => by rw [← hH1, upd_ne (ne_of_none e nq)]; exact e
    have ac : a ≠ c := ne_of_none ha c0
    have bc : b ≠ c := ne_of_none hb c0
    have inv : ∀ {H' : Hp}, But c H1 H' → Same H H' := fun B b o e => B _ _ (s1 _ _ e) (ne_of_none e c0)
    refine ⟨_, rfl, a, rfl, ⟨_, SqL.of (by rw [upd_ne ac]; exact s1 _ _ ha)⟩, for_list (K := K) (a := a) (xs := rowV xs) (fun i σ H' => (∃ u, σ = [some (.ref a), some (.ref b), some (.ref c), u]) ∧ But c H1 H' ∧ H' c = some (.lst (rowV (setAll 0 (xs.take i) (List.replicate 80 0)))))
      ⟨⟨_, rfl⟩, (But.refl c H1).upd, upd_same⟩ (fun i σ H' _ ⟨_, B, _⟩ => SqL.of (inv B _ _ ha)) ?_ ?_⟩
    · rintro i x σ H' hi ⟨⟨u, rfl⟩, B, hc⟩
      obtain ⟨x, hx1, rfl⟩ := rowV_get hi
      have x40 := hx x (List.mem_of_getElem? hx1)
      refine ⟨_, rfl, _, rfl, c, _, _, x, rfl, rfl, hc, Evl.ixN_nat (by rw [rowV_len, setAll_len, List.length_replicate]; omega), ⟨_, rfl⟩, B.upd, ?_⟩
      rw [upd_same, take_more' hx1, setAll_snoc, Nat.zero_add]
      unfold rowV
      rw [List.map_set]
      rfl
    · rintro σ H2 ⟨⟨u, rfl⟩, B2, hc2⟩
      rw [rowV_len, List.take_length] at hc2
      refine ⟨_, rfl, b, rfl, ⟨_, SqL.of (inv B2 _ _ hb)⟩, for_list (K := K) (a := b) (xs := rowV ys) (fun i σ H' => (∃ u, σ = [some (.ref a), some (.ref b), some (.ref c), u]) ∧ But c H1 H' ∧ H' c = some (.lst (rowV (setAll 40 (ys.take i) (setAll 0 xs (List.replicate 80 0))))))
        ⟨⟨_, rfl⟩, B2, hc2⟩ (fun i σ H' _ ⟨_, B, _⟩ => SqL.of (inv B _ _ hb)) ?_ ?_⟩
      · rintro i x σ H' hi ⟨⟨u, rfl⟩, B, hc⟩
        obtain ⟨x, hx1, rfl⟩ := rowV_get hi
        have x40 := hy x (List.mem_of_getElem? hx1)
        refine ⟨_, rfl, _, rfl, _, _, rfl, rfl, c, _, _, 40 + x, rfl, rfl, hc, ?_, ⟨_, rfl⟩, B.upd, ?_⟩
        · have e : ((40 : Int) + (x : Int)) = ((40 + x : Nat) : Int) := by omega
          rw [e]
          exact Evl.ixN_nat (by rw [rowV_len, setAll_len, setAll_len, List.length_replicate]; omega)
        rw [upd_same, take_more' hx1, setAll_snoc]
        unfold rowV
        rw [List.map_set]
        rfl
      · rintro σ H3 ⟨⟨u, rfl⟩, B3, hc3⟩
        rw [rowV_len, List.take_length] at hc3
        refine ⟨_, rfl, fun x du nx nd ne => ?_⟩
        have s3 := inv B3
        have up : Same H3 (upd (upd H3 du (.own x)) x (.ins CU du [])) := fun b o e => by
          rw [upd_ne (ne_of_none e nx), upd_ne (ne_of_none e nd)]
          exact e
        have x0 : H x = none := s3.free nx
        refine ⟨H, x, du, c, oneRow xs ys, rfl, s3.trans up, x0, upd_same, up _ _ hc3, by rw [oneRow_len]; exact Nat.le_refl _, by rw [oneRow_len], fun H4 RU B4 => ?_⟩
        exact ⟨rfl, k _ _ (fun b o e => B4 b o (up _ _ (s3 _ _ e)) (ne_of_none e x0)) RU⟩
end
end Fc
end
section
set_option Elab.async false
set_option linter.all false
set_option maxRecDepth 100000
set_option maxHeartbeats 4000000
namespace Fc
open PySem L2
/-! ### Instruction -/
instance (n : Nat) (q : Q4) : Decidable (okQ n q) := by unfold okQ; infer_instance
def q4V (q : Q4) : List V := [.int (q.a : Int), .int (q.r : Int), .int (q.j : Int), .int (q.k : Int)]
structure TxtI (K : PySem.W.Frag) (mg : Str → Option Value) (CI : Addr) : Prop where
  cl : Cls K CI
  nK : NoAttr K CI "kind"
  nC : NoAttr K CI "counter"
  nT : NoAttr K CI "then"
  nO : NoAttr K CI "otherwise"
  len : mg "len" = none
  range : mg "range" = none
  enum : mg "enumerate" = none
  all : mg "all" = none
  cStop : ∃ t, mg "STOP" = some (.int 0 t)
  cMore : ∃ t, mg "ONE_MORE" = some (.int 1 t)
  cLess : ∃ t, mg "ONE_LESS" = some (.int 2 t)
  cRegs : ∃ t, mg "REGISTERS" = some (.int 8 t)
  cNow : ∃ t, mg "NOW" = some (.int 8 t)
  cSoon : ∃ t, mg "SOON" = some (.int 24 t)
  cBytes : ∃ t, mg "BYTES" = some (.int 4 t)
theorem inF_kind (q : Q4) : (inF q).lookup ("kind" : Str) = some (.int (q.a : Int)) := lk_here
theorem inF_counter (q : Q4) : (inF q).lookup ("counter" : Str) = some (.int (q.r : Int)) := (lk_past (by decide +kernel)).trans lk_here
theorem inF_then (q : Q4) : (inF q).lookup ("then" : Str) = some (.int (q.j : Int)) := (lk_past (by decide +kernel)).trans ((lk_past (by decide +kernel)).trans lk_here)
theorem inF_other (q : Q4) : (inF q).lookup ("otherwise" : Str) = some (.int (q.k : Int)) := (lk_past (by decide +kernel)).trans ((lk_past (by decide +kernel)).trans ((lk_past (by decide +kernel)).trans lk_here))
theorem inF_no (q : Q4) {s : Str} (h1 : (s == "kind") = false) (h2 : (s == "counter") = false) (h3 : (s == "then") = false) (h4 : (s == "otherwise") = false) : (inF q).lookup s = none := (lk_past h1).trans ((lk_past h2).trans ((lk_past h3).trans ((lk_past h4).trans rfl)))
theorem inF_new (q : Q4) : putF "otherwise" (.int (q.k : Int)) (putF "then" (.int (q.j : Int)) (putF "counter" (.int (q.r : Int)) (putF "kind" (.int (q.a : Int)) []))) = inF q := by
  have e1 : putF "counter" (.int (q.r : Int)) (putF "kind" (.int (q.a : Int)) []) = ([("kind", .int (q.a : Int)), ("counter", .int (q.r : Int))] : List (Str × V)) := (put_past (by decide +kernel)).trans rfl
  have e2 : putF "then" (.int (q.j : Int)) ([("kind", .int (q.a : Int)), ("counter", .int (q.r : Int))] : List (Str × V)) = ([("kind", .int (q.a : Int)), ("counter", .int (q.r : Int)), ("then", .int (q.j : Int))] : List (Str × V)) := (put_past (by decide +kernel)).trans (congrArg _ ((put_past (by decide +kernel)).trans rfl))
  rw [e1, e2]
  exact (put_past (by decide +kernel)).trans (congrArg _ ((put_past (by decide +kernel)).trans (congrArg _ ((put_past (by decide +kernel)).trans rfl))))
def spInInit (CI : Addr) : Sp := fun vs H Q _ => ∃ (p dx a : Addr) (q : Q4), vs = [.ref p, .ref a] ∧ H p = some (.ins CI dx []) ∧ H a = some (.lst (q4V q)) ∧
  ∀ H' : Hp, InAt CI H' p q → But p H H' → Q .non H'
def spInIs (CI : Addr) : Sp := fun vs H Q _ => ∃ (p : Addr) (q : Q4) (n : Nat), vs = [.ref p, .int (n : Int)] ∧ InAt CI H p q ∧ Q (.bl (decide (okQ n q))) H
def rowsAt (q : Q4) (i : Nat) : List (List Nat) := if q.a = 0 then [] else if q.a = 1 then [oneRow [8 + i] [q.r, 24 + q.j]] else [oneRow [q.r, 8 + i] [24 + q.j], oneRow [8 + i] [24 + q.k]]
def spRulesAt (CI CU : Addr) : Sp := fun vs H Q _ => ∃ (p : Addr) (q : Q4) (n i : Nat), vs = [.ref p, .int (i : Int)] ∧ InAt CI H p q ∧ i < 16 ∧ n ≤ 16 ∧ okQ n q ∧
  ∀ (H' : Hp) (x : Addr) (rv : List V), Same H H' → H x = none → H' x = some (.lst rv) → Rules CU (hide x (fresh H H')) rv (rowsAt q i) → Q (.ref x) H'
theorem fresh_hide {H Hb H1 : Hp} {D : Addr} {o : HO} (s : Same H Hb) (nD : H1 D = none) : Same (fresh Hb H1) (hide D (fresh H (upd H1 D o))) := fun b u e => by
  obtain ⟨h1, h2⟩ := fresh_some e
  have n : b ≠ D := ne_of_none h2 nD
  rw [hide_at n, fresh_at (s.free h1), upd_ne n]
  exact h2
theorem Same.new {H : Hp} {p : Addr} {o : HO} (h : H p = none) : Same H (upd H p o) := fun b u e => by
  rw [upd_ne (ne_of_none e h)]
  exact e
section
variable {P : Program} {w : World} {K : PySem.W.Frag} {mg : Str → Option Value} {base : Heap} {CI CU : Addr}
theorem scInInit : FnScope ["self", "told"] ["self", "told"] (defScope sInInit) := ⟨rfl, rfl, rfl, by decide +kernel, rfl, by decide +kernel, by decide +kernel⟩
theorem ok_ininit {f : Addr} {fd : FuncData} (F : Fun K "__init__" "Instruction.__init__" sInInit f fd) (T : TxtI K mg CI) : FnOk P w K mg base CX0 1 f fd ["self", "told"] (spInInit CI) := by
  refine F.ok scInInit (fun vs H Q E h => ?_) (fun cdv A outer s H vs Q E hr h => ?_)
  · obtain ⟨p, dx, a, q, rfl, _⟩ := h
    rfl
  · obtain ⟨p, dx, a, q, rfl, hp, ha, k⟩ := h
    refine ⟨_, pss_cons (ps_fld (pv 0) (pe_ix (ixK K) (pv 1) pe_int (fun _ _ => rfl)) rfl) (pss_cons (ps_fld (pv 0) (pe_ix (ixK K) (pv 1) pe_int (fun _ _ => rfl)) rfl)
      (pss_cons (ps_fld (pv 0) (pe_ix (ixK K) (pv 1) pe_int (fun _ _ => rfl)) rfl) (pss_one (ps_fld (pv 0) (pe_ix (ixK K) (pv 1) pe_int (fun _ _ => rfl)) rfl)))), ?_⟩
    have n : a ≠ p := ne_of ha hp (by intro z; cases z)
    have up : ∀ {G : Hp} {o : HO}, G a = some (.lst (q4V q)) → (upd G p o) a = some (.lst (q4V q)) := fun h => by rw [upd_ne n]; exact h
    refine ⟨_, rfl, a, _, _, _, rfl, rfl, SqL.of ha, rfl, _, rfl, p, CI, dx, _, rfl, hp, T.cl, T.nK, (by show 0 < 1000; decide), ?_⟩
    refine ⟨_, rfl, a, _, _, _, rfl, rfl, SqL.of (up ha), rfl, _, rfl, p, CI, dx, _, rfl, upd_same, T.cl, T.nC, (by show 1 < 1000; decide), ?_⟩
    refine ⟨_, rfl, a, _, _, _, rfl, rfl, SqL.of (up (up ha)), rfl, _, rfl, p, CI, dx, _, rfl, upd_same, T.cl, T.nT, (by show 2 < 1000; decide), ?_⟩
    refine ⟨_, rfl, a, _, _, _, rfl, rfl, SqL.of (up (up (up ha))), rfl, _, rfl, p, CI, dx, _, rfl, upd_same, T.cl, T.nO, (by show 3 < 1000; decide), ?_⟩
    exact k _ ⟨dx, Eq.trans upd_same (congrArg (fun z => some (HO.ins CI dx z)) (inF_new q))⟩ (But.refl p H).upd.upd.upd.upd
theorem scInIs : FnScope ["self", "length"] ["self", "length"] (defScope sInIs) := ⟨rfl, rfl, rfl, by decide +kernel, rfl, by decide +kernel, by decide +kernel⟩
theorem ok_inis {f : Addr} {fd : FuncData} (F : Fun K "is_one_of" "Instruction.is_one_of" sInIs f fd) (T : TxtI K mg CI) : FnOk P w K mg base CX0 1 f fd ["self", "length"] (spInIs CI) := by
  obtain ⟨t0, m0⟩ := T.cStop
  obtain ⟨t1, m1⟩ := T.cMore
  obtain ⟨t2, m2⟩ := T.cLess
  obtain ⟨t8, m8⟩ := T.cRegs
  refine F.ok scInIs (fun vs H Q E h => ?_) (fun cdv A outer s H vs Q E hr h => ?_)
  · obtain ⟨p, q, n, rfl, _⟩ := h
    rfl
  · obtain ⟨p, q, n, rfl, ⟨dx, hp⟩, k⟩ := h
    refine ⟨_, pss_cons (ps_if (pt_cmpR op_eq (pe_fld (pv 0) rfl) (pe_glob (v := .int 0) rfl m0 ⟨_, rfl⟩) (nomark _)) (pss_one (ps_ret pe_bl)) pss_nil)
      (pss_cons (ps_if (PW.pt (pw_or (pt_cmpR op_gt (pe_fld (pv 0) rfl) (pe_glob (v := .int 2) rfl m2 ⟨_, rfl⟩) (nomark _)) (pw_or (pt_cmpR op_ge (pe_fld (pv 0) rfl) (pe_glob (v := .int 8) rfl m8 ⟨_, rfl⟩) (nomark _)) (pw_or1 (pt_cmpR op_ge (pe_fld (pv 0) rfl) (pv 1) (nomark _)))))) (pss_one (ps_ret pe_bl)) pss_nil)
      (pss_one (ps_ret (pe_or (pe_cmpR op_eq (pe_fld (pv 0) rfl) (pe_glob (v := .int 1) rfl m1 ⟨_, rfl⟩) (nomark _)) (pe_one (pe_cmpR op_lt (pe_fld (pv 0) rfl) (pv 1) (nomark _))))))), ?_⟩
    have yes : okQ n q → Q (.bl true) H := fun h => by
      rw [decide_eq_true h] at k
      exact k
    have no : ¬ okQ n q → Q (.bl false) H := fun h => by
      rw [decide_eq_false h] at k
      exact k
    refine ⟨_, rfl, p, CI, dx, _, _, rfl, hp, T.cl, T.nK, inF_kind q, rfl, _, rfl, ?_⟩
    refine ite2 (fun c => ?_) (fun c => ?_)
    · have c : q.a = 0 := by
        have y := of_decide_eq_true c
        injection y with y
        omega
      exact yes (.inl c)
    have c0 : q.a ≠ 0 := fun y => c (decide_eq_true (congrArg V.int (by omega)))
    refine ⟨_, rfl, p, CI, dx, _, _, rfl, hp, T.cl, T.nK, inF_kind q, _, _, rfl, rfl, _, rfl, ?_⟩
    refine ite2 (fun c => ?_) (fun c => ?_)
    · have c : (2 : Int) < (q.a : Int) := of_decide_eq_true c
      refine no fun z => ?_
      rcases z with z | ⟨_, _, z | z⟩ <;> omega
    have c2 : ¬ (2 : Int) < (q.a : Int) := fun z => c (decide_eq_true z)
    refine ⟨_, rfl, p, CI, dx, _, _, rfl, hp, T.cl, T.nC, inF_counter q, _, _, rfl, rfl, _, rfl, ?_⟩
    refine ite2 (fun c => ?_) (fun c => ?_)
    · have c : (8 : Int) ≤ (q.r : Int) := of_decide_eq_true c
      refine no fun z => ?_
      rcases z with z | ⟨z1, _, _⟩ <;> omega
    have c8 : ¬ (8 : Int) ≤ (q.r : Int) := fun z => c (decide_eq_true z)
    refine ⟨_, rfl, p, CI, dx, _, _, rfl, hp, T.cl, T.nT, inF_then q, _, rfl, _, _, rfl, rfl, _, rfl, ?_⟩
    refine ite2 (fun c => ?_) (fun c => ?_)
    · have c : (n : Int) ≤ (q.j : Int) := of_decide_eq_true c
      refine no fun z => ?_
      rcases z with z | ⟨_, z2, _⟩ <;> omega
    have cn : ¬ (n : Int) ≤ (q.j : Int) := fun z => c (decide_eq_true z)
    refine ⟨_, rfl, p, CI, dx, _, _, rfl, hp, T.cl, T.nK, inF_kind q, rfl, _, rfl, ?_⟩
    refine ite2 (fun c => ?_) (fun c => ?_)
    · have c : q.a = 1 := by
        have y := of_decide_eq_true c
        injection y with y
        omega
      exact yes (.inr ⟨by omega, by omega, .inl c⟩)
    have c1 : q.a ≠ 1 := fun y => c (decide_eq_true (congrArg V.int (by omega)))
    refine ⟨_, rfl, p, CI, dx, _, _, rfl, hp, T.cl, T.nO, inF_other q, _, rfl, _, _, rfl, rfl, ?_⟩
    show Q (.bl (decide ((q.k : Int) < (n : Int)))) H
    by_cases d : q.k < n
    · rw [decide_eq_true (show (q.k : Int) < (n : Int) by omega)]
      exact yes (.inr ⟨by omega, by omega, .inr ⟨by omega, d⟩⟩)
    · rw [decide_eq_false (show ¬ (q.k : Int) < (n : Int) by omega)]
      refine no fun z => ?_
      rcases z with z | ⟨_, _, z | ⟨_, z⟩⟩ <;> omega
theorem scInRules : FnScope ["self", "i", "now", "then"] ["self", "i"] (defScope sInRules) := ⟨rfl, rfl, rfl, by decide +kernel, rfl, by decide +kernel, by decide +kernel⟩
theorem ok_inrules {f fO : Addr} {fd fdO : FuncData} (F : Fun K "rules_at" "Instruction.rules_at" sInRules f fd) (T : TxtI K mg CI) (GO : FnOk P w K mg base CX0 3 fO fdO ["taken", "given"] (spOne CU)) (bO : Binds K fdO ["taken", "given"] []) (gO : mg "one_each" = some (.ref fO)) (kO : PySem.W.keepIn K (.ref fO) = true) :
    FnOk P w K mg base CX0 4 f fd ["self", "i"] (spRulesAt CI CU) := by
  obtain ⟨t0, m0⟩ := T.cStop
  obtain ⟨t1, m1⟩ := T.cMore
  obtain ⟨t8, m8⟩ := T.cNow
  obtain ⟨t24, m24⟩ := T.cSoon
  refine F.ok scInRules (fun vs H Q E h => ?_) (fun cdv A outer s H vs Q E hr h => ?_)
  · obtain ⟨p, q, n, i, rfl, _⟩ := h
    rfl
  · obtain ⟨p, q, n, i, rfl, ⟨dx, hp⟩, hi, hn, ok, k⟩ := h
    refine ⟨_, pss_cons (ps_set (i := 2) scInRules.nd rfl (Or.inl rfl) (pe_op op_add (pe_glob (v := .int 8) rfl m8 ⟨_, rfl⟩) (pv 1)))
      (pss_cons (ps_set (i := 3) scInRules.nd rfl (Or.inl rfl) (pe_op op_add (pe_glob (v := .int 24) rfl m24 ⟨_, rfl⟩) (pe_fld (pv 0) rfl)))
      (pss_cons (ps_if (pt_cmpR op_eq (pe_fld (pv 0) rfl) (pe_glob (v := .int 0) rfl m0 ⟨_, rfl⟩) (nomark _)) (pss_one (ps_ret (pe_lst pa_nil))) pss_nil)
      (pss_cons (ps_if (pt_cmpR op_eq (pe_fld (pv 0) rfl) (pe_glob (v := .int 1) rfl m1 ⟨_, rfl⟩) (nomark _))
        (pss_one (ps_ret (pe_lst (pa_cons (pe_call GO hr rfl gO kO bO .nil pass0 (pa_cons (pe_lst (pa_cons (pv 2) pa_nil)) (pa_cons (pe_lst (pa_cons (pe_fld (pv 0) rfl) (pa_cons (pv 3) pa_nil))) pa_nil))) pa_nil)))) pss_nil)
      (pss_one (ps_ret (pe_lst (pa_cons (pe_call GO hr rfl gO kO bO .nil pass0 (pa_cons (pe_lst (pa_cons (pe_fld (pv 0) rfl) (pa_cons (pv 2) pa_nil))) (pa_cons (pe_lst (pa_cons (pv 3) pa_nil)) pa_nil)))
        (pa_cons (pe_call GO hr rfl gO kO bO .nil pass0 (pa_cons (pe_lst (pa_cons (pv 2) pa_nil)) (pa_cons (pe_lst (pa_cons (pe_op op_add (pe_glob (v := .int 24) rfl m24 ⟨_, rfl⟩) (pe_fld (pv 0) rfl)) pa_nil)) pa_nil))) pa_nil)))))))), ?_⟩
    refine ⟨_, rfl, _, _, rfl, rfl, ?_⟩
    refine ⟨_, rfl, p, CI, dx, _, _, rfl, hp, T.cl, T.nT, inF_then q, _, _, rfl, rfl, ?_⟩
    refine ⟨_, rfl, p, CI, dx, _, _, rfl, hp, T.cl, T.nK, inF_kind q, rfl, _, rfl, ?_⟩
    refine ite2 (fun c => ?_) (fun c => ?_)
    · have c : q.a = 0 := by
        have y := of_decide_eq_true c
        injection y with y
        omega
      refine ⟨Nat.zero_le _, fun D nD => ?_⟩
      refine k _ D [] (Same.new nD) nD upd_same ?_
      have e : rowsAt q i = [] := if_pos c
      rw [e]
      trivial
    have c0 : q.a ≠ 0 := fun y => c (decide_eq_true (congrArg V.int (by omega)))
    obtain ⟨hr8, hjn, ok⟩ : q.r < 8 ∧ q.j < n ∧ (q.a = 1 ∨ (q.a = 2 ∧ q.k < n)) := by
      rcases ok with z | z
      · exact absurd z c0
      · exact z
    refine ⟨_, rfl, p, CI, dx, _, _, rfl, hp, T.cl, T.nK, inF_kind q, rfl, _, rfl, ?_⟩
    refine ite2 (fun c => ?_) (fun c => ?_)
    · have c : q.a = 1 := by
        have y := of_decide_eq_true c
        injection y with y
        omega
      have e : rowsAt q i = [oneRow [8 + i] [q.r, 24 + q.j]] := (if_neg c0).trans (if_pos c)
      rw [e] at k
      refine ⟨_, rfl, by show 1 ≤ sizeLine; decide, fun u1 n1 => ?_⟩
      have s1 := Same.new (o := .lst [.int ((8 : Int) + (i : Int))]) n1
      refine ⟨_, rfl, p, CI, dx, _, _, rfl, s1 _ _ hp, T.cl, T.nC, inF_counter q, _, rfl, by show 2 ≤ sizeLine; decide, fun u2 n2 => ?_⟩
      have s2 := Same.new (o := .lst [.int (q.r : Int), .int ((24 : Int) + (q.j : Int))]) n2
      refine ⟨u1, u2, [8 + i], [q.r, 24 + q.j], rfl, s2 _ _ (upd_same.trans ?_), upd_same.trans ?_, ?_, ?_, fun H1 x sx RU => ?_⟩
      · exact congrArg (fun z : Int => some (HO.lst [V.int z])) (by omega)
      · exact congrArg (fun z : Int => some (HO.lst [V.int (q.r : Int), V.int z])) (by omega)
      · intro y hy
        rw [List.mem_singleton.mp hy]
        omega
      · intro y hy
        rcases List.mem_cons.mp hy with z | z
        · omega
        · rw [List.mem_singleton.mp z]
          omega
      have s3 := (s1.trans s2).trans sx
      refine ⟨by show 1 ≤ sizeLine; decide, fun D nD => ?_⟩
      exact k _ D _ (s3.trans (Same.new nD)) (s3.free nD) upd_same ⟨⟨x, rfl, RU.mono (fresh_hide (s1.trans s2) nD), by rw [oneRow_len]; exact Nat.le_refl _, by rw [oneRow_len]⟩, trivial⟩
    have c1 : q.a ≠ 1 := fun y => c (decide_eq_true (congrArg V.int (by omega)))
    have hk : q.k < n := by
      rcases ok with z | z
      · exact absurd z c1
      · exact z.2
    have e : rowsAt q i = [oneRow [q.r, 8 + i] [24 + q.j], oneRow [8 + i] [24 + q.k]] := (if_neg c0).trans (if_neg c1)
    rw [e] at k
    refine ⟨_, rfl, p, CI, dx, _, _, rfl, hp, T.cl, T.nC, inF_counter q, _, rfl, by show 2 ≤ sizeLine; decide, fun u1 n1 => ?_⟩
    have s1 := Same.new (o := .lst [.int (q.r : Int), .int ((8 : Int) + (i : Int))]) n1
    refine ⟨_, rfl, by show 1 ≤ sizeLine; decide, fun u2 n2 => ?_⟩
    have s2 := Same.new (o := .lst [.int ((24 : Int) + (q.j : Int))]) n2
    refine ⟨u1, u2, [q.r, 8 + i], [24 + q.j], rfl, s2 _ _ (upd_same.trans ?_), upd_same.trans ?_, ?_, ?_, fun H1 x sx RU => ?_⟩
    · exact congrArg (fun z : Int => some (HO.lst [V.int (q.r : Int), V.int z])) (by omega)
    · exact congrArg (fun z : Int => some (HO.lst [V.int z])) (by omega)
    · intro y hy
      rcases List.mem_cons.mp hy with z | z
      · omega
      · rw [List.mem_singleton.mp z]
        omega
    · intro y hy
      rw [List.mem_singleton.mp hy]
      omega
    have s3 := (s1.trans s2).trans sx
    refine ⟨_, rfl, by show 1 ≤ sizeLine; decide, fun u3 n3 => ?_⟩
    have s4 := Same.new (o := .lst [.int ((8 : Int) + (i : Int))]) n3
    refine ⟨_, rfl, p, CI, dx, _, _, rfl, s4 _ _ (s3 _ _ hp), T.cl, T.nO, inF_other q, _, _, rfl, rfl, by show 1 ≤ sizeLine; decide, fun u4 n4 => ?_⟩
    have s5 := Same.new (o := .lst [.int ((24 : Int) + (q.k : Int))]) n4
    refine ⟨u3, u4, [8 + i], [24 + q.k], rfl, s5 _ _ (upd_same.trans ?_), upd_same.trans ?_, ?_, ?_, fun H2 y sy RV => ?_⟩
    · exact congrArg (fun z : Int => some (HO.lst [V.int z])) (by omega)
    · exact congrArg (fun z : Int => some (HO.lst [V.int z])) (by omega)
    · intro y hy
      rw [List.mem_singleton.mp hy]
      omega
    · intro y hy
      rw [List.mem_singleton.mp hy]
      omega
    have s6 := (s4.trans s5).trans sy
    refine ⟨by show 2 ≤ sizeLine; decide, fun D nD => ?_⟩
    refine k _ D _ ((s3.trans s6).trans (Same.new nD)) (s3.free (s6.free nD)) upd_same ⟨⟨x, rfl, (RU.mono (fresh_mono s6)).mono (fresh_hide (s1.trans s2) nD), by rw [oneRow_len]; exact Nat.le_refl _, by rw [oneRow_len]⟩,
      ⟨y, rfl, RV.mono (fresh_hide (s3.trans (s4.trans s5)) nD), by rw [oneRow_len]; exact Nat.le_refl _, by rw [oneRow_len]⟩, trivial⟩
end
end Fc
end
section
set_option Elab.async false
set_option linter.all false
set_option maxRecDepth 100000
set_option maxHeartbeats 4000000
namespace Fc
open PySem L2
/-! ### instructions_of, are_code, rules_of -/
def q4 (l : List Nat) (i : Nat) : Q4 := ⟨l.getD (4 * i) 0, l.getD (4 * i + 1) 0, l.getD (4 * i + 2) 0, l.getD (4 * i + 3) 0⟩
def qsOf (l : List Nat) (n : Nat) : List Q4 := (List.range n).map (q4 l)
theorem qsOf_succ (l : List Nat) (n : Nat) : qsOf l (n + 1) = qsOf l n ++ [q4 l n] := by
  unfold qsOf
  rw [List.range_succ, List.map_append]
  rfl
theorem qsOf_len (l : List Nat) (n : Nat) : (qsOf l n).length = n := by
  unfold qsOf
  rw [List.length_map, List.length_range]
theorem rgC4 {n : Nat} (h : n ≤ 16) : RgC 0 ((4 * n : Nat) : Int) 4 n := by
  refine ⟨by decide, by decide, ?_, ?_⟩
  · have : ∀ m, m < 17 → Builtin.Range.small 0 ((4 * m : Nat) : Int) 4 = true := by decide +kernel
    exact this n (by omega)
  · have : ∀ m, m < 17 → Builtin.Range.rangeSize 0 ((4 * m : Nat) : Int) 4 = (m : Int) := by decide +kernel
    exact this n (by omega)
theorem cut4 {l : List Nat} {i n : Nat} (hl : l.length = 4 * n) (hi : i < n) : cutV (rowV l) (some ((4 * i : Nat) : Int)) (some ((4 * i + 4 : Nat) : Int)) = q4V (q4 l i) := by
  have e : cutV (rowV l) (some ((4 * i : Nat) : Int)) (some ((4 * i + 4 : Nat) : Int)) = ((rowV l).drop (4 * i)).take 4 := by
    unfold cutV
    have rl : (rowV l).length = 4 * n := (rowV_len l).trans hl
    rw [HT.sIx_nat, HT.sIx_nat, rl, Nat.min_eq_left (by omega), Nat.min_eq_left (by omega), Nat.add_sub_cancel_left]
  rw [e]
  refine List.ext_getElem? fun j => ?_
  by_cases hj : j < 4
  · rw [List.getElem?_take_of_lt hj, List.getElem?_drop]
    have g : (rowV l)[4 * i + j]? = some (V.int ((l.getD (4 * i + j) 0 : Nat) : Int)) := by
      unfold rowV
      rw [List.getElem?_map, List.getElem?_eq_getElem (by omega), List.getD_eq_getElem?_getD, List.getElem?_eq_getElem (by omega)]
      rfl
    rw [g]
    rcases (by omega : j = 0 ∨ j = 1 ∨ j = 2 ∨ j = 3) with rfl | rfl | rfl | rfl <;> rfl
  · rw [List.getElem?_eq_none (by rw [List.length_take]; omega), List.getElem?_eq_none (by show 4 ≤ j; omega)]
/-- made so far, all of it new, in the list at D -/
structure MadeQ (CI : Addr) (H : Hp) (D : Addr) (qs : List Q4) (H' : Hp) : Prop where
  nD : H D = none
  s : Same H H'
  ok : ∃ vs, H' D = some (.lst vs) ∧ Each (InAt CI (hide D (fresh H H'))) vs qs
def spInsOf (CI : Addr) : Sp := fun vs H Q _ => ∃ (a : Addr) (l : List Nat) (n : Nat), vs = [.ref a] ∧ H a = some (.lst (rowV l)) ∧ l.length = 4 * n ∧ n ≤ 16 ∧
  ∀ (H' : Hp) (x : Addr), MadeQ CI H x (qsOf l n) H' → Q (.ref x) H'
def spAreCode (CI : Addr) : Sp := fun vs H Q _ => ∃ (a : Addr) (ivs : List V) (qs : List Q4), vs = [.ref a] ∧ H a = some (.lst ivs) ∧ Each (InAt CI H) ivs qs ∧ qs.length ≤ 16 ∧
  ∀ (H' : Hp), Same H H' → Q (.bl (qs.all fun q => decide (okQ qs.length q))) H'
/-- the rules of the first so many instructions -/
def rowsTo (qs : List Q4) (n : Nat) : List (List Nat) := (qs.take n).zipIdx.flatMap fun x => rowsAt x.1 x.2
def rowsBack (n : Nat) : List (List Nat) := (List.range n).map fun i => oneRow [24 + i] [8 + i]
theorem rowsTo_succ {qs : List Q4} {n : Nat} {q : Q4} (h : qs[n]? = some q) : rowsTo qs (n + 1) = rowsTo qs n ++ rowsAt q n := by
  have hn : n < qs.length := (List.getElem?_eq_some_iff.mp h).1
  have e : qs.take (n + 1) = qs.take n ++ [q] := by
    rw [List.take_add_one, h]
    rfl
  unfold rowsTo
  rw [e, List.zipIdx_append, List.flatMap_append]
  congr 1
  rw [List.length_take, Nat.min_eq_left (Nat.le_of_lt hn), Nat.zero_add]
  show rowsAt q n ++ [] = rowsAt q n
  exact List.append_nil _
theorem rowsBack_succ (n : Nat) : rowsBack (n + 1) = rowsBack n ++ [oneRow [24 + n] [8 + n]] := by
  unfold rowsBack
  rw [List.range_succ, List.map_append]
  rfl
theorem rowsAt_len (q : Q4) (i : Nat) : (rowsAt q i).length ≤ 2 := by
  unfold rowsAt
  split
  · exact Nat.zero_le _
  · split
    · exact Nat.le_succ 1
    · exact Nat.le_refl 2
theorem rowsTo_len (qs : List Q4) : ∀ n, n ≤ qs.length → (rowsTo qs n).length ≤ 2 * n
  | 0, _ => Nat.le_refl _
  | n + 1, h => by
    have ih := rowsTo_len qs n (by omega)
    rw [rowsTo_succ (List.getElem?_eq_getElem (show n < qs.length by omega)), List.length_append]
    have := rowsAt_len (qs[n]'(by omega)) n
    omega
theorem rowsBack_len (n : Nat) : (rowsBack n).length = n := by
  unfold rowsBack
  rw [List.length_map, List.length_range]
structure MadeR (CU : Addr) (H : Hp) (D : Addr) (rs : List (List Nat)) (H' : Hp) : Prop where
  nD : H D = none
  s : Same H H'
  ok : ∃ vs, H' D = some (.lst vs) ∧ Rules CU (hide D (fresh H H')) vs rs
theorem MadeR.start {CU : Addr} {H : Hp} {D : Addr} (h : H D = none) : MadeR CU H D [] (upd H D (.lst [])) := ⟨h, Same.new h, [], upd_same, trivial⟩
/-- what else is new doesn't matter -/
theorem MadeR.ext {CU : Addr} {H H' H2 : Hp} {D : Addr} {rs : List (List Nat)} (M : MadeR CU H D rs H') (s : Same H' H2) : MadeR CU H D rs H2 := by
  obtain ⟨nD, s1, vs, h1, h2⟩ := M
  exact ⟨nD, s1.trans s, vs, s _ _ h1, h2.mono (hide_mono (fresh_mono s))⟩
def spRulesOf (CI CU : Addr) : Sp := fun vs H Q _ => ∃ (a : Addr) (ivs : List V) (qs : List Q4), vs = [.ref a] ∧ H a = some (.lst ivs) ∧ Each (InAt CI H) ivs qs ∧ qs.length ≤ 16 ∧ (∀ q ∈ qs, okQ qs.length q) ∧
  ∀ (H' : Hp) (x : Addr), MadeR CU H x (rowsTo qs qs.length ++ rowsBack qs.length) H' → Q (.ref x) H'
section
variable {P : Program} {w : World} {K : PySem.W.Frag} {mg : Str → Option Value} {base : Heap} {CI CU : Addr}
theorem slK (K : PySem.W.Frag) {X : Cx} (h : X.K = K := by rfl) : SlR X (rSlL K) := by
  subst h
  exact sl_list
theorem scInsOf : FnScope ["row", "at"] ["row"] (defScope sInsOf) := ⟨rfl, rfl, rfl, by decide +kernel, rfl, by decide +kernel, by decide +kernel⟩
theorem ok_insof {f fI : Addr} {fd fdI : FuncData} (F : Fun K "instructions_of" "instructions_of" sInsOf f fd) (T : TxtI K mg CI) (GI : FnOk P w K mg base CX0 1 fI fdI ["self", "told"] (spInInit CI)) (bI : Binds K fdI ["self", "told"] []) (MI : Mk K CI fI) (gI : mg "Instruction" = some (.ref CI)) :
    FnOk P w K mg base CX0 3 f fd ["row"] (spInsOf CI) := by
  obtain ⟨t4, m4⟩ := T.cBytes
  refine F.ok scInsOf (fun vs H Q E h => ?_) (fun cdv A outer s H vs Q E hr h => ?_)
  · obtain ⟨a, l, n, rfl, _⟩ := h
    rfl
  · obtain ⟨a, l, n, rfl, ha, hl, hn, k⟩ := h
    refine ⟨_, pss_one (ps_ret (pe_lc (own := [("at", 1)]) (g := gName 1) rfl scInsOf.nd (pi_range3 rfl T.range (pa_cons pe_int (pa_cons (pe_callB call_len_seq (by rfl) T.len PySem.boot_len (pa_cons (pv 0) pa_nil)) (pa_cons (pe_glob (v := .int 4) rfl m4 ⟨_, rfl⟩) pa_nil))))
      (blkOk_by (own := [("at", 1)]) (N := ["row", "at"]) (sc := defScope sInsOf) (by decide +kernel)) (fun _ _ _ _ _ => pg_name (i := 1) scInsOf.nd rfl (Or.inl rfl)) (fun _ _ _ _ _ => pts_nil)
      (fun _ _ _ _ _ => pe_make MI GI hr rfl gI bI .nil pass0 (pa_cons (pe_slice (slK K) (pv 0) (po_some (pv 1)) (po_some (pe_op op_add (pv 1) (pe_glob (v := .int 4) rfl m4 ⟨_, rfl⟩)))) pa_nil)))), ?_⟩
    have el : ((rowV l).length : Int) = ((4 * n : Nat) : Int) := by rw [rowV_len, hl]
    refine ⟨_, rfl, a, _, rfl, .inl (SqL.of ha), 0, _, 4, n, rfl, by rw [el]; exact rgC4 hn, fun D nD => lc_it walk_rangeC (fun i H' => MadeQ CI H D (qsOf l i) H') ⟨nD, Same.new nD, [], upd_same, trivial⟩ (fun _ _ _ _ => trivial) ?_ (fun H' M => k H' D M)⟩
    rintro i x H1 H2 hi M ⟨rfl, hx⟩
    obtain ⟨nD, s1, vs, hD, hv⟩ := M
    have hx : x = V.int ((4 * i : Nat) : Int) := hx.trans (congrArg V.int (by omega))
    subst hx
    refine ⟨rfl, ?_⟩
    refine ⟨_, rfl, _, rfl, _, rfl, _, rfl, _, _, rfl, rfl, _, rfl, a, _, rfl, SqL.of (s1 _ _ ha), fun p1 n1 => ?_⟩
    have c4 : cutV (rowV l) (some ((4 * i : Nat) : Int)) (some (((4 * i : Nat) : Int) + 4)) = q4V (q4 l i) := by
      have z : (((4 * i : Nat) : Int) + 4) = ((4 * i + 4 : Nat) : Int) := by omega
      rw [z]
      exact cut4 hl hi
    rw [c4]
    have s2 := Same.new (o := .lst (q4V (q4 l i))) n1
    refine fun y dy ny ndy ney => ?_
    have up : Same (upd H2 p1 (.lst (q4V (q4 l i)))) (upd (upd (upd H2 p1 (.lst (q4V (q4 l i)))) dy (.own y)) y (.ins CI dy [])) := fun b o e => by
      rw [upd_ne (ne_of_none e ny), upd_ne (ne_of_none e ndy)]
      exact e
    refine ⟨y, dy, p1, q4 l i, rfl, upd_same, up _ _ upd_same, fun H3 IA B3 => ?_⟩
    have s3 : Same H2 H3 := fun b o e => B3 b o (up _ _ (s2 _ _ e)) (ne_of_none (s2 _ _ e) ny)
    have y2 : H2 y = none := s2.free ny
    have nyD : D ≠ y := ne_of_none hD y2
    refine ⟨rfl, vs, s3 _ _ hD, ?_, ?_⟩
    · rw [hv.len, qsOf_len]
      exact small1000 (by omega)
    refine ⟨nD, fun b o e => by rw [upd_ne (ne_of_none e nD)]; exact s3 _ _ (s1 _ _ e), vs ++ [.ref y], upd_same, ?_⟩
    rw [qsOf_succ]
    have hf : hide D (fresh H (upd H3 D (.lst (vs ++ [.ref y])))) = hide D (fresh H H3) := by
      rw [fresh_upd nD, hide_upd]
    rw [hf]
    refine (hv.mono fun _ _ h => h.mono (hide_mono (fresh_mono s3))).snoc ?_
    obtain ⟨dz, hz⟩ := IA
    exact ⟨dz, by rw [hide_at (Ne.symm nyD), fresh_at (s1.free y2)]; exact hz⟩
theorem scAreCode : FnScope ["instructions", "length", "instruction"] ["instructions"] (defScope sAreCode) := ⟨rfl, rfl, rfl, by decide +kernel, rfl, by decide +kernel, by decide +kernel⟩
theorem ok_arecode {f fI : Addr} {fd fdI : FuncData} (F : Fun K "are_code" "are_code" sAreCode f fd) (T : TxtI K mg CI) (GI : FnOk P w K mg base CX0 1 fI fdI ["self", "length"] (spInIs CI)) (bI : Binds K fdI ["self", "length"] []) (mI : Meth K CI "is_one_of" fI) :
    FnOk P w K mg base CX0 2 f fd ["instructions"] (spAreCode CI) := by
  refine F.ok scAreCode (fun vs H Q E h => ?_) (fun cdv A outer s H vs Q E hr h => ?_)
  · obtain ⟨a, ivs, qs, rfl, _⟩ := h
    rfl
  · obtain ⟨a, ivs, qs, rfl, ha, hq, hn, k⟩ := h
    refine ⟨_, pss_cons (ps_set (i := 1) scAreCode.nd rfl (Or.inr rfl) (pe_callB call_len_seq (by rfl) T.len PySem.boot_len (pa_cons (pv 0) pa_nil)))
      (pss_one (ps_ret (pe_callB (cr_all rfl) (by rfl) T.all (by decide +kernel) (pa_cons (pe_lc (own := [("instruction", 2)]) (g := gName 2) rfl scAreCode.nd (pi_list (pv 0))
      (blkOk_by (own := [("instruction", 2)]) (N := ["instructions", "length", "instruction"]) (sc := defScope sAreCode) (by decide +kernel)) (fun _ _ _ _ _ => pg_name (i := 2) scAreCode.nd rfl (Or.inl rfl)) (fun _ _ _ _ _ => pts_nil)
      (fun _ _ _ _ _ => pe_meth (pv 2) T.cl mI GI hr bI .nil pass0 (pa_cons (pv 1) pa_nil))) pa_nil)))), ?_⟩
    refine ⟨_, rfl, a, _, rfl, .inl (SqL.of ha), ?_⟩
    have el := hq.len
    refine ⟨_, rfl, a, rfl, ⟨_, SqL.of ha⟩, fun D nD => lc_list (K := K) (a := a) (xs := ivs) (fun i H' => Same H H' ∧ H' D = some (.lst (((qs.take i).map fun q => decide (okQ qs.length q)).map V.bl)))
      ⟨Same.new nD, upd_same⟩ (fun i H' _ ⟨s, _⟩ => SqL.of (s _ _ ha)) ?_ ?_⟩
    · rintro i x H' hi ⟨s1, hD⟩
      obtain ⟨p, q, rfl, hq1, dx, hp⟩ := hq.get hi
      refine ⟨rfl, ?_⟩
      refine ⟨_, rfl, p, dx, _, rfl, s1 _ _ hp, inF_no q (by decide +kernel) (by decide +kernel) (by decide +kernel) (by decide +kernel), _, rfl, ?_⟩
      have e : V.int (ivs.length : Int) = V.int (qs.length : Int) := by rw [el]
      rw [e]
      refine ⟨p, q, qs.length, rfl, ⟨dx, s1 _ _ hp⟩, _, hD, ?_, fun b o e => by rw [upd_ne (ne_of_none e nD)]; exact s1 _ _ e, ?_⟩
      · rw [List.length_map, List.length_map, List.length_take]
        exact small1000 (by omega)
      · rw [upd_same, take_more' hq1, List.map_append, List.map_append]
        rfl
    · rintro H' ⟨s1, hD⟩
      refine ⟨D, (qs.map fun q => decide (okQ qs.length q)), rfl, SqL.of ?_, ?_⟩
      · rw [hD, el, List.take_length]
      · have k1 := k H' s1
        rw [List.all_map]
        exact k1
theorem scRulesOf : FnScope ["instructions", "rules", "i", "instruction"] ["instructions"] (defScope sRulesOf) := ⟨rfl, rfl, rfl, by decide +kernel, rfl, by decide +kernel, by decide +kernel⟩
theorem ok_rulesof {f fA fO : Addr} {fd fdA fdO : FuncData} (F : Fun K "rules_of" "rules_of" sRulesOf f fd) (T : TxtI K mg CI) (GA : FnOk P w K mg base CX0 4 fA fdA ["self", "i"] (spRulesAt CI CU)) (bA : Binds K fdA ["self", "i"] []) (mA : Meth K CI "rules_at" fA)
    (GO : FnOk P w K mg base CX0 3 fO fdO ["taken", "given"] (spOne CU)) (bO : Binds K fdO ["taken", "given"] []) (gO : mg "one_each" = some (.ref fO)) (kO : PySem.W.keepIn K (.ref fO) = true) :
    FnOk P w K mg base CX0 5 f fd ["instructions"] (spRulesOf CI CU) := by
  obtain ⟨t8, m8⟩ := T.cNow
  obtain ⟨t24, m24⟩ := T.cSoon
  refine F.ok scRulesOf (fun vs H Q E h => ?_) (fun cdv A outer s H vs Q E hr h => ?_)
  · obtain ⟨a, ivs, qs, rfl, _⟩ := h
    rfl
  · obtain ⟨a, ivs, qs, rfl, ha, hq, hn, hok, k⟩ := h
    have hr3 : Room 3 _ := hr.mono (by decide)
    refine ⟨_, pss_cons (ps_set (i := 1) scRulesOf.nd rfl (Or.inl rfl) (pe_lst pa_nil))
      (pss_cons (ps_for PassesOwn.never rfl (pi_enum (by rfl) T.enum (pa_cons (pv 0) pa_nil)) (pg_tup rfl (pgs_cons (pg_name (i := 2) scRulesOf.nd rfl (Or.inl rfl)) (pgs_cons (pg_name (i := 3) scRulesOf.nd rfl (Or.inl rfl)) pgs_nil)))
        (pss_one (ps_expr (pe_bm PySem.F.plainAttrs_list PySem.F.slot_list_extend PySem.F.type_list_extend mt_extend (pv 1) (pa_cons (pe_meth (pv 3) T.cl mA GA hr bA .nil pass0 (pa_cons (pv 2) pa_nil)) pa_nil)))))
      (pss_cons (ps_for PassesOwn.never rfl (pi_range1 rfl T.range (pa_cons (pe_callB call_len_seq (by rfl) T.len PySem.boot_len (pa_cons (pv 0) pa_nil)) pa_nil)) (pg_name (i := 2) scRulesOf.nd rfl (Or.inl rfl))
        (pss_one (ps_expr (pe_bm PySem.F.plainAttrs_list PySem.F.slot_list_append PySem.F.type_list_append mt_append (pv 1) (pa_cons (pe_call GO hr3 rfl gO kO bO .nil pass0 (pa_cons (pe_lst (pa_cons (pe_op op_add (pe_glob (v := .int 24) rfl m24 ⟨_, rfl⟩) (pv 2)) pa_nil)) (pa_cons (pe_lst (pa_cons (pe_op op_add (pe_glob (v := .int 8) rfl m8 ⟨_, rfl⟩) (pv 2)) pa_nil)) pa_nil))) pa_nil)))))
      (pss_one (ps_ret (pv 1))))), ?_⟩
    have el := hq.len
    refine ⟨Nat.zero_le _, fun D nD => ?_⟩
    refine ⟨_, rfl, a, _, rfl, SqL.of (Same.new nD _ _ ha), for_it (walk_enum (K := K) (a := a) (xs := ivs)) (fun i σ H' => (∃ u v, σ = [some (.ref a), some (.ref D), u, v]) ∧ MadeR CU H D (rowsTo qs i) H')
      ⟨⟨_, _, rfl⟩, MadeR.start nD⟩ (fun i σ H' _ ⟨_, M⟩ => SqL.of (M.s _ _ ha)) ?_ ?_⟩
    · rintro i x σ H1 H2 hi ⟨⟨u, v, rfl⟩, M1⟩ ⟨t, y, z, rfl, nt, rfl, ey, ez⟩
      have ey := (Option.some.inj ey).symm
      subst ey
      obtain ⟨p, q, rfl, hq1, IA⟩ := hq.get ez
      have M2 := M1.ext (Same.new (o := .tup [.int ((i : Nat) : Int), .ref p]) nt)
      have st : (upd H1 t (.tup [.int ((i : Nat) : Int), .ref p])) t = some (.tup [.int ((i : Nat) : Int), .ref p]) := upd_same
      generalize upd H1 t (.tup [.int ((i : Nat) : Int), .ref p]) = H2 at M2 st ⊢
      obtain ⟨nD, s2, vs, hD, hv⟩ := M2
      obtain ⟨dx, hp⟩ := IA
      refine ⟨t, _, rfl, SqT.of st, rfl, _, _, rfl, _, _, rfl, rfl, ?_⟩
      refine ⟨_, rfl, .inl ⟨rfl, _, SqL.of hD⟩, _, rfl, p, dx, _, rfl, s2 _ _ hp, inF_no q (by decide +kernel) (by decide +kernel) (by decide +kernel) (by decide +kernel), _, rfl, ?_⟩
      refine ⟨p, q, qs.length, i, rfl, ⟨dx, s2 _ _ hp⟩, by omega, hn, hok q (List.mem_of_getElem? hq1), fun H3 x rv s3 nx hx RX => ?_⟩
      have nDx : D ≠ x := ne_of_none hD nx
      refine ⟨D, x, vs, rv, rfl, rfl, s3 _ _ hD, hx, ?_, ⟨_, _, rfl⟩, ?_⟩
      · have r1 := hv.len
        have r2 := RX.len
        have r3 := rowsTo_len qs i (by omega)
        have r4 := rowsAt_len q i
        exact Nat.le_of_lt (small1000 (by omega))
      · refine ⟨nD, fun b o e => by rw [upd_ne (ne_of_none e nD)]; exact s3 _ _ (s2 _ _ e), _, upd_same, ?_⟩
        rw [fresh_upd nD, hide_upd, rowsTo_succ hq1]
        refine (hv.mono (hide_mono (fresh_mono s3))).app (RX.mono fun b o e => ?_)
        obtain ⟨n1, e⟩ := hide_some e
        obtain ⟨n2, e⟩ := fresh_some e
        rw [hide_at (fun z => by rw [z, hD] at n2; cases n2), fresh_at (s2.free n2)]
        exact e
    · rintro σ H1 ⟨⟨u, v, rfl⟩, M1⟩
      rw [el] at M1
      refine ⟨_, rfl, a, _, rfl, .inl (SqL.of (M1.s _ _ ha)), _, rfl, by omega, by omega, for_range (lo := 0) (n := ivs.length) (fun i σ H' => (∃ u v, σ = [some (.ref a), some (.ref D), u, v]) ∧ MadeR CU H D (rowsTo qs qs.length ++ rowsBack i) H')
        ⟨⟨_, _, rfl⟩, by rw [show rowsBack 0 = [] from rfl, List.append_nil]; exact M1⟩ ?_ ?_⟩
      · rintro i σ H2 hi ⟨⟨u, v, rfl⟩, M2⟩
        obtain ⟨nD, s2, vs, hD, hv⟩ := M2
        rw [Int.zero_add]
        refine ⟨_, rfl, .inl ⟨rfl, _, SqL.of hD⟩, ?_⟩
        refine ⟨_, rfl, _, _, rfl, rfl, by show 1 ≤ sizeLine; decide, fun u1 n1 => ?_⟩
        have t1 := Same.new (o := .lst [.int ((24 : Int) + (i : Int))]) n1
        refine ⟨_, rfl, _, _, rfl, rfl, by show 1 ≤ sizeLine; decide, fun u2 n2 => ?_⟩
        have t2 := Same.new (o := .lst [.int ((8 : Int) + (i : Int))]) n2
        refine ⟨u1, u2, [24 + i], [8 + i], rfl, t2 _ _ (upd_same.trans ?_), upd_same.trans ?_, ?_, ?_, fun H3 x s3 RX => ?_⟩
        · exact congrArg (fun z : Int => some (HO.lst [V.int z])) (by omega)
        · exact congrArg (fun z : Int => some (HO.lst [V.int z])) (by omega)
        · intro y hy
          rw [List.mem_singleton.mp hy]
          omega
        · intro y hy
          rw [List.mem_singleton.mp hy]
          omega
        have s4 := (t1.trans t2).trans s3
        refine ⟨D, _, _, rfl, rfl, s4 _ _ hD, ?_, ⟨_, _, rfl⟩, ?_⟩
        · have r1 := hv.len
          have r3 := rowsTo_len qs qs.length (Nat.le_refl _)
          have r4 := rowsBack_len i
          rw [List.length_append] at r1
          exact small1000 (by omega)
        · refine ⟨nD, fun b o e => by rw [upd_ne (ne_of_none e nD)]; exact s4 _ _ (s2 _ _ e), _, upd_same, ?_⟩
          rw [fresh_upd nD, hide_upd, rowsBack_succ, ← List.append_assoc]
          refine (hv.mono (hide_mono (fresh_mono s4))).snoc (RX.mono fun b o e => ?_) ⟨by rw [oneRow_len]; exact Nat.le_refl _, by rw [oneRow_len]⟩
          obtain ⟨n2, e⟩ := fresh_some e
          have h2 : H2 b = none := (t1.trans t2).free n2
          rw [hide_at (fun z => by rw [z, hD] at h2; cases h2), fresh_at (s2.free h2)]
          exact e
      · rintro σ H2 ⟨⟨u, v, rfl⟩, M2⟩
        rw [el] at M2
        exact ⟨_, rfl, k _ D M2⟩
end
end Fc
end
section
set_option Elab.async false
set_option linter.all false
set_option maxRecDepth 100000
set_option maxHeartbeats 4000000
namespace Fc
open PySem L2
/-! ### alone, number, ratio -/
theorem asI_sum : ∀ d : List Nat, (asI d).sum = ((d.sum : Nat) : Int)
  | [] => rfl
  | a :: d => by
    have ih := asI_sum d
    show (a : Int) + (asI d).sum = (((a :: d).sum : Nat) : Int)
    rw [ih, List.sum_cons]
    omega
theorem sum_zero : ∀ d : List Nat, d.sum = 0 ↔ (d.all fun x => x == 0) = true
  | [] => by simp
  | a :: d => by
    have ih := sum_zero d
    rw [List.sum_cons, List.all_cons, Bool.and_eq_true, ← ih, beq_iff_eq]
    omega
theorem getD_le_sum : ∀ (d : List Nat) (i : Nat), d.getD i 0 ≤ d.sum
  | [], i => by cases i <;> exact Nat.le_refl 0
  | a :: d, 0 => by
    rw [List.sum_cons]
    exact Nat.le_add_right a _
  | a :: d, i + 1 => by
    have ih := getD_le_sum d i
    rw [List.sum_cons]
    show d.getD i 0 ≤ _
    omega
theorem sum_others : ∀ (d : List Nat) (i : Nat), i < d.length → (d.sum = d.getD i 0 ↔ Rc87.others d i = true)
  | [], i, h => by cases h
  | a :: d, 0, _ => by
    have q := sum_zero d
    show _ ↔ ((0 :: d).all fun x => x == 0) = true
    rw [List.sum_cons, List.all_cons, Bool.and_eq_true, ← q]
    show a + d.sum = a ↔ _
    constructor
    · intro h
      exact ⟨rfl, by omega⟩
    · rintro ⟨_, h⟩
      omega
  | a :: d, i + 1, h => by
    have ih := sum_others d i (Nat.lt_of_succ_lt_succ h)
    have le := getD_le_sum d i
    show _ ↔ ((a :: d.set i 0).all fun x => x == 0) = true
    rw [List.sum_cons, List.all_cons, Bool.and_eq_true]
    have e : ((d.set i 0).all fun x => x == 0) = Rc87.others d i := rfl
    rw [e, ← ih, beq_iff_eq]
    show a + d.sum = d.getD i 0 ↔ _
    omega
theorem run_one (S : MS) : (∃ c : Nat, c ≠ 0 ∧ runM S 1 = ([(c : Int), 0], S) ∧ ∀ i k, Rc87.till S.rules i (k + 1) S.cs = (c, 0, S.cs)) ∨
    (∃ d, runM S 1 = ([0, 1], { S with cs := d }) ∧ ∀ i k, Rc87.till S.rules i (k + 1) S.cs = if Rc87.others d i = true then (3, 1, d) else addSteps 1 (Rc87.till S.rules i k d)) := by
  have er : runM S 1 = ([(((Rc87.runs S.rules 1 S.cs).1 : Nat) : Int), (((Rc87.runs S.rules 1 S.cs).2.1 : Nat) : Int)], { S with cs := (Rc87.runs S.rules 1 S.cs).2.2 }) := by
    unfold runM
    rw [if_neg (by rw [between_iff.mpr (by decide)]; decide)]
    rfl
  have eu : ∀ i k, Rc87.till S.rules i (k + 1) S.cs = match Rc87.step S.rules S.cs with
    | none => (1, 0, S.cs)
    | some d => if Rc87.small d = false then (2, 0, S.cs) else if Rc87.others d i = true then (3, 1, d) else let x := Rc87.till S.rules i k d; (x.1, x.2.1 + 1, x.2.2) := fun i k => rfl
  have ew : Rc87.runs S.rules 1 S.cs = match Rc87.step S.rules S.cs with
    | none => (1, 0, S.cs)
    | some d => if Rc87.small d = false then (2, 0, S.cs) else let x := Rc87.runs S.rules 0 d; (x.1, x.2.1 + 1, x.2.2) := rfl
  cases h : Rc87.step S.rules S.cs with
  | none =>
    rw [h] at ew
    rw [ew] at er
    exact .inl ⟨1, by decide, er, fun i k => by rw [eu, h]⟩
  | some d =>
    rw [h] at ew
    dsimp only at ew
    by_cases q : Rc87.small d = false
    · rw [if_pos q] at ew
      rw [ew] at er
      refine .inl ⟨2, by decide, er, fun i k => ?_⟩
      rw [eu, h]
      dsimp only
      rw [if_pos q]
    · rw [if_neg q] at ew
      rw [ew] at er
      refine .inr ⟨d, er, fun i k => ?_⟩
      rw [eu, h]
      dsimp only
      rw [if_neg q]
      rfl
/-- alone by the specification -/
def aloneM (S : MS) (i k : Int) : List Int × MS := if (Rc87.below i Rc87.COUNTERS && Rc87.between k 0 Rc87.LONG) = false then ([-1], S) else
  let x := Rc87.till S.rules i.toNat k.toNat S.cs
  ([(x.1 : Nat), (x.2.1 : Nat)], { S with cs := x.2.2 })
theorem belowC_iff {i : Int} : Rc87.below i Rc87.COUNTERS = true ↔ 0 ≤ i ∧ i < 40 := by
  unfold Rc87.below Rc87.COUNTERS
  rw [Bool.and_eq_true, decide_eq_true_iff, decide_eq_true_iff]
  exact Iff.rfl
def spAlone (C CU CI : Addr) : Sp := fun vs H Q _ => ∃ (H0 : Hp) (p : Addr) (S : MS) (i k : Int), vs = [.ref p, .int i, .int k] ∧ MachAt C CU CI H0 H p S ∧ (k ≤ 5000 ∨ 1000000000 < k) ∧
  ∀ (H' : Hp) (q : Addr), H0 q = none → MachAt C CU CI (upd H0 q (.lst (intV (aloneM S i k).1))) H' p (aloneM S i k).2 → Q (.ref q) H'
def spMNumber (C CU CI : Addr) : Sp := fun vs H Q _ => ∃ (H0 : Hp) (p : Addr) (S : MS), vs = [.ref p] ∧ MachAt C CU CI H0 H p S ∧
  ∀ (H' : Hp) (q : Addr), H0 q = none → MachAt C CU CI (upd H0 q (.lst (intV [0, ((Rc87.number S.cs : Nat) : Int)]))) H' p S → Q (.ref q) H'
def ratioM (S : MS) (i : Int) : List Int := if 0 ≤ i ∧ i < (S.rs.length : Int) then [0, ((Rc87.number (Rc87.halves (S.rs.getD i.toNat [])).give : Nat) : Int), ((Rc87.number (Rc87.halves (S.rs.getD i.toNat [])).take : Nat) : Int)] else [-1]
def spRatio (C CU CI : Addr) : Sp := fun vs H Q _ => ∃ (H0 : Hp) (p : Addr) (S : MS) (i : Int), vs = [.ref p, .int i] ∧ MachAt C CU CI H0 H p S ∧
  ∀ (H' : Hp) (q : Addr), H0 q = none → MachAt C CU CI (upd H0 q (.lst (intV (ratioM S i)))) H' p S → Q (.ref q) H'
theorem prod_zeros : ∀ (ps : List Nat) (n : Nat), prod (ps.zip (List.replicate n 0)) = 1
  | [], n => by rw [List.zip_nil_left]; rfl
  | p :: ps, 0 => rfl
  | p :: ps, n + 1 => by
    rw [List.replicate_succ, List.zip_cons_cons]
    show p ^ 0 * prod (ps.zip (List.replicate n 0)) = 1
    rw [prod_zeros ps n, Nat.pow_zero]
theorem prod_pad (n : Nat) : ∀ (ps a : List Nat), prod (ps.zip (a ++ List.replicate n 0)) = prod (ps.zip a)
  | ps, [] => by
    rw [List.nil_append, prod_zeros, List.zip_nil_right]
    rfl
  | [], x :: a => by rw [List.zip_nil_left, List.zip_nil_left]
  | p :: ps, x :: a => by
    rw [List.cons_append, List.zip_cons_cons, List.zip_cons_cons]
    show p ^ x * _ = p ^ x * _
    rw [prod_pad n ps a]
theorem give_pad {l : List Nat} (hl : l.length ≤ 80) (he : l.length % 2 = 0) : (Rc87.halves l).give = l.drop (l.length / 2) ++ List.replicate (40 - l.length / 2) 0 := by
  rw [halves_give]
  refine List.ext_getElem (by rw [List.length_map, List.length_range, List.length_append, List.length_drop, List.length_replicate]; omega) fun i h1 h2 => ?_
  rw [List.length_map, List.length_range] at h1
  rw [List.getElem_map, List.getElem_range]
  unfold GG gv
  by_cases c : 2 * i < l.length
  · rw [if_pos c, List.getElem_append_left (by rw [List.length_drop]; omega), List.getElem_drop, List.getD_eq_getElem?_getD, List.getElem?_eq_getElem (by omega)]
    rfl
  · rw [if_neg c, List.getElem_append_right (by rw [List.length_drop]; omega), List.getElem_replicate]
theorem take_pad {l : List Nat} (hl : l.length ≤ 80) (he : l.length % 2 = 0) : (Rc87.halves l).take = l.take (l.length / 2) ++ List.replicate (40 - l.length / 2) 0 := by
  rw [halves_take]
  refine List.ext_getElem (by rw [List.length_map, List.length_range, List.length_append, List.length_take, List.length_replicate]; omega) fun i h1 h2 => ?_
  rw [List.length_map, List.length_range] at h1
  rw [List.getElem_map, List.getElem_range]
  unfold TT tk
  by_cases c : 2 * i < l.length
  · rw [if_pos c, List.getElem_append_left (by rw [List.length_take]; omega), List.getElem_take, List.getD_eq_getElem?_getD, List.getElem?_eq_getElem (by omega)]
    rfl
  · rw [if_neg c, List.getElem_append_right (by rw [List.length_take]; omega), List.getElem_replicate]
theorem number_pad {a : List Nat} {n : Nat} (h : ∀ x ∈ a, x ≤ 2147483647) : prod (Rc87.primes.zip a) % 18446744073709551616 = Rc87.number (a ++ List.replicate n 0) := by
  rw [number_eq _ (fun x hx => ?_), prod_pad]
  · rfl
  · rcases List.mem_append.mp hx with z | z
    · have := h x z
      omega
    · rw [List.eq_of_mem_replicate z]
      decide
theorem number_row {a : List Nat} (h : ∀ x ∈ a, x ≤ 2147483647) : prod (Rc87.primes.zip a) % 18446744073709551616 = Rc87.number a := by
  have q := number_pad (n := 0) h
  rw [show List.replicate 0 0 = ([] : List Nat) from rfl, List.append_nil] at q
  exact q
section
variable {P : Program} {w : World} {K : PySem.W.Frag} {mg : Str → Option Value} {base : Heap} {C CU CI : Addr}
theorem MachAt.same' {H0 H : Hp} {m : Addr} {S : MS} (h : MachAt C CU CI H0 H m S) : Same H0 H := by
  obtain ⟨sm, r64, e0, evs, HR, dx, c, l, rv, M⟩ := h
  exact M.s0
theorem MachAt.less' {G0 H0 H : Hp} {m : Addr} {S : MS} (h : MachAt C CU CI H0 H m S) (s : Same G0 H0) : MachAt C CU CI G0 H m S := by
  obtain ⟨sm, r64, e0, evs, HR, dx, c, l, rv, M⟩ := h
  exact ⟨sm, r64, e0, evs, HR, dx, c, l, rv, { M with s0 := s.trans M.s0, dj := fun b o e => s.free (M.dj _ _ e), m0 := s.free M.m0, c0 := s.free M.c0, l0 := s.free M.l0 }⟩
theorem Same.new' {H : Hp} {p : Addr} {o : HO} (h : H p = none) : Same H (upd H p o) := fun b u e => by
  rw [upd_ne (ne_of_none e h)]
  exact e
theorem MachAt.ext {H0 H H' : Hp} {m : Addr} {S : MS} (h : MachAt C CU CI H0 H m S) (s : Same H H') : MachAt C CU CI H0 H' m S := by
  obtain ⟨sm, r64, e0, evs, HR, dx, c, l, rv, M⟩ := h
  exact ⟨sm, r64, e0, evs, HR, dx, c, l, rv, M.ext s⟩
theorem scAlone : FnScope ["self", "i", "k", "done", "ended"] ["self", "i", "k"] (defScope sMAlone) := ⟨rfl, rfl, rfl, by decide +kernel, rfl, by decide +kernel, by decide +kernel⟩
theorem ok_alone {f fR fY fI : Addr} {fd fdR fdY fdI : FuncData} (F : Fun K "alone" "Machine.alone" sMAlone f fd) (T : TxtM K mg C) (GI : FnOk P w K mg base CX0 1 fI fdI ["i"] spIs) (bI : Binds K fdI ["i"] []) (gI : mg "is_counter" = some (.ref fI)) (kI : PySem.W.keepIn K (.ref fI) = true)
    (GY : FnOk P w K mg base CX0 1 fY fdY ["k"] spMay) (bY : Binds K fdY ["k"] []) (gY : mg "may_be_asked" = some (.ref fY)) (kY : PySem.W.keepIn K (.ref fY) = true) (GR : FnOk P w K mg base CX0 3 fR fdR ["self", "k"] (spRun C CU CI)) (bR : Binds K fdR ["self", "k"] []) (mR : Meth K C "run" fR) : FnOk P w K mg base CX0 4 f fd ["self", "i", "k"] (spAlone C CU CI) := by
  obtain ⟨tO, mO⟩ := T.cOut
  obtain ⟨tD, mD⟩ := T.cDone
  obtain ⟨t3, m3⟩ := T.cAlone
  refine F.ok scAlone (fun vs H Q E h => ?_) (fun cdv A outer s H vs Q E hr h => ?_)
  · obtain ⟨H0, p, S, i, k, rfl, _⟩ := h
    rfl
  · obtain ⟨H0, p, S, i0, k, rfl, MA, hk, kk⟩ := h
    have hr1 : Room 1 _ := hr.mono (by decide)
    refine ⟨_, pss_cons (ps_if (PW.pt (pw_or (pt_not (pt_val (pe_call GI hr1 rfl gI kI bI .nil pass0 (pa_cons (pv 1) pa_nil)))) (pw_or1 (pt_not (pt_val (pe_call GY hr1 rfl gY kY bY .nil pass0 (pa_cons (pv 2) pa_nil))))))) (pss_one (ps_ret (pe_lst (pa_cons (pe_glob (v := .int (-1)) rfl mO ⟨_, rfl⟩) pa_nil)))) pss_nil)
      (pss_cons (ps_for PassesOwn.never rfl (pi_range1 rfl T.range (pa_cons (pv 2) pa_nil)) (pg_name (i := 3) scAlone.nd rfl (Or.inl rfl))
        (pss_cons (ps_set (i := 4) scAlone.nd rfl (Or.inl rfl) (pe_ix (ixK K) (pe_meth (pv 0) T.cl mR GR hr bR .nil pass0 (pa_cons pe_int pa_nil)) pe_int (fun _ _ => rfl)))
        (pss_cons (ps_if (pt_cmpR op_ne (pv 4) (pe_glob (v := .int 0) rfl mD ⟨_, rfl⟩) (nomark _)) (pss_one (ps_ret (pe_lst (pa_cons (pv 4) (pa_cons (pv 3) pa_nil))))) pss_nil)
        (pss_one (ps_if (pt_cmpR op_eq (pe_callB (cr_sum rfl) (by rfl) T.sum (by decide +kernel) (pa_cons (pe_fld (pv 0) rfl) pa_nil)) (pe_ix (ixK K) (pe_fld (pv 0) rfl) (pv 1) (fun _ _ => rfl)) (nomark _)) (pss_one (ps_ret (pe_lst (pa_cons (pe_glob (v := .int 3) rfl m3 ⟨_, rfl⟩) (pa_cons (pe_op op_add (pv 3) pe_int) pa_nil))))) pss_nil)))))
      (pss_one (ps_ret (pe_lst (pa_cons (pe_glob (v := .int 0) rfl mD ⟨_, rfl⟩) (pa_cons (pv 2) pa_nil)))))), ?_⟩
    have refuse : ¬ ((0 ≤ i0 ∧ i0 < 40) ∧ 0 ≤ k ∧ k ≤ 1000000000) → ∀ q, H q = none → Q (.ref q) (upd H q (.lst [.int (-1)])) := fun z q hq => by
      have e : aloneM S i0 k = ([-1], S) := by
        unfold aloneM
        rw [if_pos (Bool.eq_false_iff.mpr fun y => z ?_)]
        rw [Bool.and_eq_true] at y
        exact ⟨belowC_iff.mp y.1, between_iff.mp y.2⟩
      rw [e] at kk
      exact kk _ q (MA.new hq) (MA.alloc hq)
    refine ⟨_, rfl, i0, rfl, ⟨_, rfl, ?_⟩⟩
    refine ite2 (fun q1 => ?_) (fun q1 => ?_)
    · exact ⟨by show 1 ≤ sizeLine; decide, refuse fun z => by rw [decide_eq_true z.1] at q1; cases q1⟩
    have q1 : 0 ≤ i0 ∧ i0 < 40 := by
      by_cases z : 0 ≤ i0 ∧ i0 < 40
      · exact z
      · rw [decide_eq_false z] at q1
        exact absurd rfl q1
    refine ⟨_, rfl, k, rfl, ⟨_, rfl, ?_⟩⟩
    refine ite2 (fun q2 => ?_) (fun q2 => ?_)
    · exact ⟨by show 1 ≤ sizeLine; decide, refuse fun z => by rw [decide_eq_true z.2] at q2; cases q2⟩
    have q2 : 0 ≤ k ∧ k ≤ 1000000000 := by
      by_cases z : 0 ≤ k ∧ k ≤ 1000000000
      · exact z
      · rw [decide_eq_false z] at q2
        exact absurd rfl q2
    have k5 : k ≤ 5000 := by omega
    have k0 := q2.1
    have er : aloneM S i0 k = ([(((Rc87.till S.rules i0.toNat k.toNat S.cs).1 : Nat) : Int), (((Rc87.till S.rules i0.toNat k.toNat S.cs).2.1 : Nat) : Int)], { S with cs := (Rc87.till S.rules i0.toNat k.toNat S.cs).2.2 }) := by
      unfold aloneM
      rw [if_neg (by rw [between_iff.mpr q2, belowC_iff.mpr q1]; decide)]
    rw [er] at kk
    have ei : i0 = ((i0.toNat : Nat) : Int) := by omega
    refine ⟨_, rfl, k, rfl, by omega, by omega, for_range (lo := 0) (n := k.toNat) (fun i σ H' => (∃ u v, σ = [some (.ref p), some (.int i0), some (.int k), u, v]) ∧ ∃ ci, MachAt C CU CI H0 H' p { S with cs := ci } ∧ ∀ j, Rc87.till S.rules i0.toNat (i + j) S.cs = addSteps i (Rc87.till S.rules i0.toNat j ci))
      ⟨⟨_, _, rfl⟩, S.cs, MA, fun j => by rw [Nat.zero_add]; rfl⟩ ?_ ?_⟩
    · rintro i σ H1 hi ⟨⟨u, v, rfl⟩, ci, M1, hj⟩
      rw [Int.zero_add]
      obtain ⟨dm, fm, hm, nm⟩ := M1.no (x := "run") (by decide +kernel) (by decide +kernel) (by decide +kernel) (by decide +kernel)
      have hki : i + ((k.toNat - i - 1) + 1) = k.toNat := by omega
      refine ⟨_, rfl, p, dm, fm, rfl, hm, nm, H0, p, { S with cs := ci }, 1, rfl, M1, .inl (by decide), fun H2 q nq M2 => ?_⟩
      have hq := M2.same' _ _ upd_same
      have M3 := M2.less' (Same.new' nq)
      rcases run_one { S with cs := ci } with ⟨c, c0, e1, e2⟩ | ⟨d, e1, e2⟩
      · rw [e1] at hq M3
        refine ⟨q, _, _, _, rfl, rfl, SqL.of hq, rfl, ?_⟩
        refine ⟨_, rfl, rfl, _, rfl, ?_⟩
        refine ite2 (fun z => ?_) (fun z => ?_)
        · have e3 := hj ((k.toNat - i - 1) + 1)
          rw [hki] at e3
          have e4 := e3.trans (congrArg (addSteps i) (e2 i0.toNat (k.toNat - i - 1)))
          rw [e4] at kk
          refine ⟨_, rfl, _, rfl, (by show 2 ≤ sizeLine; decide), fun q' hq' => ?_⟩
          have e5 : ((0 + i : Nat) : Int) = (i : Int) := by omega
          have kq := kk _ q' (M3.new hq') (by
            show MachAt C CU CI (upd H0 q' (.lst [.int (c : Int), .int ((0 + i : Nat) : Int)])) (upd H2 q' (.lst [.int (c : Int), .int (i : Int)])) p { S with cs := ci }
            rw [e5]
            exact M3.alloc hq')
          exact kq
        · exfalso
          refine z ?_
          rw [Bool.not_eq_true']
          refine decide_eq_false fun y => ?_
          injection y with y
          omega
      · rw [e1] at hq M3
        refine ⟨q, _, _, _, rfl, rfl, SqL.of hq, rfl, ?_⟩
        refine ⟨_, rfl, rfl, _, rfl, ?_⟩
        refine ite2 (fun z => ?_) (fun z => ?_)
        · exact absurd z (by decide)
        obtain ⟨sm, r64, x0, evs, HR, dx, c, l, rv, M⟩ := id M3
        have lenD : d.length = 40 := sm.1
        have hcI : H2 c = some (.lst ((asI d).map V.int)) := by
          have y := M.hc
          rw [rowV_asI] at y
          exact y
        refine ⟨_, rfl, p, C, dx, _, _, rfl, M.hm, T.cl, T.nC, maF_counters c l _, c, asI d, rfl, SqL.of hcI, ?_⟩
        have g := atI_nat (row_get (l := d) (i := i0.toNat) (by rw [lenD]; omega))
        rw [← ei] at g
        refine ⟨_, rfl, p, C, dx, _, _, rfl, M.hm, T.cl, T.nC, maF_counters c l _, _, rfl, c, _, _, _, rfl, rfl, SqL.of M.hc, g, ?_⟩
        refine ⟨rfl, _, rfl, ?_⟩
        have so := sum_others d i0.toNat (by rw [lenD]; omega)
        have sI := asI_sum d
        refine ite2 (fun z => ?_) (fun z => ?_)
        · have ot : Rc87.others d i0.toNat = true := by
            have y := of_decide_eq_true z
            injection y with y
            exact so.mp (by omega)
          have e3 := hj ((k.toNat - i - 1) + 1)
          rw [hki] at e3
          have e4 := e3.trans (congrArg (addSteps i) ((e2 i0.toNat (k.toNat - i - 1)).trans (if_pos ot)))
          rw [e4] at kk
          refine ⟨_, rfl, _, _, rfl, rfl, (by show 2 ≤ sizeLine; decide), fun q' hq' => ?_⟩
          have e5 : ((1 + i : Nat) : Int) = (i : Int) + 1 := by omega
          have kq := kk _ q' (M3.new hq') (by
            show MachAt C CU CI (upd H0 q' (.lst [.int (3 : Int), .int ((1 + i : Nat) : Int)])) (upd H2 q' (.lst [.int (3 : Int), .int ((i : Int) + 1)])) p { S with cs := d }
            rw [e5]
            exact M3.alloc hq')
          exact kq
        · have ot : ¬ Rc87.others d i0.toNat = true := fun y => z (decide_eq_true (congrArg V.int (by have := so.mpr y; omega)))
          refine ⟨⟨_, _, rfl⟩, d, M3, fun j => ?_⟩
          have e3 := hj (j + 1)
          rw [show i + 1 + j = i + (j + 1) by omega]
          refine e3.trans ((congrArg (addSteps i) ((e2 i0.toNat j).trans (if_neg ot))).trans ?_)
          unfold addSteps
          dsimp only
          rw [show ∀ x : Nat, x + 1 + i = x + (i + 1) by intro x; omega]
          rfl
    · rintro σ H1 ⟨⟨u, v, rfl⟩, ci, M1, hj⟩
      have e3 := hj 0
      rw [Nat.add_zero] at e3
      rw [e3] at kk
      refine ⟨_, rfl, (by show 2 ≤ sizeLine; decide), fun q hq => ?_⟩
      have e5 : ((0 + k.toNat : Nat) : Int) = k := by omega
      exact kk _ q (M1.new hq) (by
        show MachAt C CU CI (upd H0 q (.lst [.int (0 : Int), .int ((0 + k.toNat : Nat) : Int)])) (upd H1 q (.lst [.int (0 : Int), .int k])) p { S with cs := ci }
        rw [e5]
        exact M1.alloc hq)
theorem scMNumber : FnScope ["self"] ["self"] (defScope sMNumber) := ⟨rfl, rfl, rfl, by decide +kernel, rfl, by decide +kernel, by decide +kernel⟩
theorem ok_mnumber {f fN : Addr} {fd fdN : FuncData} (F : Fun K "number" "Machine.number" sMNumber f fd) (T : TxtM K mg C) (GN : FnOk P w K mg base CX0 2 fN fdN ["amounts"] (spNumber K)) (bN : Binds K fdN ["amounts"] []) (gN : mg "number_rest" = some (.ref fN)) (kN : PySem.W.keepIn K (.ref fN) = true) :
    FnOk P w K mg base CX0 3 f fd ["self"] (spMNumber C CU CI) := by
  refine F.ok scMNumber (fun vs H Q E h => ?_) (fun cdv A outer s H vs Q E hr h => ?_)
  · obtain ⟨H0, p, S, rfl, _⟩ := h
    rfl
  · obtain ⟨H0, p, S, rfl, MA, k⟩ := h
    obtain ⟨sm, r64, e0, evs, HR, dx, c, l, rv, M⟩ := id MA
    refine ⟨_, pss_one (ps_ret (pe_lst (pa_cons pe_int (pa_cons (pe_call GN hr rfl gN kN bN .nil pass0 (pa_cons (pe_fld (pv 0) rfl) pa_nil)) pa_nil)))), ?_⟩
    refine ⟨_, rfl, p, C, dx, _, _, rfl, M.hm, T.cl, T.nC, maF_counters c l _, c, S.cs, rfl, SqL.of M.hc, by rw [sm.1]; exact Nat.le_refl _, fun H1 s1 => ?_⟩
    rw [number_row sm.2]
    refine ⟨by show 2 ≤ sizeLine; decide, fun q nq => ?_⟩
    have M1 := MA.ext s1
    exact k _ q (M1.new nq) (M1.alloc nq)
theorem scRatio : FnScope ["self", "i", "rule"] ["self", "i"] (defScope sMRatio) := ⟨rfl, rfl, rfl, by decide +kernel, rfl, by decide +kernel, by decide +kernel⟩
theorem ok_ratio {f fN : Addr} {fd fdN : FuncData} (F : Fun K "ratio" "Machine.ratio" sMRatio f fd) (T : TxtM K mg C) (TU : TxtU K mg CU) (GN : FnOk P w K mg base CX0 2 fN fdN ["amounts"] (spNumber K)) (bN : Binds K fdN ["amounts"] []) (gN : mg "number_rest" = some (.ref fN)) (kN : PySem.W.keepIn K (.ref fN) = true) :
    FnOk P w K mg base CX0 3 f fd ["self", "i"] (spRatio C CU CI) := by
  obtain ⟨tO, mO⟩ := T.cOut
  refine F.ok scRatio (fun vs H Q E h => ?_) (fun cdv A outer s H vs Q E hr h => ?_)
  · obtain ⟨H0, p, S, i, rfl, _⟩ := h
    rfl
  · obtain ⟨H0, p, S, i, rfl, MA, k⟩ := h
    obtain ⟨sm, r64, e0, evs, HR, dx, c, l, rv, M⟩ := id MA
    refine ⟨_, pss_cons (ps_if (PW.pt (pw_or (pt_cmpR op_lt (pv 1) pe_int (nomark _)) (pw_or1 (pt_cmpR op_ge (pv 1) (pe_callB call_len_seq (by rfl) T.len PySem.boot_len (pa_cons (pe_fld (pv 0) rfl) pa_nil)) (nomark _))))) (pss_one (ps_ret (pe_lst (pa_cons (pe_glob (v := .int (-1)) rfl mO ⟨_, rfl⟩) pa_nil)))) pss_nil)
      (pss_cons (ps_set (i := 2) scRatio.nd rfl (Or.inl rfl) (pe_ix (ixK K) (pe_fld (pv 0) rfl) (pv 1) (fun _ _ => rfl)))
      (pss_one (ps_ret (pe_lst (pa_cons pe_int (pa_cons (pe_call GN hr rfl gN kN bN .nil pass0 (pa_cons (pe_fld (pv 2) rfl) pa_nil)) (pa_cons (pe_call GN hr rfl gN kN bN .nil pass0 (pa_cons (pe_fld (pv 2) rfl) pa_nil)) pa_nil))))))), ?_⟩
    have rl := M.ru.len
    have refuse : ¬ (0 ≤ i ∧ i < (S.rs.length : Int)) → ∀ q, H q = none → Q (.ref q) (upd H q (.lst [.int (-1)])) := fun z q hq => by
      have e : ratioM S i = [-1] := if_neg z
      rw [e] at k
      exact k _ q (MA.new hq) (MA.alloc hq)
    refine ⟨_, rfl, _, _, rfl, rfl, _, rfl, ?_⟩
    refine ite2 (fun q1 => ?_) (fun q1 => ?_)
    · have q1 : i < 0 := of_decide_eq_true q1
      exact ⟨by show 1 ≤ sizeLine; decide, refuse fun z => by omega⟩
    have q1 : ¬ i < 0 := fun z => q1 (decide_eq_true z)
    refine ⟨_, rfl, _, rfl, p, C, dx, _, _, rfl, M.hm, T.cl, T.nR, maF_rules c l _, l, _, rfl, .inl (SqL.of M.hl), _, _, rfl, rfl, _, rfl, ?_⟩
    refine ite2 (fun q2 => ?_) (fun q2 => ?_)
    · have q2 : (rv.length : Int) ≤ i := of_decide_eq_true q2
      exact ⟨by show 1 ≤ sizeLine; decide, refuse fun z => by omega⟩
    have q2 : ¬ (rv.length : Int) ≤ i := fun z => q2 (decide_eq_true z)
    have ei : i = ((i.toNat : Nat) : Int) := by omega
    have hlt : i.toNat < rv.length := by omega
    have hv : rv[i.toNat]? = some (rv[i.toNat]'hlt) := List.getElem?_eq_getElem hlt
    obtain ⟨a, r, er, hr1, RU, hl, he⟩ := M.ru.get hv
    rw [er] at hv
    have g := atI_nat hv
    rw [← ei] at g
    have ed : S.rs.getD i.toNat [] = r := by
      rw [List.getD_eq_getElem?_getD, hr1]
      rfl
    have hb := r64.2.2 r (List.mem_of_getElem? hr1)
    have e : ratioM S i = [0, ((Rc87.number (Rc87.halves r).give : Nat) : Int), ((Rc87.number (Rc87.halves r).take : Nat) : Int)] := by
      unfold ratioM
      rw [if_pos (by omega), ed]
    rw [e] at k
    obtain ⟨du, x, y, t, gg, ts, gs, hp, hx, hy, -⟩ := RU.mono M.sr
    refine ⟨_, rfl, p, C, dx, _, _, rfl, M.hm, T.cl, T.nR, maF_rules c l _, _, rfl, l, _, _, _, rfl, rfl, SqL.of M.hl, g, ?_⟩
    refine ⟨_, rfl, a, CU, du, _, _, rfl, hp, TU.cl, TU.nG, ruF_given x y t gg, y, _, rfl, SqL.of hy, by rw [List.length_drop]; omega, fun H1 s1 => ?_⟩
    rw [number_pad (n := 40 - r.length / 2) (fun z hz => Nat.le_trans (hb z (List.mem_of_mem_drop hz)) (by decide)), ← give_pad hl he]
    refine ⟨_, rfl, a, CU, du, _, _, rfl, s1 _ _ hp, TU.cl, TU.nA, ruF_taken x y t gg, x, _, rfl, SqL.of (s1 _ _ hx), by rw [List.length_take]; omega, fun H2 s2 => ?_⟩
    rw [number_pad (n := 40 - r.length / 2) (fun z hz => Nat.le_trans (hb z (List.mem_of_mem_take hz)) (by decide)), ← take_pad hl he]
    refine ⟨by show 3 ≤ sizeLine; decide, fun q nq => ?_⟩
    have M1 := MA.ext (s1.trans s2)
    exact k _ q (M1.new nq) (M1.alloc nq)
end
end Fc
end
section
set_option Elab.async false
set_option linter.all false
set_option maxRecDepth 100000
set_option maxHeartbeats 4000000
namespace Fc
open PySem L2
/-! ### set_code, make_rules -/
def insQ (q : Q4) : Rc87.Ins := if q.a = 0 then .halt_ else if q.a = 1 then .more q.r q.j else .less q.r q.j q.k
def MS.code (S : MS) : List Rc87.Ins := S.qs.map insQ
def okAll (l : List Nat) : Bool := (qsOf l (l.length / 4)).all fun q => decide (okQ (l.length / 4) q)
def setM (S : MS) (l : List Nat) : Int × MS := if l.length % 4 ≠ 0 then (-1, S) else if okAll l = true then (((l.length / 4 : Nat) : Int), { S with qs := qsOf l (l.length / 4), n := 0 }) else (-2, S)
def spSetCode (C CU CI : Addr) : Sp := fun vs H Q _ => ∃ (H0 : Hp) (p a : Addr) (S : MS) (l : List Nat), vs = [.ref p, .ref a] ∧ MachAt C CU CI H0 H p S ∧ H0 a = some (.lst (rowV l)) ∧ l.length ≤ 64 ∧
  ∀ (H' : Hp), MachAt C CU CI H0 H' p (setM S l).2 → Q (.int (setM S l).1) H'
def zeroed (S : MS) : List Nat := S.cs.take 8 ++ List.replicate 32 0
def makeM (S : MS) : MS := { S with rs := rowsTo S.qs S.qs.length ++ rowsBack S.qs.length, cs := (zeroed S).set (8 + S.n) 1 }
def spMake (C CU CI : Addr) : Sp := fun vs H Q _ => ∃ (H0 : Hp) (p : Addr) (S : MS), vs = [.ref p] ∧ MachAt C CU CI H0 H p S ∧
  ∀ (H' : Hp), MachAt C CU CI H0 H' p (makeM S) → Q (.int (((makeM S).rs.length : Nat) : Int)) H'
theorem joined_at {G HR H : Hp} {b : Addr} (h : G b = none) : joined G HR H b = H b := by
  unfold joined
  rw [h]
theorem joined_some {G HR H : Hp} {b : Addr} {o : HO} (h : G b = some o) : joined G HR H b = HR b := by
  unfold joined
  rw [h]
section
variable {C CU CI : Addr} {kk : Kept} {H0 HR H H1 HF : Hp} {m dx c l : Addr} {rv zs : List V} {rs : List (List Nat)}
/-- another code -/
theorem Mach.recode (M : Mach C CU CI kk H0 HR H m dx c l rv zs rs) {x : Addr} {qs : List Q4} (X : MadeQ CI H x qs H1) (B : But m H1 HF) {vs : List V} (hx : H1 x = some (.lst vs)) (hv : Each (InAt CI (hide x (fresh H H1))) vs qs)
    (hF : HF m = some (.ins C dx (maF c l ⟨x, vs, qs, 0⟩))) : Mach C CU CI ⟨x, vs, qs, 0⟩ H0 (joined H HR H1) HF m dx c l rv zs rs :=
  have up : ∀ {b : Addr} {o : HO}, H b = some o → b ≠ m → HF b = some o := fun e n => B _ _ (X.s _ _ e) n
  { s0 := fun b o e => up (M.s0 _ _ e) (ne_of_none e M.m0)
    sr := fun b o e => by
      rcases joined_cases e with ⟨h1, h2⟩ | h
      · exact B _ _ h2 (Ne.symm (ne_of_none M.hm h1))
      · exact up (M.sr _ _ h) (ne_of_none h M.mr)
    dj := fun b o e => by
      rcases joined_cases e with ⟨h1, h2⟩ | h
      · exact M.s0.free h1
      · exact M.dj _ _ h
    m0 := M.m0
    c0 := M.c0
    l0 := M.l0
    mr := (joined_some M.hm).trans M.mr
    cr := (joined_some M.hc).trans M.cr
    lr := (joined_some M.hl).trans M.lr
    hm := hF
    hc := up M.hc (ne_of M.hc M.hm (by intro z; cases z))
    hl := up M.hl (ne_of M.hl M.hm (by intro z; cases z))
    ncl := M.ncl
    ru := M.ru.mono (joined_old M.sr)
    he := (joined_at X.nD).trans hx
    hq := hv.mono fun a q h => h.mono fun b o e => joined_new _ _ (hide_some e).2 }
/-- other rules, other counters -/
theorem Mach.remake (M : Mach C CU CI kk H0 HR H m dx c l rv zs rs) {x d : Addr} {qs : List (List Nat)} (X : MadeR CU H x qs H1) (B : But m H1 HF) {vs ws : List V} (hx : H1 x = some (.lst vs)) (hv : Rules CU (hide x (fresh H H1)) vs qs)
    (hd1 : H1 d = none) (hF : HF m = some (.ins C dx (maF d x kk))) (hd : HF d = some (.lst ws)) : Mach C CU CI kk H0 (hide x (joined H HR H1)) HF m dx d x vs ws qs :=
  have up : ∀ {b : Addr} {o : HO}, H b = some o → b ≠ m → HF b = some o := fun e n => B _ _ (X.s _ _ e) n
  have mx : m ≠ x := ne_of_none M.hm X.nD
  have old : Same HR (hide x (joined H HR H1)) := fun b o e => by
    rw [hide_at (ne_of_none (M.sr _ _ e) X.nD)]
    exact joined_old M.sr _ _ e
  { s0 := fun b o e => up (M.s0 _ _ e) (ne_of_none e M.m0)
    sr := fun b o e => by
      obtain ⟨_, e⟩ := hide_some e
      rcases joined_cases e with ⟨h1, h2⟩ | h
      · exact B _ _ h2 (Ne.symm (ne_of_none M.hm h1))
      · exact up (M.sr _ _ h) (ne_of_none h M.mr)
    dj := fun b o e => by
      obtain ⟨_, e⟩ := hide_some e
      rcases joined_cases e with ⟨h1, h2⟩ | h
      · exact M.s0.free h1
      · exact M.dj _ _ h
    m0 := M.m0
    c0 := (M.s0.trans X.s).free hd1
    l0 := M.s0.free X.nD
    mr := by rw [hide_at mx, joined_some M.hm]; exact M.mr
    cr := by
      rw [hide_at (Ne.symm (ne_of_none hx hd1)), joined_at (X.s.free hd1)]
      exact hd1
    lr := hide_none
    hm := hF
    hc := hd
    hl := B _ _ hx (Ne.symm mx)
    ncl := Ne.symm (ne_of_none hx hd1)
    ru := hv.mono (hide_mono joined_new)
    he := old _ _ M.he
    hq := M.hq.mono fun a q h => h.mono old }
end
theorem setAll_le (n : Nat) : ∀ (xs l : List Nat), (∀ x ∈ l, x ≤ 1) → ∀ x ∈ setAll n xs l, x ≤ 1
  | [], l, h => h
  | y :: xs, l, h => setAll_le n xs (l.set (n + y) 1) fun x hx => by
    rcases List.mem_or_eq_of_mem_set hx with z | z
    · exact h x z
    · rw [z]
      exact Nat.le_refl _
theorem oneRow_le (xs ys : List Nat) : ∀ x ∈ oneRow xs ys, x ≤ 255 := fun x hx => Nat.le_trans (setAll_le 40 _ _ (setAll_le 0 _ _ fun y hy => by rw [List.eq_of_mem_replicate hy]; decide) x hx) (by decide)
theorem rowsAt_low (q : Q4) (i : Nat) : low (rowsAt q i) := fun r hr => by
  unfold rowsAt at hr
  split at hr
  · cases hr
  · split at hr
    · rw [List.mem_singleton.mp hr]
      exact oneRow_le _ _
    · rcases List.mem_cons.mp hr with z | z
      · rw [z]
        exact oneRow_le _ _
      · rw [List.mem_singleton.mp z]
        exact oneRow_le _ _
theorem rows_low (qs : List Q4) (n : Nat) : low (rowsTo qs n ++ rowsBack n) := fun r hr => by
  rcases List.mem_append.mp hr with z | z
  · unfold rowsTo at z
    obtain ⟨x, _, hx⟩ := List.mem_flatMap.mp z
    exact rowsAt_low _ _ r hx
  · unfold rowsBack at z
    obtain ⟨i, _, rfl⟩ := List.mem_map.mp z
    exact oneRow_le _ _
theorem zeroed_len {S : MS} (h : S.cs.length = 40) : (zeroed S).length = 40 := by
  unfold zeroed
  rw [List.length_append, List.length_take, List.length_replicate, h]
  rfl
theorem zeroed_small {S : MS} (h : small S.cs) : small (zeroed S) := ⟨zeroed_len h.1, fun x hx => by
  rcases List.mem_append.mp hx with z | z
  · exact h.2 x (List.mem_of_mem_take z)
  · rw [List.eq_of_mem_replicate z]
    decide⟩
theorem small_set {cs : List Nat} {i v : Nat} (h : small cs) (hv : v ≤ 2147483647) : small (cs.set i v) := ⟨by rw [List.length_set]; exact h.1, fun x hx => by
  rcases List.mem_or_eq_of_mem_set hx with z | z
  · exact h.2 x z
  · rw [z]
    exact hv⟩
section
variable {P : Program} {w : World} {K : PySem.W.Frag} {mg : Str → Option Value} {base : Heap} {C CU CI : Addr}
theorem scSetCode : FnScope ["self", "row", "instructions"] ["self", "row"] (defScope sMSetCode) := ⟨rfl, rfl, rfl, by decide +kernel, rfl, by decide +kernel, by decide +kernel⟩
theorem ok_setcode {f fI fA : Addr} {fd fdI fdA : FuncData} (F : Fun K "set_code" "Machine.set_code" sMSetCode f fd) (T : TxtM K mg C) (GI : FnOk P w K mg base CX0 3 fI fdI ["row"] (spInsOf CI)) (bI : Binds K fdI ["row"] []) (gI : mg "instructions_of" = some (.ref fI)) (kI : PySem.W.keepIn K (.ref fI) = true)
    (GA : FnOk P w K mg base CX0 2 fA fdA ["instructions"] (spAreCode CI)) (bA : Binds K fdA ["instructions"] []) (gA : mg "are_code" = some (.ref fA)) (kA : PySem.W.keepIn K (.ref fA) = true) : FnOk P w K mg base CX0 4 f fd ["self", "row"] (spSetCode C CU CI) := by
  obtain ⟨tO, mO⟩ := T.cOut
  obtain ⟨t4, m4⟩ := T.cBytes
  obtain ⟨tN, mN⟩ := T.cNoIns
  refine F.ok scSetCode (fun vs H Q E h => ?_) (fun cdv A outer s H vs Q E hr h => ?_)
  · obtain ⟨H0, p, a, S, l, rfl, _⟩ := h
    rfl
  · obtain ⟨H0, p, a, S, l, rfl, MA, ha0, hl, k⟩ := h
    obtain ⟨sm, r64, e0, evs, HR, dx, c, lr, rv, M⟩ := id MA
    have ha := M.s0 _ _ ha0
    have hr2 : Room 2 _ := hr.mono (by decide)
    refine ⟨_, pss_cons (ps_if (pt_cmpR op_ne (pe_op op_mod (pe_callB call_len_seq (by rfl) T.len PySem.boot_len (pa_cons (pv 1) pa_nil)) (pe_glob (v := .int 4) rfl m4 ⟨_, rfl⟩)) pe_int (nomark _)) (pss_one (ps_ret (pe_glob (v := .int (-1)) rfl mO ⟨_, rfl⟩))) pss_nil)
      (pss_cons (ps_set (i := 2) scSetCode.nd rfl (Or.inl rfl) (pe_call GI hr rfl gI kI bI .nil pass0 (pa_cons (pv 1) pa_nil)))
      (pss_cons (ps_if (pt_not (pt_val (pe_call GA hr2 rfl gA kA bA .nil pass0 (pa_cons (pv 2) pa_nil)))) (pss_one (ps_ret (pe_glob (v := .int (-2)) rfl mN ⟨_, rfl⟩))) pss_nil)
      (pss_cons (ps_fld (pv 0) (pv 2) rfl) (pss_cons (ps_fld (pv 0) pe_int rfl)
      (pss_one (ps_ret (pe_callB call_len_seq (by rfl) T.len PySem.boot_len (pa_cons (pv 2) pa_nil)))))))), ?_⟩
    have rl := row_len l
    refine ⟨_, rfl, a, _, rfl, .inl (SqL.of ha), _, _, rfl, rfl, (by show (0 : Int) < 4; decide), rfl, _, rfl, ?_⟩
    refine ite2 (fun q => ?_) (fun q => ?_)
    · have q1 : l.length % 4 ≠ 0 := fun z => by
        rw [Bool.not_eq_true'] at q
        exact of_decide_eq_false q (congrArg V.int (by omega))
      have e : setM S l = (-1, S) := if_pos q1
      rw [e] at k
      exact k _ MA
    have q1 : l.length % 4 = 0 := by
      by_cases z : l.length % 4 = 0
      · exact z
      · refine absurd ?_ q
        rw [Bool.not_eq_true']
        refine decide_eq_false fun y => ?_
        injection y with y
        omega
    have e : setM S l = if okAll l = true then (((l.length / 4 : Nat) : Int), { S with qs := qsOf l (l.length / 4), n := 0 }) else (-2, S) := if_neg (fun z => z q1)
    rw [e] at k
    refine ⟨_, rfl, a, l, l.length / 4, rfl, ha, by omega, by omega, fun H1 x X => ?_⟩
    obtain ⟨vs, hx, hv⟩ := X.ok
    have ql := qsOf_len l (l.length / 4)
    refine ⟨_, rfl, x, vs, qsOf l (l.length / 4), rfl, hx, hv.mono fun _ _ h => h.mono fun b o e => (fresh_some (hide_some e).2).2, by rw [ql]; omega, fun H2 s2 => ?_⟩
    have s1 := X.s
    refine ⟨_, rfl, ?_⟩
    rw [ql]
    have X2 : MadeQ CI H x (qsOf l (l.length / 4)) H2 := ⟨X.nD, s1.trans s2, vs, s2 _ _ hx, hv.mono fun _ _ h => h.mono (hide_mono (fresh_mono s2))⟩
    refine ite2 (fun q2 => ?_) (fun q2 => ?_)
    · have q3 : ¬ okAll l = true := fun z => by
        rw [Bool.not_eq_true'] at q2
        exact absurd (q2.symm.trans z) (by decide)
      rw [if_neg q3] at k
      exact k _ (MA.ext (s1.trans s2))
    have q3 : okAll l = true := by
      cases z : okAll l with
      | true => rfl
      | false => exact absurd (by rw [Bool.not_eq_true']; exact z) q2
    rw [if_pos q3] at k
    have hm2 := (s1.trans s2) _ _ M.hm
    refine ⟨_, rfl, _, rfl, p, C, dx, _, rfl, hm2, T.cl, T.nI, (by show 4 < 1000; decide), ?_⟩
    refine ⟨_, rfl, p, C, dx, _, rfl, upd_same, T.cl, T.nN, (by show 4 < 1000; decide), ?_⟩
    have nxp : x ≠ p := Ne.symm (ne_of_none M.hm X.nD)
    have hm3 : putF "next_instruction" (.int 0) (putF "instructions" (.ref x) (maF c lr ⟨e0, evs, S.qs, S.n⟩)) = maF c lr ⟨x, vs, qsOf l (l.length / 4), 0⟩ := by
      rw [maF_putI]
      exact maF_putN c lr _ 0
    have M3 := M.recode X2 (HF := upd (upd H2 p (.ins C dx (putF "instructions" (.ref x) (maF c lr ⟨e0, evs, S.qs, S.n⟩)))) p (.ins C dx (putF "next_instruction" (.int 0) (putF "instructions" (.ref x) (maF c lr ⟨e0, evs, S.qs, S.n⟩)))))
      (But.refl p H2).upd.upd (s2 _ _ hx) (hv.mono fun _ _ h => h.mono (hide_mono (fresh_mono s2))) (upd_same.trans (congrArg (fun z => some (HO.ins C dx z)) hm3))
    have lv : vs.length = l.length / 4 := hv.len.trans ql
    refine ⟨_, rfl, x, _, rfl, .inl (SqL.of (by rw [upd_ne nxp, upd_ne nxp]; exact s2 _ _ hx)), ?_⟩
    have ev : V.int ((vs.length : Nat) : Int) = V.int ((l.length / 4 : Nat) : Int) := by rw [lv]
    show Q (V.int ((vs.length : Nat) : Int)) _
    rw [ev]
    refine k _ ⟨sm, ⟨r64.1, ⟨by show (qsOf l (l.length / 4)).length ≤ 16; rw [ql]; omega, fun q hq => ?_, .inl rfl⟩, r64.2.2⟩, x, vs, joined H HR H2, dx, c, lr, rv, M3⟩
    have y := of_decide_eq_true (List.all_eq_true.mp q3 q hq)
    show okQ (qsOf l (l.length / 4)).length q
    rw [ql]
    exact y
theorem scMake : FnScope ["self"] ["self"] (defScope sMMake) := ⟨rfl, rfl, rfl, by decide +kernel, rfl, by decide +kernel, by decide +kernel⟩
theorem ok_make {f fR : Addr} {fd fdR : FuncData} (F : Fun K "make_rules" "Machine.make_rules" sMMake f fd) (T : TxtM K mg C) (GR : FnOk P w K mg base CX0 5 fR fdR ["instructions"] (spRulesOf CI CU)) (bR : Binds K fdR ["instructions"] []) (gR : mg "rules_of" = some (.ref fR)) (kR : PySem.W.keepIn K (.ref fR) = true) :
    FnOk P w K mg base CX0 6 f fd ["self"] (spMake C CU CI) := by
  obtain ⟨t8, m8⟩ := T.cRegs
  obtain ⟨tW, mW⟩ := T.cNow
  obtain ⟨tC, mC⟩ := T.cCount
  refine F.ok scMake (fun vs H Q E h => ?_) (fun cdv A outer s H vs Q E hr h => ?_)
  · obtain ⟨H0, p, S, rfl, _⟩ := h
    rfl
  · obtain ⟨H0, p, S, rfl, MA, k⟩ := h
    obtain ⟨sm, r64, e0, evs, HR, dx, c, lr, rv, M⟩ := id MA
    refine ⟨_, pss_cons (ps_fld (pv 0) (pe_call GR hr rfl gR kR bR .nil pass0 (pa_cons (pe_fld (pv 0) rfl) pa_nil)) rfl)
      (pss_cons (ps_fld (pv 0) (pe_op op_cat (pe_slice sl_list (pe_fld (pv 0) rfl) po_none (po_some (pe_glob (v := .int 8) rfl m8 ⟨_, rfl⟩))) (pe_op op_rep (pe_lst (pa_cons pe_int pa_nil)) (pe_op op_sub (pe_glob (v := .int 40) rfl mC ⟨_, rfl⟩) (pe_glob (v := .int 8) rfl m8 ⟨_, rfl⟩)))) rfl)
      (pss_cons (ps_asg pe_int (pg_sub (pe_fld (pv 0) rfl) (pe_op op_add (pe_glob (v := .int 8) rfl mW ⟨_, rfl⟩) (pe_fld (pv 0) rfl)) set_list))
      (pss_one (ps_ret (pe_callB call_len_seq (by rfl) T.len PySem.boot_len (pa_cons (pe_fld (pv 0) rfl) pa_nil)))))), ?_⟩
    obtain ⟨hn16, hok, hnx⟩ := r64.2.1
    refine ⟨_, rfl, p, C, dx, _, _, rfl, M.hm, T.cl, T.nI, maF_code c lr _, e0, evs, S.qs, rfl, M.sr _ _ M.he, M.hq.mono fun _ _ h => h.mono M.sr, hn16, hok, fun H1 x X => ?_⟩
    obtain ⟨vs, hx, hv⟩ := X.ok
    have hm1 := X.s _ _ M.hm
    refine ⟨_, rfl, p, C, dx, _, rfl, hm1, T.cl, T.nR, (by show 4 < 1000; decide), ?_⟩
    rw [maF_putR]
    have mx : p ≠ x := ne_of_none M.hm X.nD
    have cp : c ≠ p := ne_of M.hc M.hm (by intro z; cases z)
    generalize hG : upd H1 p (.ins C dx (maF c x ⟨e0, evs, S.qs, S.n⟩)) = G1
    have g1p : G1 p = some (.ins C dx (maF c x ⟨e0, evs, S.qs, S.n⟩)) := by rw [← hG, upd_same]
    have g1c : G1 c = some (.lst (rowV S.cs)) := by rw [← hG, upd_ne cp]; exact X.s _ _ M.hc
    have B1 : But p H1 G1 := by rw [← hG]; exact (But.refl p H1).upd
    -- counters[:8]
    refine ⟨_, rfl, p, C, dx, _, _, rfl, g1p, T.cl, T.nC, maF_counters c x _, _, rfl, c, _, rfl, SqL.of g1c, fun u1 n1 => ?_⟩
    have ecut : cutV (rowV S.cs) none (some (8 : Int)) = rowV (S.cs.take 8) := by
      have z := cut_lo (xs := rowV S.cs) (i := 8) (by rw [row_len, sm.1]; decide)
      rw [rowV_take]
      exact z
    rw [ecut]
    have s1 := Same.new' (o := .lst (rowV (S.cs.take 8))) n1
    have h1 : (upd G1 u1 (.lst (rowV (S.cs.take 8)))) u1 = some (.lst (rowV (S.cs.take 8))) := upd_same
    generalize upd G1 u1 (.lst (rowV (S.cs.take 8))) = G2 at s1 h1 ⊢
    -- [0] * 32
    refine ⟨by show 1 ≤ sizeLine; decide, fun u2 n2 => ?_⟩
    have s2 := Same.new' (o := .lst [.int 0]) n2
    have h2 : (upd G2 u2 (.lst [.int 0])) u2 = some (.lst [.int 0]) := upd_same
    generalize upd G2 u2 (.lst [.int 0]) = G3 at s2 h2 ⊢
    refine ⟨_, _, rfl, rfl, u2, 32, _, rfl, rfl, h2, by decide, by decide, by show 1 * 32 ≤ sizeLine; decide, fun u3 n3 => ?_⟩
    have s3 := Same.new' (o := .lst (List.replicate (32 : Int).toNat [V.int 0]).flatten) n3
    have h3 : (upd G3 u3 (.lst (List.replicate (32 : Int).toNat [V.int 0]).flatten)) u3 = some (.lst (rowV (List.replicate 32 0))) := upd_same.trans rfl
    generalize upd G3 u3 (.lst (List.replicate (32 : Int).toNat [V.int 0]).flatten) = G4 at s3 h3 ⊢
    -- the two together
    have l8 : (rowV (S.cs.take 8)).length ≤ 8 := by
      rw [row_len, List.length_take]
      omega
    refine ⟨u1, u3, _, _, rfl, rfl, s3 _ _ (s2 _ _ h1), h3, ?_, fun d nd => ?_⟩
    · have l32 : (rowV (List.replicate 32 0)).length = 32 := row_len _
      rw [l32]
      exact Nat.le_trans (show (rowV (S.cs.take 8)).length + 32 ≤ 40 by omega) (by decide)
    have ez : rowV (S.cs.take 8) ++ rowV (List.replicate 32 0) = rowV (zeroed S) := by
      unfold zeroed rowV
      rw [List.map_append]
    rw [ez]
    have s123 : Same G1 G4 := (s1.trans s2).trans s3
    have g4p := s123 _ _ g1p
    have pd : p ≠ d := ne_of_none g4p nd
    refine ⟨_, rfl, p, C, dx, _, rfl, by rw [upd_ne pd]; exact g4p, T.cl, T.nC, (by show 4 < 1000; decide), ?_⟩
    rw [maF_putC]
    generalize hG5 : upd (upd G4 d (.lst (rowV (zeroed S)))) p (.ins C dx (maF d x ⟨e0, evs, S.qs, S.n⟩)) = G5
    have g5p : G5 p = some (.ins C dx (maF d x ⟨e0, evs, S.qs, S.n⟩)) := by rw [← hG5, upd_same]
    have g5d : G5 d = some (.lst (rowV (zeroed S))) := by rw [← hG5, upd_ne (Ne.symm pd), upd_same]
    have n8 : 8 + S.n < 40 := by omega
    have lz := zeroed_len sm.1
    refine ⟨_, rfl, p, C, dx, _, _, rfl, g5p, T.cl, T.nC, maF_counters d x _, _, rfl, p, C, dx, _, _, rfl, g5p, T.cl, T.nN, maF_next d x _, _, _, rfl, rfl, d, _, _, 8 + S.n, rfl, rfl, g5d, ?_, ?_⟩
    · have z : ((8 : Int) + (S.n : Int)) = ((8 + S.n : Nat) : Int) := by omega
      show ixN (rowV (zeroed S)).length ((8 : Int) + (S.n : Int)) = some (8 + S.n)
      rw [z]
      exact Evl.ixN_nat (by rw [row_len, lz]; exact n8)
    have hd1 : H1 d = none := by
      cases e : H1 d with
      | none => rfl
      | some o =>
        have z := s123 _ _ (B1 _ _ e (Ne.symm pd))
        rw [nd] at z
        cases z
    have dx5 : x ≠ d := ne_of_none hx hd1
    have er : (rowV (zeroed S)).set (8 + S.n) (V.int 1) = rowV ((zeroed S).set (8 + S.n) 1) := by
      unfold rowV
      rw [List.map_set]
      rfl
    have M5 := M.remake X (HF := upd G5 d (.lst ((rowV (zeroed S)).set (8 + S.n) (V.int 1)))) (d := d) (ws := rowV ((zeroed S).set (8 + S.n) 1)) (fun b o e n => by
      have nb : b ≠ d := ne_of_none e hd1
      rw [upd_ne nb, ← hG5, upd_ne n, upd_ne nb]
      exact s123 _ _ (B1 _ _ e n)) hx hv hd1 (by rw [upd_ne pd]; exact g5p) (by rw [upd_same, er])
    refine ⟨_, rfl, p, C, dx, _, _, rfl, M5.hm, T.cl, T.nR, maF_rules d x _, x, _, rfl, .inl (SqL.of M5.hl), ?_⟩
    have lv : V.int ((vs.length : Nat) : Int) = V.int (((makeM S).rs.length : Nat) : Int) := by
      rw [hv.len]
      rfl
    show Q (V.int ((vs.length : Nat) : Int)) _
    rw [lv]
    refine k _ ⟨small_set (zeroed_small sm) (by decide), ⟨?_, r64.2.1, rows_low _ _⟩, e0, evs, _, dx, d, x, vs, M5⟩
    show (rowsTo S.qs S.qs.length ++ rowsBack S.qs.length).length ≤ 64
    have z1 := rowsTo_len S.qs S.qs.length (Nat.le_refl _)
    have z2 := rowsBack_len S.qs.length
    rw [List.length_append]
    omega
end
end Fc
end
section
set_option Elab.async false
set_option linter.all false
set_option maxRecDepth 100000
set_option maxHeartbeats 4000000
namespace Fc
open PySem L2
/-! ### go -/
def moreM (S : MS) (q : Q4) : Int × MS := if 2147483647 ≤ S.cs.getD q.r 0 then (2, S) else (0, { S with cs := S.cs.set q.r (S.cs.getD q.r 0 + 1), n := q.j })
def lessM (S : MS) (q : Q4) : MS := if S.cs.getD q.r 0 = 0 then { S with n := q.k } else { S with cs := S.cs.set q.r (S.cs.getD q.r 0 - 1), n := q.j }
def doM (S : MS) : Int × MS := match Rc87.does1 S.code (S.n, S.cs) with
  | none => (1, S)
  | some y => if Rc87.small y.2 = false then (2, S) else (0, { S with cs := y.2, n := y.1 })
def goM (S : MS) (k : Int) : List Int × MS := if Rc87.between k 0 Rc87.LONG = false then ([-1], S) else
  let x := Rc87.gone S.code k.toNat (S.n, S.cs)
  ([(x.1 : Nat), (x.2.1 : Nat)], { S with cs := x.2.2.2, n := x.2.2.1 })
def spMore (C CU CI : Addr) : Sp := fun vs H Q _ => ∃ (H0 : Hp) (p a : Addr) (S : MS) (q : Q4), vs = [.ref p, .ref a] ∧ MachAt C CU CI H0 H p S ∧ InAt CI H a q ∧ q.r < 8 ∧ q.j < S.qs.length ∧
  ∀ (H' : Hp), MachAt C CU CI H0 H' p (moreM S q).2 → Q (.int (moreM S q).1) H'
def spLess (C CU CI : Addr) : Sp := fun vs H Q _ => ∃ (H0 : Hp) (p a : Addr) (S : MS) (q : Q4), vs = [.ref p, .ref a] ∧ MachAt C CU CI H0 H p S ∧ InAt CI H a q ∧ q.r < 8 ∧ q.j < S.qs.length ∧ q.k < S.qs.length ∧
  ∀ (H' : Hp), MachAt C CU CI H0 H' p (lessM S q) → Q .non H'
def spDo (C CU CI : Addr) : Sp := fun vs H Q _ => ∃ (H0 : Hp) (p : Addr) (S : MS), vs = [.ref p] ∧ MachAt C CU CI H0 H p S ∧
  ∀ (H' : Hp), MachAt C CU CI H0 H' p (doM S).2 → Q (.int (doM S).1) H'
def spGo (C CU CI : Addr) : Sp := fun vs H Q _ => ∃ (H0 : Hp) (p : Addr) (S : MS) (k : Int), vs = [.ref p, .int k] ∧ MachAt C CU CI H0 H p S ∧ (k ≤ 5000 ∨ 1000000000 < k) ∧
  ∀ (H' : Hp) (q : Addr), H0 q = none → MachAt C CU CI (upd H0 q (.lst (intV (goM S k).1))) H' p (goM S k).2 → Q (.ref q) H'
theorem code_get {S : MS} {q : Q4} (h : S.qs[S.n]? = some q) : S.code.getD S.n .halt_ = insQ q := by
  unfold MS.code
  rw [List.getD_eq_getElem?_getD, List.getElem?_map, h]
  rfl
theorem small_eq {cs : List Nat} {i v : Nat} (h : small cs) (hi : i < 40) : Rc87.small (cs.set i v) = decide (v ≤ 2147483647) := by
  rw [Bool.eq_iff_iff, decide_eq_true_iff]
  unfold Rc87.small
  rw [List.all_eq_true]
  constructor
  · intro q
    refine of_decide_eq_true (q v ?_)
    exact List.mem_of_getElem? (List.getElem?_set_self (by rw [h.1]; exact hi))
  · intro q x hx
    refine decide_eq_true ?_
    exact (small_set h q).2 x hx
theorem getD_small {cs : List Nat} (h : small cs) (i : Nat) : cs.getD i 0 ≤ 2147483647 := by
  rw [List.getD_eq_getElem?_getD]
  cases e : cs[i]? with
  | none => exact Nat.zero_le _
  | some x => exact h.2 x (List.mem_of_getElem? e)
theorem do_stop {S : MS} {q : Q4} (h : S.qs[S.n]? = some q) (ha : q.a = 0) : doM S = (1, S) := by
  have e : Rc87.does1 S.code (S.n, S.cs) = none := by
    unfold Rc87.does1
    dsimp only
    rw [code_get h]
    unfold insQ
    rw [if_pos ha]
  unfold doM
  rw [e]
theorem do_none {S : MS} (h : S.qs = []) : doM S = (1, S) := by
  have e : Rc87.does1 S.code (S.n, S.cs) = none := by
    unfold Rc87.does1 MS.code
    rw [h]
    rfl
  unfold doM
  rw [e]
theorem do_more {S : MS} {q : Q4} (sm : small S.cs) (h : S.qs[S.n]? = some q) (ha : q.a = 1) (hr : q.r < 8) : doM S = moreM S q := by
  have e : Rc87.does1 S.code (S.n, S.cs) = some (q.j, S.cs.set q.r (S.cs.getD q.r 0 + 1)) := by
    unfold Rc87.does1
    dsimp only
    rw [code_get h]
    unfold insQ
    rw [if_neg (by omega), if_pos ha]
    rfl
  unfold doM moreM
  rw [e]
  dsimp only
  rw [small_eq sm (by omega)]
  by_cases c : 2147483647 ≤ S.cs.getD q.r 0
  · rw [if_pos c, decide_eq_false (by omega), if_pos rfl]
  · rw [if_neg c, decide_eq_true (by omega), if_neg (by decide)]
theorem do_less {S : MS} {q : Q4} (sm : small S.cs) (h : S.qs[S.n]? = some q) (ha : q.a = 2) (hr : q.r < 8) : doM S = (0, lessM S q) := by
  have e : Rc87.does1 S.code (S.n, S.cs) = if S.cs.getD q.r 0 = 0 then some (q.k, S.cs) else some (q.j, S.cs.set q.r (S.cs.getD q.r 0 - 1)) := by
    unfold Rc87.does1
    dsimp only
    rw [code_get h]
    unfold insQ
    rw [if_neg (by omega), if_neg (by omega)]
    rfl
  unfold doM lessM
  rw [e]
  by_cases c : S.cs.getD q.r 0 = 0
  · rw [if_pos c, if_pos c]
    dsimp only
    have s : Rc87.small S.cs = true := List.all_eq_true.mpr fun x hx => decide_eq_true (sm.2 x hx)
    rw [s, if_neg (by decide)]
  · rw [if_neg c, if_neg c]
    dsimp only
    have g := getD_small sm q.r
    rw [small_eq sm (by omega), decide_eq_true (by omega), if_neg (by decide)]
theorem gone_one (S : MS) : ((doM S).1 = 0 ∧ (doM S).2.rs = S.rs ∧ (doM S).2.qs = S.qs ∧ ∀ k, Rc87.gone S.code (k + 1) (S.n, S.cs) = addGone 1 (Rc87.gone S.code k ((doM S).2.n, (doM S).2.cs))) ∨
    (∃ c : Nat, c ≠ 0 ∧ doM S = ((c : Int), S) ∧ ∀ k, Rc87.gone S.code (k + 1) (S.n, S.cs) = (c, 0, (S.n, S.cs))) := by
  unfold doM
  cases h : Rc87.does1 S.code (S.n, S.cs) with
  | none => exact .inr ⟨1, by decide, rfl, fun k => gone_stop h⟩
  | some y =>
    dsimp only
    by_cases c : Rc87.small y.2 = false
    · rw [if_pos c]
      exact .inr ⟨2, by decide, rfl, fun k => gone_high h c⟩
    · rw [if_neg c]
      refine .inl ⟨rfl, rfl, rfl, fun k => gone_step h ?_⟩
      cases z : Rc87.small y.2 with
      | true => rfl
      | false => exact absurd z c
section
variable {P : Program} {w : World} {K : PySem.W.Frag} {mg : Str → Option Value} {base : Heap} {C CU CI : Addr}
theorem scMore : FnScope ["self", "instruction", "has"] ["self", "instruction"] (defScope sMMore) := ⟨rfl, rfl, rfl, by decide +kernel, rfl, by decide +kernel, by decide +kernel⟩
theorem ok_more {f : Addr} {fd : FuncData} (F : Fun K "do_one_more" "Machine.do_one_more" sMMore f fd) (T : TxtM K mg C) (TI : TxtI K mg CI) : FnOk P w K mg base CX0 1 f fd ["self", "instruction"] (spMore C CU CI) := by
  obtain ⟨tH, mH⟩ := T.cHighest
  obtain ⟨t2, m2⟩ := T.cStopH
  obtain ⟨tD, mD⟩ := T.cDone
  refine F.ok scMore (fun vs H Q E h => ?_) (fun cdv A outer s H vs Q E hr h => ?_)
  · obtain ⟨H0, p, a, S, q, rfl, _⟩ := h
    rfl
  · obtain ⟨H0, p, a, S, q, rfl, MA, ⟨di, ha⟩, hr8, hj, k⟩ := h
    obtain ⟨sm, r64, e0, evs, HR, dx, c, lr, rv, M⟩ := id MA
    refine ⟨_, pss_cons (ps_set (i := 2) scMore.nd rfl (Or.inl rfl) (pe_ix (ixK K) (pe_fld (pv 0) rfl) (pe_fld (pv 1) rfl) (fun _ _ => rfl)))
      (pss_cons (ps_if (pt_cmpR op_ge (pv 2) (pe_glob (v := .int 2147483647) rfl mH ⟨_, rfl⟩) (nomark _)) (pss_one (ps_ret (pe_glob (v := .int 2) rfl m2 ⟨_, rfl⟩))) pss_nil)
      (pss_cons (ps_asg (pe_op op_add (pv 2) pe_int) (pg_sub (pe_fld (pv 0) rfl) (pe_fld (pv 1) rfl) set_list))
      (pss_cons (ps_fld (pv 0) (pe_fld (pv 1) rfl) rfl) (pss_one (ps_ret (pe_glob (v := .int 0) rfl mD ⟨_, rfl⟩)))))), ?_⟩
    have r40 : q.r < S.cs.length := by rw [sm.1]; omega
    have hac : a ≠ c := ne_of ha M.hc (by intro z; cases z)
    refine ⟨_, rfl, p, C, dx, _, _, rfl, M.hm, T.cl, T.nC, maF_counters c lr _, _, rfl, a, CI, di, _, _, rfl, ha, TI.cl, TI.nC, inF_counter q, c, _, _, _, rfl, rfl, SqL.of M.hc, atI_nat (row_get r40), ?_⟩
    refine ⟨_, rfl, _, _, rfl, rfl, _, rfl, ?_⟩
    refine ite2 (fun z => ?_) (fun z => ?_)
    · have z : (2147483647 : Int) ≤ ((S.cs.getD q.r 0 : Nat) : Int) := of_decide_eq_true z
      have e : moreM S q = (2, S) := if_pos (by omega)
      rw [e] at k
      exact k _ MA
    have z : ¬ (2147483647 : Int) ≤ ((S.cs.getD q.r 0 : Nat) : Int) := fun y => z (decide_eq_true y)
    have e : moreM S q = (0, { S with cs := S.cs.set q.r (S.cs.getD q.r 0 + 1), n := q.j }) := if_neg (by omega)
    rw [e] at k
    refine ⟨_, rfl, _, _, rfl, rfl, ?_⟩
    refine ⟨_, rfl, p, C, dx, _, _, rfl, M.hm, T.cl, T.nC, maF_counters c lr _, _, rfl, a, CI, di, _, _, rfl, ha, TI.cl, TI.nC, inF_counter q, c, _, _, q.r, rfl, rfl, M.hc, Evl.ixN_nat (by rw [row_len]; exact r40), ?_⟩
    have es : (rowV S.cs).set q.r (V.int (((S.cs.getD q.r 0 : Nat) : Int) + 1)) = rowV (S.cs.set q.r (S.cs.getD q.r 0 + 1)) := by
      rw [row_set]
      rfl
    rw [es]
    have M1 := M.counters (ws := rowV (S.cs.set q.r (S.cs.getD q.r 0 + 1)))
    refine ⟨_, rfl, a, CI, di, _, _, rfl, (upd_ne hac).trans ha, TI.cl, TI.nT, inF_then q, _, rfl, p, C, dx, _, rfl, M1.hm, T.cl, T.nN, (by show 4 < 1000; decide), ?_⟩
    exact k _ ⟨small_set sm (by omega), ⟨r64.1, ⟨r64.2.1.1, r64.2.1.2.1, .inr hj⟩, r64.2.2⟩, e0, evs, HR, dx, c, lr, rv, M1.next q.j⟩
theorem scLess : FnScope ["self", "instruction", "has"] ["self", "instruction"] (defScope sMLess) := ⟨rfl, rfl, rfl, by decide +kernel, rfl, by decide +kernel, by decide +kernel⟩
theorem ok_less {f : Addr} {fd : FuncData} (F : Fun K "do_one_less" "Machine.do_one_less" sMLess f fd) (T : TxtM K mg C) (TI : TxtI K mg CI) : FnOk P w K mg base CX0 1 f fd ["self", "instruction"] (spLess C CU CI) := by
  refine F.ok scLess (fun vs H Q E h => ?_) (fun cdv A outer s H vs Q E hr h => ?_)
  · obtain ⟨H0, p, a, S, q, rfl, _⟩ := h
    rfl
  · obtain ⟨H0, p, a, S, q, rfl, MA, ⟨di, ha⟩, hr8, hj, hk, k⟩ := h
    obtain ⟨sm, r64, e0, evs, HR, dx, c, lr, rv, M⟩ := id MA
    refine ⟨_, pss_cons (ps_set (i := 2) scLess.nd rfl (Or.inl rfl) (pe_ix (ixK K) (pe_fld (pv 0) rfl) (pe_fld (pv 1) rfl) (fun _ _ => rfl)))
      (pss_one (ps_if (pt_cmpR op_eq (pv 2) pe_int (nomark _)) (pss_one (ps_fld (pv 0) (pe_fld (pv 1) rfl) rfl))
        (pss_cons (ps_asg (pe_op op_sub (pv 2) pe_int) (pg_sub (pe_fld (pv 0) rfl) (pe_fld (pv 1) rfl) set_list)) (pss_one (ps_fld (pv 0) (pe_fld (pv 1) rfl) rfl))))), ?_⟩
    have r40 : q.r < S.cs.length := by rw [sm.1]; omega
    have hac : a ≠ c := ne_of ha M.hc (by intro z; cases z)
    refine ⟨_, rfl, p, C, dx, _, _, rfl, M.hm, T.cl, T.nC, maF_counters c lr _, _, rfl, a, CI, di, _, _, rfl, ha, TI.cl, TI.nC, inF_counter q, c, _, _, _, rfl, rfl, SqL.of M.hc, atI_nat (row_get r40), ?_⟩
    refine ⟨_, rfl, rfl, _, rfl, ?_⟩
    refine ite2 (fun z => ?_) (fun z => ?_)
    · have z : S.cs.getD q.r 0 = 0 := by
        have y := of_decide_eq_true z
        injection y with y
        omega
      have e : lessM S q = { S with n := q.k } := if_pos z
      rw [e] at k
      refine ⟨_, rfl, a, CI, di, _, _, rfl, ha, TI.cl, TI.nO, inF_other q, _, rfl, p, C, dx, _, rfl, M.hm, T.cl, T.nN, (by show 4 < 1000; decide), ?_⟩
      exact k _ ⟨sm, ⟨r64.1, ⟨r64.2.1.1, r64.2.1.2.1, .inr hk⟩, r64.2.2⟩, e0, evs, HR, dx, c, lr, rv, M.next q.k⟩
    have z : S.cs.getD q.r 0 ≠ 0 := fun y => z (decide_eq_true (congrArg V.int (by omega)))
    have e : lessM S q = { S with cs := S.cs.set q.r (S.cs.getD q.r 0 - 1), n := q.j } := if_neg z
    rw [e] at k
    refine ⟨_, rfl, _, _, rfl, rfl, ?_⟩
    refine ⟨_, rfl, p, C, dx, _, _, rfl, M.hm, T.cl, T.nC, maF_counters c lr _, _, rfl, a, CI, di, _, _, rfl, ha, TI.cl, TI.nC, inF_counter q, c, _, _, q.r, rfl, rfl, M.hc, Evl.ixN_nat (by rw [row_len]; exact r40), ?_⟩
    have es : (rowV S.cs).set q.r (V.int (((S.cs.getD q.r 0 : Nat) : Int) - 1)) = rowV (S.cs.set q.r (S.cs.getD q.r 0 - 1)) := by
      rw [row_set]
      refine congrArg (fun y : Int => (rowV S.cs).set q.r (V.int y)) ?_
      omega
    rw [es]
    have M1 := M.counters (ws := rowV (S.cs.set q.r (S.cs.getD q.r 0 - 1)))
    have g := getD_small sm q.r
    refine ⟨_, rfl, a, CI, di, _, _, rfl, (upd_ne hac).trans ha, TI.cl, TI.nT, inF_then q, _, rfl, p, C, dx, _, rfl, M1.hm, T.cl, T.nN, (by show 4 < 1000; decide), ?_⟩
    exact k _ ⟨small_set sm (by omega), ⟨r64.1, ⟨r64.2.1.1, r64.2.1.2.1, .inr hj⟩, r64.2.2⟩, e0, evs, HR, dx, c, lr, rv, M1.next q.j⟩
theorem scDo : FnScope ["self", "instruction"] ["self"] (defScope sMDo) := ⟨rfl, rfl, rfl, by decide +kernel, rfl, by decide +kernel, by decide +kernel⟩
theorem ok_do {f fM fL : Addr} {fd fdM fdL : FuncData} (F : Fun K "do_instruction" "Machine.do_instruction" sMDo f fd) (T : TxtM K mg C) (TI : TxtI K mg CI)
    (GM : FnOk P w K mg base CX0 1 fM fdM ["self", "instruction"] (spMore C CU CI)) (bM : Binds K fdM ["self", "instruction"] []) (mM : Meth K C "do_one_more" fM)
    (GL : FnOk P w K mg base CX0 1 fL fdL ["self", "instruction"] (spLess C CU CI)) (bL : Binds K fdL ["self", "instruction"] []) (mL : Meth K C "do_one_less" fL) : FnOk P w K mg base CX0 2 f fd ["self"] (spDo C CU CI) := by
  obtain ⟨tS, mS⟩ := T.cStopS
  obtain ⟨t0, m0⟩ := T.kStop
  obtain ⟨t1, m1⟩ := T.kMore
  obtain ⟨tD, mD⟩ := T.cDone
  refine F.ok scDo (fun vs H Q E h => ?_) (fun cdv A outer s H vs Q E hr h => ?_)
  · obtain ⟨H0, p, S, rfl, _⟩ := h
    rfl
  · obtain ⟨H0, p, S, rfl, MA, k⟩ := h
    obtain ⟨sm, r64, e0, evs, HR, dx, c, lr, rv, M⟩ := id MA
    refine ⟨_, pss_cons (ps_if (pt_cmpR op_eq (pe_callB call_len_seq (by rfl) T.len PySem.boot_len (pa_cons (pe_fld (pv 0) rfl) pa_nil)) pe_int (nomark _)) (pss_one (ps_ret (pe_glob (v := .int 1) rfl mS ⟨_, rfl⟩))) pss_nil)
      (pss_cons (ps_set (i := 1) scDo.nd rfl (Or.inl rfl) (pe_ix (ixK K) (pe_fld (pv 0) rfl) (pe_fld (pv 0) rfl) (fun _ _ => rfl)))
      (pss_cons (ps_if (pt_cmpR op_eq (pe_fld (pv 1) rfl) (pe_glob (v := .int 0) rfl m0 ⟨_, rfl⟩) (nomark _)) (pss_one (ps_ret (pe_glob (v := .int 1) rfl mS ⟨_, rfl⟩))) pss_nil)
      (pss_cons (ps_if (pt_cmpR op_eq (pe_fld (pv 1) rfl) (pe_glob (v := .int 1) rfl m1 ⟨_, rfl⟩) (nomark _)) (pss_one (ps_ret (pe_meth (pv 0) T.cl mM GM hr bM .nil pass0 (pa_cons (pv 1) pa_nil)))) pss_nil)
      (pss_cons (ps_expr (pe_meth (pv 0) T.cl mL GL hr bL .nil pass0 (pa_cons (pv 1) pa_nil))) (pss_one (ps_ret (pe_glob (v := .int 0) rfl mD ⟨_, rfl⟩))))))), ?_⟩
    have he := M.sr _ _ M.he
    have el : evs.length = S.qs.length := M.hq.len
    refine ⟨_, rfl, p, C, dx, _, _, rfl, M.hm, T.cl, T.nI, maF_code c lr _, e0, _, rfl, .inl (SqL.of he), rfl, _, rfl, ?_⟩
    refine ite2 (fun z => ?_) (fun z => ?_)
    · have z : evs.length = 0 := by
        have y := of_decide_eq_true z
        injection y with y
        exact Int.ofNat.inj y
      have e : doM S = (1, S) := do_none (List.eq_nil_of_length_eq_zero (by omega))
      rw [e] at k
      exact k _ MA
    have z : evs.length ≠ 0 := fun y => z (decide_eq_true (congrArg V.int (by show ((evs.length : Nat) : Int) = 0; omega)))
    obtain ⟨hn16, hok, hnx⟩ := r64.2.1
    have hlt : S.n < evs.length := by omega
    have hv : evs[S.n]? = some (evs[S.n]'hlt) := List.getElem?_eq_getElem hlt
    obtain ⟨a, q, er, hq1, di, ha0⟩ := M.hq.get hv
    have hq1 : S.qs[S.n]? = some q := hq1
    rw [er] at hv
    have ha := M.sr _ _ ha0
    refine ⟨_, rfl, p, C, dx, _, _, rfl, M.hm, T.cl, T.nI, maF_code c lr _, _, rfl, p, C, dx, _, _, rfl, M.hm, T.cl, T.nN, maF_next c lr _, e0, _, _, _, rfl, rfl, SqL.of he, atI_nat hv, ?_⟩
    refine ⟨_, rfl, a, CI, di, _, _, rfl, ha, TI.cl, TI.nK, inF_kind q, rfl, _, rfl, ?_⟩
    refine ite2 (fun y => ?_) (fun y => ?_)
    · have y : q.a = 0 := by
        have y := of_decide_eq_true y
        injection y with y
        omega
      have e : doM S = (1, S) := do_stop hq1 y
      rw [e] at k
      exact k _ MA
    have y0 : q.a ≠ 0 := fun t => y (decide_eq_true (congrArg V.int (by omega)))
    obtain ⟨hr8, hjn, ok⟩ : q.r < 8 ∧ q.j < S.qs.length ∧ (q.a = 1 ∨ (q.a = 2 ∧ q.k < S.qs.length)) := by
      rcases hok q (List.mem_of_getElem? hq1) with z | z
      · exact absurd z y0
      · exact z
    refine ⟨_, rfl, a, CI, di, _, _, rfl, ha, TI.cl, TI.nK, inF_kind q, rfl, _, rfl, ?_⟩
    refine ite2 (fun y => ?_) (fun y => ?_)
    · have y : q.a = 1 := by
        have y := of_decide_eq_true y
        injection y with y
        omega
      have e : doM S = moreM S q := do_more sm hq1 y hr8
      rw [e] at k
      exact ⟨_, rfl, p, dx, _, rfl, M.hm, maF_no c lr _ (by decide +kernel) (by decide +kernel) (by decide +kernel) (by decide +kernel), _, rfl, H0, p, a, S, q, rfl, MA, ⟨di, ha⟩, hr8, hjn, k⟩
    have y1 : q.a ≠ 1 := fun t => y (decide_eq_true (congrArg V.int (by omega)))
    obtain ⟨y2, hkn⟩ : q.a = 2 ∧ q.k < S.qs.length := by
      rcases ok with z | z
      · exact absurd z y1
      · exact z
    have e : doM S = (0, lessM S q) := do_less sm hq1 y2 hr8
    rw [e] at k
    exact ⟨_, rfl, p, dx, _, rfl, M.hm, maF_no c lr _ (by decide +kernel) (by decide +kernel) (by decide +kernel) (by decide +kernel), _, rfl, H0, p, a, S, q, rfl, MA, ⟨di, ha⟩, hr8, hjn, hkn, fun H1 M1 => k _ M1⟩
theorem scGo : FnScope ["self", "k", "done", "ended"] ["self", "k"] (defScope sMGo) := ⟨rfl, rfl, rfl, by decide +kernel, rfl, by decide +kernel, by decide +kernel⟩
theorem ok_go {f fS fY : Addr} {fd fdS fdY : FuncData} (F : Fun K "go" "Machine.go" sMGo f fd) (T : TxtM K mg C) (GY : FnOk P w K mg base CX0 1 fY fdY ["k"] spMay) (bY : Binds K fdY ["k"] []) (gY : mg "may_be_asked" = some (.ref fY)) (kY : PySem.W.keepIn K (.ref fY) = true)
    (GS : FnOk P w K mg base CX0 2 fS fdS ["self"] (spDo C CU CI)) (bS : Binds K fdS ["self"] []) (mS : Meth K C "do_instruction" fS) : FnOk P w K mg base CX0 3 f fd ["self", "k"] (spGo C CU CI) := by
  obtain ⟨tO, mO⟩ := T.cOut
  obtain ⟨tD, mD⟩ := T.cDone
  refine F.ok scGo (fun vs H Q E h => ?_) (fun cdv A outer s H vs Q E hr h => ?_)
  · obtain ⟨H0, p, S, k, rfl, _⟩ := h
    rfl
  · obtain ⟨H0, p, S, k, rfl, MA, hk, kk⟩ := h
    have hr1 : Room 1 _ := hr.mono (by decide)
    refine ⟨_, pss_cons (ps_if (pt_not (pt_val (pe_call GY hr1 rfl gY kY bY .nil pass0 (pa_cons (pv 1) pa_nil)))) (pss_one (ps_ret (pe_lst (pa_cons (pe_glob (v := .int (-1)) rfl mO ⟨_, rfl⟩) pa_nil)))) pss_nil)
      (pss_cons (ps_for PassesOwn.never rfl (pi_range1 rfl T.range (pa_cons (pv 1) pa_nil)) (pg_name (i := 2) scGo.nd rfl (Or.inl rfl))
        (pss_cons (ps_set (i := 3) scGo.nd rfl (Or.inl rfl) (pe_meth0 (pv 0) T.cl mS GS hr bS .nil pass0))
        (pss_one (ps_if (pt_cmpR op_ne (pv 3) (pe_glob (v := .int 0) rfl mD ⟨_, rfl⟩) (nomark _)) (pss_one (ps_ret (pe_lst (pa_cons (pv 3) (pa_cons (pv 2) pa_nil))))) pss_nil))))
      (pss_one (ps_ret (pe_lst (pa_cons (pe_glob (v := .int 0) rfl mD ⟨_, rfl⟩) (pa_cons (pv 1) pa_nil)))))), ?_⟩
    have refuse : ¬ (0 ≤ k ∧ k ≤ 1000000000) → ∀ q, H q = none → Q (.ref q) (upd H q (.lst [.int (-1)])) := fun z q hq => by
      have e : goM S k = ([-1], S) := by
        unfold goM
        rw [if_pos (Bool.eq_false_iff.mpr fun y => z (between_iff.mp y))]
      rw [e] at kk
      exact kk _ q (MA.new hq) (MA.alloc hq)
    refine ⟨_, rfl, k, rfl, ⟨_, rfl, ?_⟩⟩
    refine ite2 (fun q1 => ?_) (fun q1 => ?_)
    · exact ⟨by show 1 ≤ sizeLine; decide, refuse fun z => by rw [decide_eq_true z] at q1; cases q1⟩
    have q2 : 0 ≤ k ∧ k ≤ 1000000000 := by
      by_cases z : 0 ≤ k ∧ k ≤ 1000000000
      · exact z
      · rw [decide_eq_false z] at q1
        exact absurd rfl q1
    have k5 : k ≤ 5000 := by omega
    have k0 := q2.1
    have er : goM S k = ([(((Rc87.gone S.code k.toNat (S.n, S.cs)).1 : Nat) : Int), (((Rc87.gone S.code k.toNat (S.n, S.cs)).2.1 : Nat) : Int)], { S with cs := (Rc87.gone S.code k.toNat (S.n, S.cs)).2.2.2, n := (Rc87.gone S.code k.toNat (S.n, S.cs)).2.2.1 }) := by
      unfold goM
      rw [if_neg (by rw [between_iff.mpr q2]; decide)]
    rw [er] at kk
    refine ⟨_, rfl, k, rfl, by omega, by omega, for_range (lo := 0) (n := k.toNat) (fun i σ H' => (∃ u v, σ = [some (.ref p), some (.int k), u, v]) ∧ ∃ ci ni, MachAt C CU CI H0 H' p { S with cs := ci, n := ni } ∧ ∀ j, Rc87.gone S.code (i + j) (S.n, S.cs) = addGone i (Rc87.gone S.code j (ni, ci)))
      ⟨⟨_, _, rfl⟩, S.cs, S.n, MA, fun j => by rw [Nat.zero_add]; rfl⟩ ?_ ?_⟩
    · rintro i σ H1 hi ⟨⟨u, v, rfl⟩, ci, ni, M1, hj⟩
      rw [Int.zero_add]
      obtain ⟨dm, fm, hm, nm⟩ := M1.no (x := "do_instruction") (by decide +kernel) (by decide +kernel) (by decide +kernel) (by decide +kernel)
      refine ⟨_, rfl, p, dm, fm, rfl, hm, nm, H0, p, { S with cs := ci, n := ni }, rfl, M1, fun H2 M2 => ?_⟩
      refine ⟨_, rfl, rfl, _, rfl, ?_⟩
      have hki : i + ((k.toNat - i - 1) + 1) = k.toNat := by omega
      rcases gone_one { S with cs := ci, n := ni } with ⟨e1, e2, e3, e4⟩ | ⟨c, c0, e1, e2⟩
      · refine ite2 (fun z => ?_) (fun z => ?_)
        · rw [e1] at z
          exact absurd z (by decide)
        generalize doM { S with cs := ci, n := ni } = X at e1 e2 e3 e4 M2
        obtain ⟨x1, ⟨xcs, xrs, xqs, xn⟩⟩ := X
        dsimp only at e1 e2 e3 e4 M2
        subst e2 e3
        refine ⟨⟨_, _, rfl⟩, xcs, xn, M2, fun j => ?_⟩
        have e5 := hj (j + 1)
        rw [show i + 1 + j = i + (j + 1) by omega]
        refine e5.trans ((congrArg (addGone i) (e4 j)).trans ?_)
        rw [addGone_add, Nat.add_comm 1 i]
        rfl
      · rw [e1] at M2 ⊢
        refine ite2 (fun z => ?_) (fun z => ?_)
        · have e3 := hj ((k.toNat - i - 1) + 1)
          rw [hki] at e3
          have e4 := e3.trans (congrArg (addGone i) (e2 (k.toNat - i - 1)))
          rw [e4] at kk
          refine ⟨_, rfl, _, rfl, (by show 2 ≤ sizeLine; decide), fun q hq => ?_⟩
          have e5 : ((0 + i : Nat) : Int) = (i : Int) := by omega
          have kq := kk _ q (M2.new hq) (by
            show MachAt C CU CI (upd H0 q (.lst [.int (c : Int), .int ((0 + i : Nat) : Int)])) (upd H2 q (.lst [.int (c : Int), .int (i : Int)])) p { S with cs := ci, n := ni }
            rw [e5]
            exact M2.alloc hq)
          exact kq
        · exfalso
          refine z ?_
          rw [Bool.not_eq_true']
          refine decide_eq_false fun y => ?_
          injection y with y
          omega
    · rintro σ H1 ⟨⟨u, v, rfl⟩, ci, ni, M1, hj⟩
      have e3 := hj 0
      rw [Nat.add_zero] at e3
      rw [e3] at kk
      refine ⟨_, rfl, (by show 2 ≤ sizeLine; decide), fun q hq => ?_⟩
      have e5 : ((0 + k.toNat : Nat) : Int) = k := by omega
      exact kk _ q (M1.new hq) (by
        show MachAt C CU CI (upd H0 q (.lst [.int (0 : Int), .int ((0 + k.toNat : Nat) : Int)])) (upd H1 q (.lst [.int (0 : Int), .int k])) p { S with cs := ci, n := ni }
        rw [e5]
        exact M1.alloc hq)
end
end Fc
end
section
set_option Elab.async false
set_option linter.all false
set_option maxRecDepth 100000
set_option maxHeartbeats 4000000
namespace Fc
open PySem L2
def MS.abs (S : MS) : Rc87.Abs := { counters := S.cs, rules := S.rules, code := S.code, at_ := S.n }
/-! ### the calls as the specification has them -/
theorem answer_len (s : Rc87.Abs) (x : Rc87.Call) : (answer s x).length ≤ 3 := by
  unfold answer
  rw [List.length_cons, List.length_map]
  cases x <;> unfold Rc87.does <;> (try dsimp only) <;> (repeat' split) <;> (first | exact (by decide : 0 + 1 ≤ 3) | exact (by decide : 1 + 1 ≤ 3) | exact (by decide : 2 + 1 ≤ 3))
theorem row_back {row : List Int} (h : Bytes row) : rowV (row.map Int.toNat) = row.map V.int := by
  unfold rowV
  rw [List.map_map]
  refine List.map_congr_left fun x hx => ?_
  show V.int ((x.toNat : Nat) : Int) = V.int x
  rw [Int.toNat_of_nonneg (h x hx).1]
theorem does_rule {S : MS} {l : List Nat} (hl : l.length ≤ 80) : Rc87.does S.abs (.rule l (l.length : Int)) = ((addRuleM S l).2.abs, { value := (addRuleM S l).1 }) := by
  have e0 : Rc87.between (l.length : Int) 0 (2 * Rc87.COUNTERS) = true := by
    unfold Rc87.between Rc87.COUNTERS
    rw [Bool.and_eq_true, decide_eq_true_iff, decide_eq_true_iff]
    omega
  unfold Rc87.does addRuleM
  dsimp only
  rw [e0, Int.toNat_natCast]
  have e1 : (l.length == l.length) = true := beq_self_eq_true _
  rw [e1, Bool.and_true, Bool.true_and]
  by_cases c : l.length % 2 = 0
  · have e2 : (l.length % 2 == 0) = true := beq_iff_eq.mpr c
    rw [e2, if_neg (show ¬ (true = false) by decide), if_neg (show ¬ (l.length % 2 ≠ 0) from fun z => z c)]
    have e3 : S.abs.rules.length = S.rs.length := List.length_map _
    rw [e3]
    by_cases d : 64 ≤ S.rs.length
    · rw [if_pos d, if_pos (show Rc87.RULES ≤ S.rs.length from d)]
    · rw [if_neg d, if_neg (show ¬ Rc87.RULES ≤ S.rs.length from d)]
      unfold MS.abs MS.rules
      rw [List.map_append]
      rfl
  · have e2 : (l.length % 2 == 0) = false := by
      rw [beq_eq_false_iff_ne]
      exact c
    rw [e2, if_pos (show false = false from rfl), if_pos (show l.length % 2 ≠ 0 from c)]
    rfl
theorem below_iff {i : Int} : Rc87.below i Rc87.COUNTERS = true ↔ 0 ≤ i ∧ i < 40 := by
  unfold Rc87.below Rc87.COUNTERS
  rw [Bool.and_eq_true, decide_eq_true_iff, decide_eq_true_iff]
  exact Iff.rfl
theorem below_false {i : Int} (h : ¬ (0 ≤ i ∧ i < 40)) : Rc87.below i Rc87.COUNTERS = false := Bool.eq_false_iff.mpr fun z => h (below_iff.mp z)
theorem between_high {v : Int} (h : v ≤ 2147483647) : Rc87.between v 0 Rc87.HIGH = decide (0 ≤ v) := by
  unfold Rc87.between Rc87.HIGH
  rw [decide_eq_true (show v ≤ ((2147483647 : Nat) : Int) from h), Bool.and_true]
  rfl
theorem does_put_no {S : MS} {i v : Int} (hv : v ≤ 2147483647) (h : ¬ (0 ≤ i ∧ i < 40) ∨ v < 0) : Rc87.does S.abs (.put i v) = (S.abs, { value := -1 }) := by
  unfold Rc87.does
  dsimp only
  rw [between_high hv, if_pos]
  · rfl
  · rcases h with h | h
    · rw [below_false h]
      rfl
    · rw [decide_eq_false (by omega), Bool.and_false]
theorem does_put {S : MS} {i v : Int} (hv : v ≤ 2147483647) (h : (0 ≤ i ∧ i < 40) ∧ 0 ≤ v) : Rc87.does S.abs (.put i v) = (MS.abs { S with cs := S.cs.set i.toNat v.toNat }, { value := 0 }) := by
  unfold Rc87.does
  dsimp only
  rw [between_high hv, if_neg]
  · rfl
  · rw [below_iff.mpr h.1, decide_eq_true h.2]
    decide
theorem does_get {S : MS} {i : Int} : Rc87.does S.abs (.get i) = (S.abs, { value := if 0 ≤ i ∧ i < 40 then ((S.cs.getD i.toNat 0 : Nat) : Int) else -1 }) := by
  unfold Rc87.does
  dsimp only
  by_cases h : 0 ≤ i ∧ i < 40
  · rw [below_iff.mpr h, if_neg (by decide), if_pos h]
    rfl
  · rw [below_false h, if_pos rfl, if_neg h]
    rfl
theorem does_step {S : MS} : Rc87.does S.abs .step = ((stepM S).2.abs, { value := (stepM S).1 }) := by
  unfold Rc87.does stepM
  dsimp only
  show (match Rc87.next S.rules S.cs, Rc87.step S.rules S.cs with
    | some i, some d => if Rc87.small d = false then (S.abs, { value := -3 }) else ({ S.abs with counters := d }, { value := (i : Nat) })
    | _, _ => (S.abs, { value := -2 }) : Rc87.Abs × Rc87.Ans) = _
  cases Rc87.next S.rules S.cs with
  | none => rfl
  | some i =>
    cases Rc87.step S.rules S.cs with
    | none => rfl
    | some d =>
      dsimp only
      by_cases c : Rc87.small d = false
      · rw [if_pos c, if_pos c]
      · rw [if_neg c, if_neg c]
        rfl
theorem answer_of {s s' : Rc87.Abs} {x : Rc87.Call} {z : Int} (h : Rc87.does s x = (s', { value := z })) : answer s x = [z] := by
  unfold answer
  rw [h]
  rfl
theorem does_run {S : MS} {k : Int} : (Rc87.does S.abs (.run k)).1 = (runM S k).2.abs ∧ answer S.abs (.run k) = (runM S k).1 := by
  unfold answer Rc87.does runM
  dsimp only
  by_cases c : Rc87.between k 0 Rc87.LONG = false
  · rw [if_pos c, if_pos c]
    exact ⟨rfl, rfl⟩
  · rw [if_neg c, if_neg c]
    exact ⟨rfl, rfl⟩
theorem does_alone {S : MS} {i k : Int} : (Rc87.does S.abs (.alone i k)).1 = (aloneM S i k).2.abs ∧ answer S.abs (.alone i k) = (aloneM S i k).1 := by
  unfold answer Rc87.does aloneM
  dsimp only
  by_cases c : (Rc87.below i Rc87.COUNTERS && Rc87.between k 0 Rc87.LONG) = false
  · rw [if_pos c, if_pos c]
    exact ⟨rfl, rfl⟩
  · rw [if_neg c, if_neg c]
    exact ⟨rfl, rfl⟩
theorem does_go {S : MS} {k : Int} : (Rc87.does S.abs (.go k)).1 = (goM S k).2.abs ∧ answer S.abs (.go k) = (goM S k).1 := by
  unfold answer Rc87.does goM
  dsimp only
  by_cases c : Rc87.between k 0 Rc87.LONG = false
  · rw [if_pos c, if_pos c]
    exact ⟨rfl, rfl⟩
  · rw [if_neg c, if_neg c]
    exact ⟨rfl, rfl⟩
theorem number_lt (c : Rc87.Row) : Rc87.number c < Rc87.BIG := fold_lt _ 1 (by decide)
theorem does_number {S : MS} : (Rc87.does S.abs .number).1 = S.abs ∧ answer S.abs .number = [0, ((Rc87.number S.cs : Nat) : Int)] := by
  refine ⟨rfl, ?_⟩
  show [(0 : Int), ((Rc87.number S.cs % Rc87.BIG : Nat) : Int)] = _
  rw [Nat.mod_eq_of_lt (number_lt _)]
theorem does_ratio {S : MS} {i : Int} : (Rc87.does S.abs (.ratio i)).1 = S.abs ∧ answer S.abs (.ratio i) = ratioM S i := by
  have e0 : S.abs.rules[i.toNat]? = S.rs[i.toNat]?.map Rc87.halves := List.getElem?_map
  unfold answer Rc87.does ratioM
  dsimp only
  rw [e0]
  cases h : S.rs[i.toNat]? with
  | none =>
    have n := List.getElem?_eq_none_iff.mp h
    rw [if_neg (by omega)]
    exact ⟨rfl, rfl⟩
  | some r =>
    have n := (List.getElem?_eq_some_iff.mp h).1
    have ed : S.rs.getD i.toNat [] = r := by
      rw [List.getD_eq_getElem?_getD, h]
      rfl
    dsimp only [Option.map]
    by_cases c : i < 0
    · rw [if_pos c, if_neg (by omega)]
      exact ⟨rfl, rfl⟩
    · rw [if_neg c, if_pos (by omega), ed]
      refine ⟨rfl, ?_⟩
      show [(0 : Int), ((Rc87.number (Rc87.halves r).give % Rc87.BIG : Nat) : Int), ((Rc87.number (Rc87.halves r).take % Rc87.BIG : Nat) : Int)] = _
      rw [Nat.mod_eq_of_lt (number_lt _), Nat.mod_eq_of_lt (number_lt _)]
theorem insOf_ok {l : List Nat} {i : Nat} (h : okQ (l.length / 4) (q4 l i)) : Rc87.insOf l i = some (insQ (q4 l i)) := by
  rw [insOf_eq]
  unfold insQ q4
  unfold okQ q4 at h
  dsimp only at h ⊢
  by_cases c0 : l.getD (4 * i) 0 = 0
  · rw [if_pos c0, if_pos c0]
  · rw [if_neg c0, if_neg c0]
    rcases h with h | ⟨h1, h2, h3⟩
    · exact absurd h c0
    rw [if_neg (by omega)]
    by_cases c1 : l.getD (4 * i) 0 = 1
    · rw [if_pos c1, if_pos c1]
    · rw [if_neg c1, if_neg c1]
      rcases h3 with h3 | ⟨h3, h4⟩
      · exact absurd h3 c1
      rw [if_pos ⟨h3, h4⟩]
theorem insOf_no {l : List Nat} {i : Nat} (h : ¬ okQ (l.length / 4) (q4 l i)) : Rc87.insOf l i = none := by
  rw [insOf_eq]
  unfold okQ q4 at h
  dsimp only at h
  by_cases c0 : l.getD (4 * i) 0 = 0
  · exact absurd (.inl c0) h
  · rw [if_neg c0]
    by_cases c : 8 ≤ l.getD (4 * i + 1) 0 ∨ l.length / 4 ≤ l.getD (4 * i + 2) 0
    · rw [if_pos c]
    · rw [if_neg c]
      by_cases c1 : l.getD (4 * i) 0 = 1
      · exact absurd (.inr ⟨by omega, by omega, .inl c1⟩) h
      · rw [if_neg c1]
        by_cases c2 : l.getD (4 * i) 0 = 2 ∧ l.getD (4 * i + 3) 0 < l.length / 4
        · exact absurd (.inr ⟨by omega, by omega, .inr c2⟩) h
        · rw [if_neg c2]
theorem qsOf_get {l : List Nat} {n i : Nat} (h : i < n) : (qsOf l n)[i]? = some (q4 l i) := by
  unfold qsOf
  rw [List.getElem?_map, List.getElem?_range h]
  rfl
theorem codeOf_eq (l : List Nat) : Rc87.codeOf l = if okAll l = true then some ((qsOf l (l.length / 4)).map insQ) else none := by
  by_cases c : okAll l = true
  · rw [if_pos c]
    have ok : ∀ i, i < l.length / 4 → okQ (l.length / 4) (q4 l i) := fun i hi => of_decide_eq_true (List.all_eq_true.mp c _ (List.mem_of_getElem? (qsOf_get hi)))
    obtain ⟨p, e1, e2, e3⟩ := codeOf_some (l := l) fun i hi => ⟨_, insOf_ok (ok i hi)⟩
    rw [e1]
    refine congrArg some (List.ext_getElem? fun i => ?_)
    by_cases hi : i < l.length / 4
    · rw [e3 i hi, List.getElem?_map, qsOf_get hi, insOf_ok (ok i hi)]
      rfl
    · rw [List.getElem?_eq_none (by omega), List.getElem?_eq_none (by rw [List.length_map, qsOf_len]; omega)]
  · rw [if_neg c]
    have : ∃ i, i < l.length / 4 ∧ ¬ okQ (l.length / 4) (q4 l i) := by
      refine Classical.byContradiction fun z => c ?_
      refine List.all_eq_true.mpr fun q hq => decide_eq_true ?_
      obtain ⟨i, hi, rfl⟩ := List.mem_map.mp hq
      exact Classical.byContradiction fun y => z ⟨i, List.mem_range.mp hi, y⟩
    obtain ⟨i, hi, h⟩ := this
    exact codeOf_none hi (insOf_no h)
theorem does_code {S : MS} {l : List Nat} (hl : l.length ≤ 64) : Rc87.does S.abs (.code l (l.length : Int)) = ((setM S l).2.abs, { value := (setM S l).1 }) := by
  have e0 : Rc87.between (l.length : Int) 0 (4 * Rc87.CODE) = true := by
    unfold Rc87.between Rc87.CODE
    rw [Bool.and_eq_true, decide_eq_true_iff, decide_eq_true_iff]
    omega
  unfold Rc87.does setM
  dsimp only
  rw [e0, Int.toNat_natCast]
  have e1 : (l.length == l.length) = true := beq_self_eq_true _
  rw [e1, Bool.and_true, Bool.true_and]
  by_cases c : l.length % 4 = 0
  · have e2 : (l.length % 4 == 0) = true := beq_iff_eq.mpr c
    rw [e2, if_neg (show ¬ (true = false) by decide), if_neg (show ¬ (l.length % 4 ≠ 0) from fun z => z c), codeOf_eq]
    by_cases d : okAll l = true
    · rw [if_pos d, if_pos d]
      dsimp only
      rw [List.length_map, qsOf_len]
      rfl
    · rw [if_neg d, if_neg d]
  · have e2 : (l.length % 4 == 0) = false := by
      rw [beq_eq_false_iff_ne]
      exact c
    rw [e2, if_pos (show false = false from rfl), if_pos (show l.length % 4 ≠ 0 from c)]
    rfl
theorem one_mem (i : Nat) : ((List.range 40).map fun j => if j ∈ [i] then 1 else 0) = Rc87.one i := by
  unfold Rc87.one Rc87.COUNTERS
  refine List.map_congr_left fun j _ => ?_
  by_cases c : j = i
  · rw [if_pos (List.mem_singleton.mpr c), if_pos c]
  · rw [if_neg (fun z => c (List.mem_singleton.mp z)), if_neg c]
theorem two_mem (i k : Nat) : ((List.range 40).map fun j => if j ∈ [i, k] then 1 else 0) = Rc87.two i k := by
  unfold Rc87.two Rc87.COUNTERS
  refine List.map_congr_left fun j _ => ?_
  have e : j ∈ [i, k] ↔ j = i ∨ j = k := by rw [List.mem_cons, List.mem_singleton]
  by_cases c : j = i ∨ j = k
  · rw [if_pos (e.mpr c), if_pos c]
  · rw [if_neg (fun z => c (e.mp z)), if_neg c]
theorem rulesAt_eq {q : Q4} {n i : Nat} (h : okQ n q) (hn : n ≤ 16) (hi : i < 16) : rulesAt (insQ q, i) = (rowsAt q i).map Rc87.halves := by
  unfold rowsAt insQ
  by_cases c0 : q.a = 0
  · rw [if_pos c0, if_pos c0]
    rfl
  · rw [if_neg c0, if_neg c0]
    rcases h with h | ⟨h1, h2, h3⟩
    · exact absurd h c0
    by_cases c1 : q.a = 1
    · rw [if_pos c1, if_pos c1, List.map_cons, List.map_nil, oneRow_halves (by intro x hx; rw [List.mem_singleton.mp hx]; omega), one_mem, two_mem]
      rfl
    · rw [if_neg c1, if_neg c1, List.map_cons, List.map_cons, List.map_nil, oneRow_halves (by
        intro x hx
        rcases List.mem_cons.mp hx with z | z
        · omega
        · rw [List.mem_singleton.mp z]; omega), oneRow_halves (by intro x hx; rw [List.mem_singleton.mp hx]; omega), one_mem, one_mem, one_mem, two_mem]
      rfl
theorem ruledTo_eq {qs : List Q4} {m : Nat} (hok : ∀ q ∈ qs, okQ m q) (hm : m ≤ 16) (hl : qs.length ≤ 16) : ∀ n, n ≤ qs.length → ruledTo (qs.map insQ) n = (rowsTo qs n).map Rc87.halves
  | 0, _ => rfl
  | n + 1, h => by
    have ih := ruledTo_eq hok hm hl n (by omega)
    have hq : qs[n]? = some (qs[n]'(by omega)) := List.getElem?_eq_getElem _
    have hp : (qs.map insQ)[n]? = some (insQ (qs[n]'(by omega))) := by rw [List.getElem?_map, hq]; rfl
    rw [ruledTo_succ hp, rowsTo_succ hq, List.map_append, ih, rulesAt_eq (hok _ (List.getElem_mem _)) hm (by omega)]
theorem backTo_eq : ∀ n, n ≤ 16 → backTo n = (rowsBack n).map Rc87.halves
  | 0, _ => rfl
  | n + 1, h => by
    have ih := backTo_eq n (by omega)
    rw [backTo_succ, rowsBack_succ, List.map_append, ih, List.map_cons, List.map_nil, oneRow_halves (by intro x hx; rw [List.mem_singleton.mp hx]; omega), one_mem, one_mem]
theorem shown_eq {S : MS} (h : S.cs.length = 40) (hn : S.n < 16) : Rc87.shown (S.n, S.cs) = (zeroed S).set (8 + S.n) 1 := by
  have lz := zeroed_len h
  have es : Rc87.shown (S.n, S.cs) = (List.range 40).map fun j => if j < 8 then S.cs.getD j 0 else if j = 8 + S.n then 1 else 0 := rfl
  rw [es]
  refine List.ext_getElem (by rw [List.length_set, lz, List.length_map, List.length_range]) fun j h1 h2 => ?_
  rw [List.length_set, lz] at h2
  rw [List.getElem_map, List.getElem_range]
  by_cases c : j < 8
  · rw [if_pos c, List.getElem_set_ne (by omega)]
    unfold zeroed
    rw [List.getElem_append_left (by rw [List.length_take]; omega), List.getElem_take, List.getD_eq_getElem?_getD, List.getElem?_eq_getElem (by omega)]
    rfl
  · rw [if_neg c]
    by_cases d : j = 8 + S.n
    · subst d
      rw [if_pos rfl, List.getElem_set_self]
    · rw [if_neg d, List.getElem_set_ne (Ne.symm d)]
      unfold zeroed
      rw [List.getElem_append_right (by rw [List.length_take]; omega), List.getElem_replicate]
theorem does_made {S : MS} (sm : small S.cs) (w : wfc S.qs S.n) : Rc87.does S.abs .made = ((makeM S).abs, { value := (((makeM S).rs.length : Nat) : Int) }) := by
  obtain ⟨w1, w2, w3⟩ := w
  have e1 : Rc87.ruled S.code = (makeM S).rs.map Rc87.halves := by
    have lc : S.code.length = S.qs.length := List.length_map _
    rw [ruled_eq, lc]
    show ruledTo (S.qs.map insQ) S.qs.length ++ _ = (rowsTo S.qs S.qs.length ++ rowsBack S.qs.length).map Rc87.halves
    rw [List.map_append, ruledTo_eq w2 w1 w1 _ (Nat.le_refl _), backTo_eq _ w1]
  have e2 := shown_eq sm.1 (show S.n < 16 by omega)
  unfold Rc87.does
  show (({ S.abs with rules := Rc87.ruled S.code, counters := Rc87.shown (S.n, S.cs) } : Rc87.Abs), ({ value := (((Rc87.ruled S.code).length : Nat) : Int) } : Rc87.Ans)) = _
  rw [e1, e2, List.length_map]
  rfl
end Fc
end
section
set_option Elab.async false
set_option linter.all false
set_option maxRecDepth 100000
set_option maxHeartbeats 4000000
namespace Fc
open PySem L2
/-- an object that is not the machine's changes (or is new) -/
theorem Mach.other {C CU CI : Addr} {kk : Kept} {H0 HR H H' : Hp} {m dx c l : Addr} {rv zs : List V} {rs : List (List Nat)} (M : Mach C CU CI kk H0 HR H m dx c l rv zs rs) {r : Addr} {o u : HO} (hr : H0 r = some o) (B : But r H H') (h' : H' r = some u) : Mach C CU CI kk (upd H0 r u) HR H' m dx c l rv zs rs :=
  have nr : ∀ {b : Addr}, H0 b = none → b ≠ r := fun e => Ne.symm (ne_of_none hr e)
  { s0 := fun b w e => by
      by_cases z : b = r
      · subst z
        rw [upd_same] at e
        rw [h']
        exact e
      · rw [upd_ne z] at e
        exact B _ _ (M.s0 _ _ e) z
    sr := fun b w e => B _ _ (M.sr _ _ e) (nr (M.dj _ _ e))
    dj := fun b w e => by
      rw [upd_ne (nr (M.dj _ _ e))]
      exact M.dj _ _ e
    m0 := by rw [upd_ne (nr M.m0)]; exact M.m0
    c0 := by rw [upd_ne (nr M.c0)]; exact M.c0
    l0 := by rw [upd_ne (nr M.l0)]; exact M.l0
    mr := M.mr
    cr := M.cr
    lr := M.lr
    hm := B _ _ M.hm (nr M.m0)
    hc := B _ _ M.hc (nr M.c0)
    hl := B _ _ M.hl (nr M.l0)
    ncl := M.ncl
    ru := M.ru
    he := M.he
    hq := M.hq }
theorem MachAt.other {C CU CI : Addr} {H0 H H' : Hp} {m : Addr} {S : MS} {r : Addr} {o u : HO} (h : MachAt C CU CI H0 H m S) (hr : H0 r = some o) (B : But r H H') (h' : H' r = some u) : MachAt C CU CI (upd H0 r u) H' m S := by
  obtain ⟨sm, r64, e0, evs, HR, dx, c, l, rv, M⟩ := h
  exact ⟨sm, r64, e0, evs, HR, dx, c, l, rv, M.other hr B h'⟩
theorem MachAt.same {C CU CI : Addr} {H0 H : Hp} {m : Addr} {S : MS} (h : MachAt C CU CI H0 H m S) : Same H0 H := by
  obtain ⟨sm, r64, e0, evs, HR, dx, c, l, rv, M⟩ := h
  exact M.s0
/-- a frame that holds less -/
theorem MachAt.less {C CU CI : Addr} {G0 H0 H : Hp} {m : Addr} {S : MS} (h : MachAt C CU CI H0 H m S) (s : Same G0 H0) : MachAt C CU CI G0 H m S := by
  obtain ⟨sm, r64, e0, evs, HR, dx, c, l, rv, M⟩ := h
  exact ⟨sm, r64, e0, evs, HR, dx, c, l, rv, { M with s0 := s.trans M.s0, dj := fun b o e => s.free (M.dj _ _ e), m0 := s.free M.m0, c0 := s.free M.c0, l0 := s.free M.l0 }⟩
/-- what a call leaves: the answer's list new at q, the reader at n', the machine's state -/
def spAC (K : PySem.W.Frag) (C CU CI CD : Addr) : Sp := fun vs H Q _ => ∃ (H0 : Hp) (m r a dr : Addr) (n : Nat) (ns : List Int) (S : MS) (p : Int) (rest t : List Int) (x : Rc87.Call),
  vs = [.ref m, .int p, .ref r] ∧ MachAt C CU CI H0 H m S ∧ H0 r = some (.ins CD dr (rdF a (n + 1))) ∧ SqL K H0 a (ns.map V.int) ∧ ns.drop n = p :: rest ∧ Turn (p :: rest) x t ∧ p ≠ 0 ∧
  ∀ (H' : Hp) (q d' : Addr) (n' : Nat) (S' : MS), H0 q = none → MachAt C CU CI (upd (upd H0 r (.ins CD d' (rdF a n'))) q (.lst (intV (answer S.abs x)))) H' m S' → ns.drop n' = t → S'.abs = (Rc87.does S.abs x).1 → Q (.ref q) H'
structure TxtC (mg : Str → Option Value) : Prop where
  c0 : ∃ t, mg "BEGIN" = some (.int 0 t)
  c1 : ∃ t, mg "RULE" = some (.int 1 t)
  c2 : ∃ t, mg "PUT" = some (.int 2 t)
  c3 : ∃ t, mg "GET" = some (.int 3 t)
  c4 : ∃ t, mg "STEP" = some (.int 4 t)
  c5 : ∃ t, mg "RUN" = some (.int 5 t)
  c6 : ∃ t, mg "ALONE" = some (.int 6 t)
  c7 : ∃ t, mg "NUMBER" = some (.int 7 t)
  c8 : ∃ t, mg "RATIO" = some (.int 8 t)
  c9 : ∃ t, mg "CODE" = some (.int 9 t)
  c10 : ∃ t, mg "MADE" = some (.int 10 t)
  c11 : ∃ t, mg "GO" = some (.int 11 t)
section
variable {P : Program} {w : World} {K : PySem.W.Frag} {mg : Str → Option Value} {base : Heap} {C CU CI CD : Addr}
theorem seq_upd {r dr d2 a : Addr} {H : Hp} {fs gs : List (Str × V)} {xs : List V} (hr : H r = some (.ins CD dr fs)) (hs : SqL K H a xs) : SqL K (upd H r (.ins CD d2 gs)) a xs :=
  But.seq (p := r) (H := H) (But.refl r H).upd hr hs
theorem upd_self {H : Hp} {r : Addr} {o : HO} (h : H r = some o) : upd H r o = H := funext fun b => by
  by_cases e : b = r
  · subst e; rw [upd_same, h]
  · rw [upd_ne e]
theorem upd_swap {H : Hp} {r q : Addr} {o u : HO} (h : r ≠ q) : upd (upd H r o) q u = upd (upd H q u) r o := funext fun b => by
  by_cases e : b = r
  · subst e
    rw [upd_ne h, upd_same, upd_same]
  · by_cases e2 : b = q
    · subst e2
      rw [upd_same, upd_ne e, upd_same]
    · rw [upd_ne e2, upd_ne e, upd_ne e, upd_ne e2]
/-- behind a reading: the frame with the reader as it is then -/
theorem read_frame {H0 H H1 : Hp} {m r a dr : Addr} {n n' : Nat} {S : MS} {xs : List V} (MA : MachAt C CU CI H0 H m S) (hr : H0 r = some (.ins CD dr (rdF a n))) (hs : SqL K H0 a xs) (R : RdAt CD H1 r a n') (B : But r H H1) :
    ∃ d, MachAt C CU CI (upd H0 r (.ins CD d (rdF a n'))) H1 m S ∧ SqL K (upd H0 r (.ins CD d (rdF a n'))) a xs := by
  obtain ⟨d, h⟩ := R
  exact ⟨d, MA.other hr B h, seq_upd hr hs⟩
/-- an object that is there and not the machine's, taken into the frame -/
theorem Mach.claim {kk : Kept} {H0 HR H : Hp} {m dx c l : Addr} {rv zs : List V} {rs : List (List Nat)} (M : Mach C CU CI kk H0 HR H m dx c l rv zs rs) {q : Addr} {o : HO} (h : H q = some o) (nm : m ≠ q) (nc : c ≠ q) (nl : l ≠ q) (nR : HR q = none) : Mach C CU CI kk (upd H0 q o) HR H m dx c l rv zs rs :=
  { M with
    s0 := fun b w e => by
      by_cases z : b = q
      · subst z
        rw [upd_same] at e
        rw [h]
        exact e
      · rw [upd_ne z] at e
        exact M.s0 _ _ e
    dj := fun b w e => by
      rw [upd_ne (ne_of_none e nR)]
      exact M.dj _ _ e
    m0 := by rw [upd_ne nm]; exact M.m0
    c0 := by rw [upd_ne nc]; exact M.c0
    l0 := by rw [upd_ne nl]; exact M.l0 }
theorem row_frame {H0 H H1 : Hp} {m r a dr q : Addr} {n n' : Nat} {S : MS} {o : HO} {xs : List V} (MA : MachAt C CU CI H0 H m S) (hr : H0 r = some (.ins CD dr (rdF a n))) (hs : SqL K H0 a xs) (R : RdAt CD H1 r a n') (B : But r H H1) (nq : H q = none) (hq : H1 q = some o) :
    ∃ d, MachAt C CU CI (upd (upd H0 r (.ins CD d (rdF a n'))) q o) H1 m S := by
  obtain ⟨d, h⟩ := R
  obtain ⟨sm, r64, e0, evs, HR, dx, c, l, rv, M⟩ := MA
  exact ⟨d, sm, r64, e0, evs, HR, dx, c, l, rv, (M.other hr B h).claim hq (ne_of_none M.hm nq) (ne_of_none M.hc nq) (ne_of_none M.hl nq) (M.sr.free nq)⟩
theorem drop_row {ns row t : List Int} {n : Nat} {p k : Int} (h : ns.drop n = p :: k :: (row ++ t)) : ns.drop (n + 1 + 1 + row.length) = t := by
  rw [← List.drop_drop, ← List.drop_drop, ← List.drop_drop, h]
  exact List.drop_left
theorem scAC : FnScope ["machine", "call", "reader", "i", "v", "k"] ["machine", "call", "reader"] (defScope sAnswerCall) := ⟨rfl, rfl, rfl, by decide +kernel, rfl, by decide +kernel, by decide +kernel⟩
theorem ok_ac {f fN fW fA fP fG fS fR fAl fNu fRa fCo fMk fGo : Addr} {fd fdN fdW fdA fdP fdG fdS fdR fdAl fdNu fdRa fdCo fdMk fdGo : FuncData} (F : Fun K "answer_call" "answer_call" sAnswerCall f fd) (T : TxtM K mg C) (TR : TxtR K mg CD) (TC : TxtC mg)
    (GN : FnOk P w K mg base CX0 1 fN fdN ["self"] (spRNum K CD)) (bN : Binds K fdN ["self"] []) (mN : Meth K CD "read_number" fN)
    (GW : FnOk P w K mg base CX0 2 fW fdW ["self"] (spRRow K CD)) (bW : Binds K fdW ["self"] []) (mW : Meth K CD "read_row" fW)
    (GA : FnOk P w K mg base CX0 3 fA fdA ["self", "amounts"] (spAddRule C CU CI)) (bA : Binds K fdA ["self", "amounts"] []) (mA : Meth K C "add_rule" fA)
    (GP : FnOk P w K mg base CX0 2 fP fdP ["self", "i", "v"] (spMPut C CU CI)) (bP : Binds K fdP ["self", "i", "v"] []) (mP : Meth K C "put" fP)
    (GG : FnOk P w K mg base CX0 2 fG fdG ["self", "i"] (spMGet C CU CI)) (bG : Binds K fdG ["self", "i"] []) (mG : Meth K C "get" fG)
    (GS : FnOk P w K mg base CX0 2 fS fdS ["self"] (spStep C CU CI)) (bS : Binds K fdS ["self"] []) (mS : Meth K C "step" fS)
    (GR : FnOk P w K mg base CX0 3 fR fdR ["self", "k"] (spRun C CU CI)) (bR : Binds K fdR ["self", "k"] []) (mR : Meth K C "run" fR)
    (GAl : FnOk P w K mg base CX0 4 fAl fdAl ["self", "i", "k"] (spAlone C CU CI)) (bAl : Binds K fdAl ["self", "i", "k"] []) (mAl : Meth K C "alone" fAl)
    (GNu : FnOk P w K mg base CX0 3 fNu fdNu ["self"] (spMNumber C CU CI)) (bNu : Binds K fdNu ["self"] []) (mNu : Meth K C "number" fNu)
    (GRa : FnOk P w K mg base CX0 3 fRa fdRa ["self", "i"] (spRatio C CU CI)) (bRa : Binds K fdRa ["self", "i"] []) (mRa : Meth K C "ratio" fRa)
    (GCo : FnOk P w K mg base CX0 4 fCo fdCo ["self", "row"] (spSetCode C CU CI)) (bCo : Binds K fdCo ["self", "row"] []) (mCo : Meth K C "set_code" fCo)
    (GMk : FnOk P w K mg base CX0 6 fMk fdMk ["self"] (spMake C CU CI)) (bMk : Binds K fdMk ["self"] []) (mMk : Meth K C "make_rules" fMk)
    (GGo : FnOk P w K mg base CX0 3 fGo fdGo ["self", "k"] (spGo C CU CI)) (bGo : Binds K fdGo ["self", "k"] []) (mGo : Meth K C "go" fGo) :
    FnOk P w K mg base CX0 7 f fd ["machine", "call", "reader"] (spAC K C CU CI CD) := by
  obtain ⟨t1, m1⟩ := TC.c1
  obtain ⟨t2, m2⟩ := TC.c2
  obtain ⟨t3, m3⟩ := TC.c3
  obtain ⟨t4, m4⟩ := TC.c4
  obtain ⟨t5, m5⟩ := TC.c5
  obtain ⟨t6, m6⟩ := TC.c6
  obtain ⟨t7, m7⟩ := TC.c7
  obtain ⟨t8, m8⟩ := TC.c8
  obtain ⟨t9, m9⟩ := TC.c9
  obtain ⟨t10, m10⟩ := TC.c10
  obtain ⟨t11, m11⟩ := TC.c11
  refine F.ok scAC (fun vs H Q E h => ?_) (fun cdv A outer s H vs Q E hr h => ?_)
  · obtain ⟨H0, m, r, a, dr, n, ns, S, p, rest, t, x, rfl, _⟩ := h
    rfl
  · obtain ⟨H0, m, r, a, dr, n, ns, S, p, rest, t, x, rfl, MA, hr0, hs0, hd, hT, hp0, k⟩ := h
    have hr1 : Room 1 _ := hr.mono (by decide)
    have hr2 : Room 2 _ := hr.mono (by decide)
    have hr3 : Room 3 _ := hr.mono (by decide)
    have hr4 : Room 4 _ := hr.mono (by decide)
    refine ⟨_, pss_cons (ps_if (pt_cmpR op_eq (pv 1) (pe_glob (v := .int 1) rfl m1 ⟨_, rfl⟩) (nomark _)) (pss_one (ps_ret (pe_lst (pa_cons (pe_meth (pv 0) T.cl mA GA hr3 bA .nil pass0 (pa_cons (pe_meth0 (pv 2) TR.cl mW GW hr2 bW .nil pass0) pa_nil)) pa_nil)))) pss_nil)
      (pss_cons (ps_if (pt_cmpR op_eq (pv 1) (pe_glob (v := .int 2) rfl m2 ⟨_, rfl⟩) (nomark _)) (pss_cons (ps_set (i := 3) scAC.nd rfl (Or.inl rfl) (pe_meth0 (pv 2) TR.cl mN GN hr1 bN .nil pass0)) (pss_cons (ps_set (i := 4) scAC.nd rfl (Or.inl rfl) (pe_meth0 (pv 2) TR.cl mN GN hr1 bN .nil pass0))
          (pss_one (ps_ret (pe_lst (pa_cons (pe_meth (pv 0) T.cl mP GP hr2 bP .nil pass0 (pa_cons (pv 3) (pa_cons (pv 4) pa_nil))) pa_nil)))))) pss_nil)
      (pss_cons (ps_if (pt_cmpR op_eq (pv 1) (pe_glob (v := .int 3) rfl m3 ⟨_, rfl⟩) (nomark _)) (pss_one (ps_ret (pe_lst (pa_cons (pe_meth (pv 0) T.cl mG GG hr2 bG .nil pass0 (pa_cons (pe_meth0 (pv 2) TR.cl mN GN hr1 bN .nil pass0) pa_nil)) pa_nil)))) pss_nil)
      (pss_cons (ps_if (pt_cmpR op_eq (pv 1) (pe_glob (v := .int 4) rfl m4 ⟨_, rfl⟩) (nomark _)) (pss_one (ps_ret (pe_lst (pa_cons (pe_meth0 (pv 0) T.cl mS GS hr2 bS .nil pass0) pa_nil)))) pss_nil)
      (pss_cons (ps_if (pt_cmpR op_eq (pv 1) (pe_glob (v := .int 5) rfl m5 ⟨_, rfl⟩) (nomark _)) (pss_one (ps_ret (pe_meth (pv 0) T.cl mR GR hr3 bR .nil pass0 (pa_cons (pe_meth0 (pv 2) TR.cl mN GN hr1 bN .nil pass0) pa_nil)))) pss_nil)
      (pss_cons (ps_if (pt_cmpR op_eq (pv 1) (pe_glob (v := .int 6) rfl m6 ⟨_, rfl⟩) (nomark _)) (pss_cons (ps_set (i := 3) scAC.nd rfl (Or.inl rfl) (pe_meth0 (pv 2) TR.cl mN GN hr1 bN .nil pass0)) (pss_cons (ps_set (i := 5) scAC.nd rfl (Or.inl rfl) (pe_meth0 (pv 2) TR.cl mN GN hr1 bN .nil pass0))
          (pss_one (ps_ret (pe_meth (pv 0) T.cl mAl GAl hr4 bAl .nil pass0 (pa_cons (pv 3) (pa_cons (pv 5) pa_nil))))))) pss_nil)
      (pss_cons (ps_if (pt_cmpR op_eq (pv 1) (pe_glob (v := .int 7) rfl m7 ⟨_, rfl⟩) (nomark _)) (pss_one (ps_ret (pe_meth0 (pv 0) T.cl mNu GNu hr3 bNu .nil pass0))) pss_nil)
      (pss_cons (ps_if (pt_cmpR op_eq (pv 1) (pe_glob (v := .int 8) rfl m8 ⟨_, rfl⟩) (nomark _)) (pss_one (ps_ret (pe_meth (pv 0) T.cl mRa GRa hr3 bRa .nil pass0 (pa_cons (pe_meth0 (pv 2) TR.cl mN GN hr1 bN .nil pass0) pa_nil)))) pss_nil)
      (pss_cons (ps_if (pt_cmpR op_eq (pv 1) (pe_glob (v := .int 9) rfl m9 ⟨_, rfl⟩) (nomark _)) (pss_one (ps_ret (pe_lst (pa_cons (pe_meth (pv 0) T.cl mCo GCo hr4 bCo .nil pass0 (pa_cons (pe_meth0 (pv 2) TR.cl mW GW hr2 bW .nil pass0) pa_nil)) pa_nil)))) pss_nil)
      (pss_cons (ps_if (pt_cmpR op_eq (pv 1) (pe_glob (v := .int 10) rfl m10 ⟨_, rfl⟩) (nomark _)) (pss_one (ps_ret (pe_lst (pa_cons (pe_meth0 (pv 0) T.cl mMk GMk hr bMk .nil pass0) pa_nil)))) pss_nil)
      (pss_cons (ps_if (pt_cmpR op_eq (pv 1) (pe_glob (v := .int 11) rfl m11 ⟨_, rfl⟩) (nomark _)) (pss_one (ps_ret (pe_meth (pv 0) T.cl mGo GGo hr3 bGo .nil pass0 (pa_cons (pe_meth0 (pv 2) TR.cl mN GN hr1 bN .nil pass0) pa_nil)))) pss_nil)
      (pss_one ps_never))))))))))), ?_⟩
    have hr0H := MA.same _ _ hr0
    have hsH := Same.seq MA.same hs0
    obtain ⟨hz, hd1⟩ := drop_get hd
    -- a call's end: one number, a new list
    have fin : ∀ {H1 : Hp} {d n' : Nat} {S' : MS} {z : Int}, MachAt C CU CI (upd H0 r (.ins CD d (rdF a n'))) H1 m S' → ns.drop n' = t → S'.abs = (Rc87.does S.abs x).1 → answer S.abs x = [z] → ∀ q, H1 q = none → Q (.ref q) (upd H1 q (.lst [.int z])) := fun {H1 d n' S' z} M1 e1 e2 e3 q hq => by
      have nq : H0 q = none := by
        have y := M1.new hq
        have nr : q ≠ r := fun e => by rw [e, upd_same] at y; cases y
        rw [upd_ne nr] at y
        exact y
      refine k _ q d n' S' nq ?_ e1 e2
      rw [e3]
      exact M1.alloc hq
    have one : (1 : Nat) ≤ sizeLine := by decide
    refine ⟨_, rfl, rfl, _, rfl, ?_⟩
    refine ite2 (fun c1 => ?_) (fun c1 => ?_)
    · have c1 : p = 1 := by
        have y := of_decide_eq_true c1
        injection y
      subst c1
      cases hT with
      | rule row t hl hb =>
      obtain ⟨dm0, fm0, hm0, nm0⟩ := MA.no (x := "add_rule") (by decide +kernel) (by decide +kernel) (by decide +kernel) (by decide +kernel)
      refine ⟨_, rfl, m, dm0, fm0, rfl, hm0, nm0, _, rfl, r, dr, _, rfl, hr0H, rdF_row a _, r, a, n + 1, ns, row, t, rfl, ⟨dr, hr0H⟩, hsH, hd1, fun H1 q R1 B1 nq hq => ?_⟩
      obtain ⟨d1, M1⟩ := row_frame MA hr0 hs0 R1 B1 nq hq
      have nqr : r ≠ q := ne_of_none hr0H nq
      have f1 : (upd (upd H0 r (.ins CD d1 (rdF a (n + 1 + 1 + row.length)))) q (.lst (row.map V.int))) q = some (.lst (rowV (row.map Int.toNat))) := by
        rw [upd_same, row_back hb]
      have ll : (row.map Int.toNat).length = row.length := List.length_map _
      have dr' := does_rule (S := S) (l := row.map Int.toNat) (by rw [ll]; exact hl)
      rw [ll] at dr'
      refine ⟨_, m, q, S, row.map Int.toNat, rfl, M1, f1, by rw [ll]; exact hl, fun y hy => by (obtain ⟨z, hz, rfl⟩ := List.mem_map.mp hy; have := hb z hz; omega), fun H3 M3 => ⟨one, fin (d := d1) (M3.less ?_) (drop_row hd) (by rw [dr']) (answer_of dr')⟩⟩
      intro b o e
      by_cases z : b = q
      · subst z
        rw [upd_ne (Ne.symm nqr)] at e
        have y := MA.same _ _ e
        rw [nq] at y
        cases y
      · rw [upd_ne z]
        exact e
    have c1 : p ≠ 1 := fun y => c1 (decide_eq_true (congrArg V.int y))
    refine ⟨_, rfl, rfl, _, rfl, ?_⟩
    refine ite2 (fun c2 => ?_) (fun c2 => ?_)
    · have c2 : p = 2 := by
        have y := of_decide_eq_true c2
        injection y
      subst c2
      cases hT with
      | put i v t hi hv =>
      obtain ⟨hz1, hd2⟩ := drop_get hd1
      obtain ⟨hz2, hd3⟩ := drop_get hd2
      refine ⟨_, rfl, r, dr, _, rfl, hr0H, rdF_num a _, r, a, n + 1, ns, i, rfl, ⟨dr, hr0H⟩, hsH, hz1, fun H1 R1 B1 => ?_⟩
      obtain ⟨d1, M1, s1⟩ := read_frame MA hr0 hs0 R1 B1
      have h1 := M1.same _ _ upd_same
      refine ⟨_, rfl, r, d1, _, rfl, h1, rdF_num a _, r, a, n + 2, ns, v, rfl, ⟨d1, h1⟩, Same.seq M1.same s1, hz2, fun H2 R2 B2 => ?_⟩
      obtain ⟨d2, M2, s2⟩ := read_frame M1 upd_same s1 R2 B2
      rw [upd_upd] at M2
      obtain ⟨dm, fm, hm, nm⟩ := M2.no (x := "put") (by decide +kernel) (by decide +kernel) (by decide +kernel) (by decide +kernel)
      exact ⟨_, rfl, m, dm, fm, rfl, hm, nm, _, rfl, _, rfl, _, m, S, i, v, rfl, M2, hv.2, fun H3 => ⟨fun z M3 => ⟨one, fin M3 hd3 (by rw [does_put_no hv.2 z]) (answer_of (does_put_no hv.2 z))⟩, fun z M3 => ⟨one, fin M3 hd3 (by rw [does_put hv.2 z]) (answer_of (does_put hv.2 z))⟩⟩⟩
    have c2 : p ≠ 2 := fun y => c2 (decide_eq_true (congrArg V.int y))
    refine ⟨_, rfl, rfl, _, rfl, ?_⟩
    refine ite2 (fun c3 => ?_) (fun c3 => ?_)
    · have c3 : p = 3 := by
        have y := of_decide_eq_true c3
        injection y
      subst c3
      cases hT with
      | get i t hi =>
      obtain ⟨hz1, hd2⟩ := drop_get hd1
      obtain ⟨dm0, fm0, hm0, nm0⟩ := MA.no (x := "get") (by decide +kernel) (by decide +kernel) (by decide +kernel) (by decide +kernel)
      refine ⟨_, rfl, m, dm0, fm0, rfl, hm0, nm0, _, rfl, r, dr, _, rfl, hr0H, rdF_num a _, r, a, n + 1, ns, i, rfl, ⟨dr, hr0H⟩, hsH, hz1, fun H1 R1 B1 => ?_⟩
      obtain ⟨d1, M1, s1⟩ := read_frame MA hr0 hs0 R1 B1
      exact ⟨_, m, S, i, rfl, M1, fun H3 M3 => ⟨one, fin M3 hd2 (by rw [does_get]) (answer_of does_get)⟩⟩
    have c3 : p ≠ 3 := fun y => c3 (decide_eq_true (congrArg V.int y))
    refine ⟨_, rfl, rfl, _, rfl, ?_⟩
    refine ite2 (fun c4 => ?_) (fun c4 => ?_)
    · have c4 : p = 4 := by
        have y := of_decide_eq_true c4
        injection y
      subst c4
      cases hT with
      | step t =>
      obtain ⟨dm0, fm0, hm0, nm0⟩ := MA.no (x := "step") (by decide +kernel) (by decide +kernel) (by decide +kernel) (by decide +kernel)
      have MA' := MA
      rw [← upd_self hr0] at MA'
      exact ⟨_, rfl, m, dm0, fm0, rfl, hm0, nm0, _, m, S, rfl, MA', fun H3 M3 => ⟨one, fin M3 hd1 (by rw [does_step]) (answer_of does_step)⟩⟩
    have c4 : p ≠ 4 := fun y => c4 (decide_eq_true (congrArg V.int y))
    refine ⟨_, rfl, rfl, _, rfl, ?_⟩
    refine ite2 (fun c5 => ?_) (fun c5 => ?_)
    · have c5 : p = 5 := by
        have y := of_decide_eq_true c5
        injection y
      subst c5
      cases hT with
      | run kk t hi =>
      obtain ⟨hz1, hd2⟩ := drop_get hd1
      obtain ⟨dm0, fm0, hm0, nm0⟩ := MA.no (x := "run") (by decide +kernel) (by decide +kernel) (by decide +kernel) (by decide +kernel)
      refine ⟨_, rfl, m, dm0, fm0, rfl, hm0, nm0, _, rfl, r, dr, _, rfl, hr0H, rdF_num a _, r, a, n + 1, ns, kk, rfl, ⟨dr, hr0H⟩, hsH, hz1, fun H1 R1 B1 => ?_⟩
      obtain ⟨d1, M1, s1⟩ := read_frame MA hr0 hs0 R1 B1
      refine ⟨_, m, S, kk, rfl, M1, hi.2, fun H3 q nq M3 => ?_⟩
      have nr : q ≠ r := fun e => by rw [e, upd_same] at nq; cases nq
      rw [upd_ne nr] at nq
      rw [← does_run.2] at M3
      exact k _ q d1 _ _ nq M3 hd2 does_run.1.symm
    have c5 : p ≠ 5 := fun y => c5 (decide_eq_true (congrArg V.int y))
    refine ⟨_, rfl, rfl, _, rfl, ?_⟩
    refine ite2 (fun c6 => ?_) (fun c6 => ?_)
    · have c6 : p = 6 := by
        have y := of_decide_eq_true c6
        injection y
      subst c6
      cases hT with
      | alone i kk t hi hkk =>
      obtain ⟨hz1, hd2⟩ := drop_get hd1
      obtain ⟨hz2, hd3⟩ := drop_get hd2
      refine ⟨_, rfl, r, dr, _, rfl, hr0H, rdF_num a _, r, a, n + 1, ns, i, rfl, ⟨dr, hr0H⟩, hsH, hz1, fun H1 R1 B1 => ?_⟩
      obtain ⟨d1, M1, s1⟩ := read_frame MA hr0 hs0 R1 B1
      have h1 := M1.same _ _ upd_same
      refine ⟨_, rfl, r, d1, _, rfl, h1, rdF_num a _, r, a, n + 2, ns, kk, rfl, ⟨d1, h1⟩, Same.seq M1.same s1, hz2, fun H2 R2 B2 => ?_⟩
      obtain ⟨d2, M2, s2⟩ := read_frame M1 upd_same s1 R2 B2
      rw [upd_upd] at M2
      obtain ⟨dm, fm, hm, nm⟩ := M2.no (x := "alone") (by decide +kernel) (by decide +kernel) (by decide +kernel) (by decide +kernel)
      refine ⟨_, rfl, m, dm, fm, rfl, hm, nm, _, rfl, _, rfl, _, m, S, i, kk, rfl, M2, hkk.2, fun H3 q nq M3 => ?_⟩
      have nr : q ≠ r := fun e => by rw [e, upd_same] at nq; cases nq
      rw [upd_ne nr] at nq
      rw [← does_alone.2] at M3
      exact k _ q d2 _ _ nq M3 hd3 does_alone.1.symm
    have c6 : p ≠ 6 := fun y => c6 (decide_eq_true (congrArg V.int y))
    refine ⟨_, rfl, rfl, _, rfl, ?_⟩
    refine ite2 (fun c7 => ?_) (fun c7 => ?_)
    · have c7 : p = 7 := by
        have y := of_decide_eq_true c7
        injection y
      subst c7
      cases hT with
      | number t =>
      obtain ⟨dm0, fm0, hm0, nm0⟩ := MA.no (x := "number") (by decide +kernel) (by decide +kernel) (by decide +kernel) (by decide +kernel)
      have MA' := MA
      rw [← upd_self hr0] at MA'
      refine ⟨_, rfl, m, dm0, fm0, rfl, hm0, nm0, _, m, S, rfl, MA', fun H3 q nq M3 => ?_⟩
      have nr : q ≠ r := fun e => by rw [e, upd_same] at nq; cases nq
      rw [upd_ne nr] at nq
      rw [← does_number.2] at M3
      exact k _ q dr _ _ nq M3 hd1 does_number.1.symm
    have c7 : p ≠ 7 := fun y => c7 (decide_eq_true (congrArg V.int y))
    refine ⟨_, rfl, rfl, _, rfl, ?_⟩
    refine ite2 (fun c8 => ?_) (fun c8 => ?_)
    · have c8 : p = 8 := by
        have y := of_decide_eq_true c8
        injection y
      subst c8
      cases hT with
      | ratio i t hi =>
      obtain ⟨hz1, hd2⟩ := drop_get hd1
      obtain ⟨dm0, fm0, hm0, nm0⟩ := MA.no (x := "ratio") (by decide +kernel) (by decide +kernel) (by decide +kernel) (by decide +kernel)
      refine ⟨_, rfl, m, dm0, fm0, rfl, hm0, nm0, _, rfl, r, dr, _, rfl, hr0H, rdF_num a _, r, a, n + 1, ns, i, rfl, ⟨dr, hr0H⟩, hsH, hz1, fun H1 R1 B1 => ?_⟩
      obtain ⟨d1, M1, s1⟩ := read_frame MA hr0 hs0 R1 B1
      refine ⟨_, m, S, i, rfl, M1, fun H3 q nq M3 => ?_⟩
      have nr : q ≠ r := fun e => by rw [e, upd_same] at nq; cases nq
      rw [upd_ne nr] at nq
      rw [← does_ratio.2] at M3
      exact k _ q d1 _ _ nq M3 hd2 does_ratio.1.symm
    have c8 : p ≠ 8 := fun y => c8 (decide_eq_true (congrArg V.int y))
    refine ⟨_, rfl, rfl, _, rfl, ?_⟩
    refine ite2 (fun c9 => ?_) (fun c9 => ?_)
    · have c9 : p = 9 := by
        have y := of_decide_eq_true c9
        injection y
      subst c9
      cases hT with
      | code row t hl hb =>
      obtain ⟨dm0, fm0, hm0, nm0⟩ := MA.no (x := "set_code") (by decide +kernel) (by decide +kernel) (by decide +kernel) (by decide +kernel)
      refine ⟨_, rfl, m, dm0, fm0, rfl, hm0, nm0, _, rfl, r, dr, _, rfl, hr0H, rdF_row a _, r, a, n + 1, ns, row, t, rfl, ⟨dr, hr0H⟩, hsH, hd1, fun H1 q R1 B1 nq hq => ?_⟩
      obtain ⟨d1, M1⟩ := row_frame MA hr0 hs0 R1 B1 nq hq
      have nqr : r ≠ q := ne_of_none hr0H nq
      have f1 : (upd (upd H0 r (.ins CD d1 (rdF a (n + 1 + 1 + row.length)))) q (.lst (row.map V.int))) q = some (.lst (rowV (row.map Int.toNat))) := by
        rw [upd_same, row_back hb]
      have ll : (row.map Int.toNat).length = row.length := List.length_map _
      have dr' := does_code (S := S) (l := row.map Int.toNat) (by rw [ll]; exact hl)
      rw [ll] at dr'
      refine ⟨_, m, q, S, row.map Int.toNat, rfl, M1, f1, by rw [ll]; exact hl, fun H3 M3 => ⟨one, fin (d := d1) (M3.less ?_) (drop_row hd) (by rw [dr']) (answer_of dr')⟩⟩
      intro b o e
      by_cases z : b = q
      · subst z
        rw [upd_ne (Ne.symm nqr)] at e
        have y := MA.same _ _ e
        rw [nq] at y
        cases y
      · rw [upd_ne z]
        exact e
    have c9 : p ≠ 9 := fun y => c9 (decide_eq_true (congrArg V.int y))
    refine ⟨_, rfl, rfl, _, rfl, ?_⟩
    refine ite2 (fun c10 => ?_) (fun c10 => ?_)
    · have c10 : p = 10 := by
        have y := of_decide_eq_true c10
        injection y
      subst c10
      cases hT with
      | made t =>
      obtain ⟨dm0, fm0, hm0, nm0⟩ := MA.no (x := "make_rules") (by decide +kernel) (by decide +kernel) (by decide +kernel) (by decide +kernel)
      have MA' := MA
      rw [← upd_self hr0] at MA'
      have dm := does_made MA.1 MA.2.1.2.1
      exact ⟨_, rfl, m, dm0, fm0, rfl, hm0, nm0, _, m, S, rfl, MA', fun H3 M3 => ⟨one, fin M3 hd1 (by rw [dm]) (answer_of dm)⟩⟩
    have c10 : p ≠ 10 := fun y => c10 (decide_eq_true (congrArg V.int y))
    refine ⟨_, rfl, rfl, _, rfl, ?_⟩
    refine ite2 (fun c11 => ?_) (fun c11 => ?_)
    · have c11 : p = 11 := by
        have y := of_decide_eq_true c11
        injection y
      subst c11
      cases hT with
      | go kk t hi =>
      obtain ⟨hz1, hd2⟩ := drop_get hd1
      obtain ⟨dm0, fm0, hm0, nm0⟩ := MA.no (x := "go") (by decide +kernel) (by decide +kernel) (by decide +kernel) (by decide +kernel)
      refine ⟨_, rfl, m, dm0, fm0, rfl, hm0, nm0, _, rfl, r, dr, _, rfl, hr0H, rdF_num a _, r, a, n + 1, ns, kk, rfl, ⟨dr, hr0H⟩, hsH, hz1, fun H1 R1 B1 => ?_⟩
      obtain ⟨d1, M1, s1⟩ := read_frame MA hr0 hs0 R1 B1
      refine ⟨_, m, S, kk, rfl, M1, hi.2, fun H3 q nq M3 => ?_⟩
      have nr : q ≠ r := fun e => by rw [e, upd_same] at nq; cases nq
      rw [upd_ne nr] at nq
      rw [← does_go.2] at M3
      exact k _ q d1 _ _ nq M3 hd2 does_go.1.symm
    have c11 : p ≠ 11 := fun y => c11 (decide_eq_true (congrArg V.int y))
    cases hT with
    | init t => exact hp0 rfl
    | rule row t hl hb => exact c1 rfl
    | put i v t hi hv => exact c2 rfl
    | get i t hi => exact c3 rfl
    | step t => exact c4 rfl
    | run k t hk => exact c5 rfl
    | alone i k t hi hk => exact c6 rfl
    | number t => exact c7 rfl
    | ratio i t hi => exact c8 rfl
    | code row t hl hb => exact c9 rfl
    | made t => exact c10 rfl
    | go k t hk => exact c11 rfl
end
end Fc
end
section
set_option Elab.async false
set_option linter.all false
set_option maxRecDepth 100000
set_option maxHeartbeats 4000000
namespace Fc
open PySem L2
def spAns (K : PySem.W.Frag) : Sp := fun vs H Q _ => ∃ (a : Addr) (ns : List Int), vs = [.ref a] ∧ SqL K H a (ns.map V.int) ∧ PyRc87.answers_asked ns = true ∧
  ∀ (H' : Hp) (p : Addr), H' p = some (.lst ((PyRc87.answers ns).map V.int)) → Q (.ref p) H'
section
variable {P : Program} {w : World} {K : PySem.W.Frag} {mg : Str → Option Value} {base : Heap} {C CU CI CD : Addr}
/-- what holds between two calls -/
def Word (K : PySem.W.Frag) (C CU CI CD a : Addr) (ns : List Int) (k : Nat) (σ : L2.St) (H : Hp) : Prop := ∃ (H0 : Hp) (r dr m t : Addr) (n : Nat) (S : MS) (raw : Raw) (out : List Int) (u v : Option V),
  σ = [some (.ref a), some (.ref r), some (.ref m), some (.ref t), u, v] ∧ MachAt C CU CI H0 H m S ∧ H0 r = some (.ins CD dr (rdF a n)) ∧ H0 t = some (.lst (intV out)) ∧ (∀ o, SqL K (upd H0 t o) a (ns.map V.int)) ∧
  Left (ns.drop n) raw ∧ k = raw.length ∧ PyRc87.answers ns = out ++ due S.abs raw ∧ out.length + 4 * raw.length ≤ 1600
/-- a call's end: its answer is at q; told has its length and its numbers behind -/
theorem turn_end {G H : Hp} {a r dr m t q : Addr} {n : Nat} {ns out ans tl : List Int} {S : MS} {cs raw : Raw} {u v : Option V} {s : Rc87.Abs} {x : Rc87.Call}
    (M : MachAt C CU CI (upd G q (.lst (intV ans))) H m S) (nq : G q = none) (hr : G r = some (.ins CD dr (rdF a n))) (ht : G t = some (.lst (intV out))) (hs : ∀ o, SqL K (upd G t o) a (ns.map V.int)) (hd : ns.drop n = tl) (L : Left tl cs) (ec : raw.length = cs.length + 1)
    (edue : due s raw = ((answer s x).length : Int) :: (answer s x ++ due (Rc87.does s x).1 cs)) (eS : S.abs = (Rc87.does s x).1) (ex : ans = answer s x) (ea : PyRc87.answers ns = out ++ due s raw) (hl : out.length + 4 * raw.length ≤ 1600) :
    H q = some (.lst (intV ans)) ∧ H t = some (.lst (intV out)) ∧ q ≠ t ∧ ∃ m', m' < raw.length ∧ Word K C CU CI CD a ns m' [some (.ref a), some (.ref r), some (.ref m), some (.ref t), u, v] (upd (upd H t (.lst (intV out ++ [V.int ((intV ans).length : Int)]))) t (.lst ((intV out ++ [V.int ((intV ans).length : Int)]) ++ intV ans))) := by
  have tq : t ≠ q := ne_of_none ht nq
  have rq : r ≠ q := ne_of_none hr nq
  have rt : r ≠ t := ne_of hr ht (by intro z; cases z)
  have ht' : (upd G q (.lst (intV ans))) t = some (.lst (intV out)) := by rw [upd_ne tq]; exact ht
  refine ⟨M.same _ _ upd_same, M.same _ _ ht', Ne.symm tq, cs.length, by omega, ?_⟩
  have e1 : (intV out ++ [V.int ((intV ans).length : Int)]) ++ intV ans = intV (out ++ (((ans.length : Nat) : Int) :: ans)) := by
    unfold intV
    rw [List.map_append, List.map_cons, List.length_map, List.append_assoc]
    rfl
  rw [e1, upd_upd]
  have B : But t H (upd H t (.lst (intV (out ++ (((ans.length : Nat) : Int) :: ans))))) := (But.refl t H).upd
  have M2 := M.other ht' B upd_same
  refine ⟨_, r, dr, m, t, n, S, cs, out ++ (((ans.length : Nat) : Int) :: ans), u, v, rfl, M2, ?_, upd_same, ?_, by rw [hd]; exact L, rfl, ?_, ?_⟩
  · rw [upd_ne rt, upd_ne rq]
    exact hr
  · intro o
    rw [upd_upd, upd_swap (Ne.symm tq)]
    have n2 : (upd G t o) q = none := by rw [upd_ne (Ne.symm tq)]; exact nq
    have up : Same (upd G t o) (upd (upd G t o) q (.lst (intV ans))) := fun b w e => by rw [upd_ne (ne_of_none e n2)]; exact e
    exact up.seq (hs o)
  · rw [ea, edue, eS, ex, List.append_assoc]
    rfl
  · have q3 := answer_len s x
    rw [← ex] at q3
    rw [List.length_append, List.length_cons]
    omega
theorem scAns : FnScope ["calls", "reader", "machine", "told", "call", "answer"] ["calls"] (defScope sAnswers) := ⟨rfl, rfl, rfl, by decide +kernel, rfl, by decide +kernel, by decide +kernel⟩
theorem seq_other {a t : Addr} {H : Hp} {xs ys zs : List V} {o : HO} (ht : H t = some (.lst ys)) (n : a ≠ t) (hs : SqL K H a xs) : SqL K (upd H t o) a xs := by
  rcases hs with (e | ⟨u, e⟩) | e
  · exact .inl (.inl (by rw [upd_ne n]; exact e))
  · exact .inl (.inr ⟨u, by rw [upd_ne n]; exact e⟩)
  · exact .inr e
theorem ok_ans {f fD fM fH fN fC : Addr} {fd fdD fdM fdH fdN fdC : FuncData} (F : Fun K "answers" "answers" sAnswers f fd) (T : TxtM K mg C) (TR : TxtR K mg CD) (TC : TxtC mg)
    (MD : Mk K CD fD) (GD : FnOk P w K mg base CX0 1 fD fdD ["self", "calls"] (spRInit CD)) (bD : Binds K fdD ["self", "calls"] []) (gD : mg "Reader" = some (.ref CD))
    (MM : Mk K C fM) (GM : FnOk P w K mg base CX0 1 fM fdM ["self"] (spMInit C CU CI)) (bM : Binds K fdM ["self"] []) (gM : mg "Machine" = some (.ref C))
    (GH : FnOk P w K mg base CX0 1 fH fdH ["self"] (spRMore K CD)) (bH : Binds K fdH ["self"] []) (mH : Meth K CD "has_more" fH)
    (GN : FnOk P w K mg base CX0 1 fN fdN ["self"] (spRNum K CD)) (bN : Binds K fdN ["self"] []) (mN : Meth K CD "read_number" fN)
    (GC : FnOk P w K mg base CX0 7 fC fdC ["machine", "call", "reader"] (spAC K C CU CI CD)) (bC : Binds K fdC ["machine", "call", "reader"] []) (gC : mg "answer_call" = some (.ref fC)) (kC : PySem.W.keepIn K (.ref fC) = true) :
    FnOk P w K mg base CX0 8 f fd ["calls"] (spAns K) := by
  obtain ⟨t0, m0⟩ := TC.c0
  refine F.ok scAns (fun vs H Q E h => ?_) (fun cdv A outer s H vs Q E hr h => ?_)
  · obtain ⟨a, ns, rfl, _⟩ := h
    rfl
  · obtain ⟨a, ns, rfl, hs, hask, k⟩ := h
    obtain ⟨raw0, L0, n400, e0, -⟩ := left_all hask
    have hr1 : Room 1 _ := hr.mono (by decide)
    have hr2 : Room 2 _ := hr.mono (by decide)
    refine ⟨_, pss_cons (ps_set (i := 1) scAns.nd rfl (Or.inl rfl) (pe_make MD GD hr2 rfl gD bD .nil pass0 (pa_cons (pv 0) pa_nil)))
      (pss_cons (ps_set (i := 2) scAns.nd rfl (Or.inl rfl) (pe_make0 MM GM hr2 rfl gM bM .nil pass0))
      (pss_cons (ps_set (i := 3) scAns.nd rfl (Or.inl rfl) (pe_lst pa_nil))
      (pss_cons (ps_while PassesOwn.never (pt_val (pe_meth0 (pv 1) TR.cl mH GH hr1 bH .nil pass0))
        (pss_cons (ps_set (i := 4) scAns.nd rfl (Or.inl rfl) (pe_meth0 (pv 1) TR.cl mN GN hr1 bN .nil pass0))
        (pss_cons (ps_if (pt_cmpR op_eq (pv 4) (pe_glob (v := .int 0) rfl m0 ⟨_, rfl⟩) (nomark _)) (pss_cons (ps_set (i := 2) scAns.nd rfl (Or.inl rfl) (pe_make0 MM GM hr2 rfl gM bM .nil pass0)) (pss_one (ps_set (i := 5) scAns.nd rfl (Or.inl rfl) (pe_lst (pa_cons pe_int pa_nil)))))
            (pss_one (ps_set (i := 5) scAns.nd rfl (Or.inl rfl) (pe_call GC hr rfl gC kC bC .nil pass0 (pa_cons (pv 2) (pa_cons (pv 4) (pa_cons (pv 1) pa_nil)))))))
        (pss_cons (ps_expr (pe_bm PySem.F.plainAttrs_list PySem.F.slot_list_append PySem.F.type_list_append mt_append (pv 3) (pa_cons (pe_callB call_len_seq (by rfl) T.len PySem.boot_len (pa_cons (pv 5) pa_nil)) pa_nil)))
        (pss_one (ps_expr (pe_bm PySem.F.plainAttrs_list PySem.F.slot_list_extend PySem.F.type_list_extend mt_extend (pv 3) (pa_cons (pv 5) pa_nil))))))))
      (pss_one (ps_ret (pv 3)))))), ?_⟩
    -- reader = Reader(calls)
    refine ⟨_, rfl, fun r dr nr nd ne => ⟨r, dr, a, rfl, upd_same, fun H1 R1 B1 => ⟨rfl, ?_⟩⟩⟩
    have s1 : Same H H1 := fun b o e => B1 b o (by rw [upd_ne (ne_of_none e nr), upd_ne (ne_of_none e nd)]; exact e) (ne_of_none e nr)
    obtain ⟨d1, h1⟩ := R1
    -- machine = Machine()
    intro m dm nm ndm nem
    have s2 : Same H1 (upd (upd H1 dm (.own m)) m (.ins C dm [])) := fun b o e => by
      rw [upd_ne (ne_of_none e nm), upd_ne (ne_of_none e ndm)]
      exact e
    refine ⟨H1, m, dm, rfl, s2, nm, upd_same, fun H2 M2 => ⟨rfl, ?_⟩⟩
    -- told = []
    refine ⟨Nat.zero_le _, fun t nt => ?_⟩
    have M3 := M2.alloc (o := .lst []) nt
    have nt1 := M2.new nt
    have rt : r ≠ t := ne_of_none h1 nt1
    refine ⟨Word K C CU CI CD a ns, ⟨raw0.length, upd H1 t (.lst []), r, d1, m, t, 0, S0, raw0, [], none, none, rfl, M3, by rw [upd_ne rt]; exact h1, upd_same, ?_, L0, rfl, e0, ?_⟩, ?_⟩
    · intro o
      have q := Same.seq s1 hs
      have up : Same H1 (upd H1 t o) := fun b w e => by rw [upd_ne (ne_of_none e nt1)]; exact e
      rw [upd_upd]
      exact up.seq q
    · show 0 + 4 * raw0.length ≤ 1600
      omega
    rintro j σ H3 ⟨G, r, dr, m, t, n, S, raw, out, u, v, rfl, M3, hr0, ht0, hs0, L, rfl, ea, hl⟩
    have hrH := M3.same _ _ hr0
    have hs00 : SqL K G a (ns.map V.int) := by
      have z := hs0 (.lst (intV out))
      rw [upd_self ht0] at z
      exact z
    have hsH := Same.seq M3.same hs00
    have rt : r ≠ t := ne_of hr0 ht0 (by intro z; cases z)
    refine ⟨_, rfl, r, dr, _, rfl, hrH, rdF_more a n, r, a, n, ns, rfl, ⟨dr, hrH⟩, hsH, _, rfl, ?_⟩
    refine ite2 (fun c => ?_) (fun c => ?_)
    · have c := of_decide_eq_true c
      obtain ⟨p, rest, hd⟩ : ∃ p rest, ns.drop n = p :: rest := by
        cases e : ns.drop n with
        | nil => rw [List.drop_eq_nil_iff] at e; omega
        | cons p rest => exact ⟨p, rest, rfl⟩
      rw [hd] at L
      obtain ⟨x, tl, cs, hT, L', ec, edue⟩ := turn_of L
      obtain ⟨hz, hd1⟩ := drop_get hd
      refine ⟨fun σ' H' => ∃ m', m' < raw.length ∧ Word K C CU CI CD a ns m' σ' H', fun _ _ h => h, ?_⟩
      refine ⟨_, rfl, r, dr, _, rfl, hrH, rdF_num a n, r, a, n, ns, p, rfl, ⟨dr, hrH⟩, hsH, hz, fun H4 R4 B4 => ?_⟩
      obtain ⟨d4, M4, s4⟩ := read_frame M3 hr0 hs00 R4 B4
      have hsR : ∀ {G' : Hp} {f1 f2 : List (Str × V)} {e1 e2 : Addr}, G' r = some (.ins CD e1 f1) → (∀ o, SqL K (upd G' t o) a (ns.map V.int)) → ∀ o, SqL K (upd (upd G' r (.ins CD e2 f2)) t o) a (ns.map V.int) := fun h hs o => by
        rw [upd_swap rt]
        exact seq_upd (by rw [upd_ne rt]; exact h) (hs o)
      have tr : t ≠ r := ne_of ht0 hr0 (by intro z; cases z)
      have ht4 : (upd G r (.ins CD d4 (rdF a (n + 1)))) t = some (.lst (intV out)) := by rw [upd_ne tr]; exact ht0
      refine ⟨_, rfl, rfl, _, rfl, ?_⟩
      have w1 : ∀ {G' : Hp}, G' t = some (.lst (intV out)) → out.length < 1600 → (intV out).length < sizeLine := fun _ h => by
        unfold intV
        rw [List.length_map]
        exact Nat.lt_trans h (by decide)
      have lo : out.length < 1597 := by omega
      have lenO : (intV out).length = out.length := List.length_map _
      refine ite2 (fun c0 => ?_) (fun c0 => ?_)
      · have c0 : p = 0 := by
          have y := of_decide_eq_true c0
          injection y
        subst c0
        cases hT with
        | init tl =>
        -- machine = Machine(); answer = [0]
        intro m2 dm nm ndm nem
        have M4s := M4.same
        have s5 : Same (upd G r (.ins CD d4 (rdF a (n + 1)))) (upd (upd H4 dm (.own m2)) m2 (.ins C dm [])) := fun b o e => by
          have e := M4s _ _ e
          rw [upd_ne (ne_of_none e nm), upd_ne (ne_of_none e ndm)]
          exact e
        refine ⟨_, m2, dm, rfl, s5, M4.new nm, upd_same, fun H5 M5 => ⟨rfl, ?_⟩⟩
        refine ⟨by show 1 ≤ sizeLine; decide, fun q nq => ?_⟩
        obtain ⟨hq, ht5, nqt, hw⟩ := turn_end (u := some (.int 0)) (v := some (.ref q)) (x := .init) (s := S.abs) (ans := [0]) (M5.alloc nq) (M5.new nq) upd_same ht4 (hsR hr0 hs0) hd1 L' ec (edue S.abs) rfl rfl ea hl
        refine ⟨_, rfl, .inl ⟨rfl, _, SqL.of ht5⟩, _, rfl, q, _, rfl, .inl (SqL.of hq), t, _, _, rfl, rfl, ht5, by rw [lenO]; exact Nat.lt_trans lo (by decide), ?_⟩
        refine ⟨_, rfl, .inl ⟨rfl, _, SqL.of upd_same⟩, _, rfl, t, q, _, _, rfl, rfl, upd_same, (upd_ne nqt).trans hq, ?_, hw⟩
        rw [List.length_append, lenO]
        show out.length + 1 + 1 ≤ sizeLine
        exact Nat.le_trans (show out.length + 1 + 1 ≤ 1600 by omega) (by decide)
      · have c0 : p ≠ 0 := fun y => c0 (decide_eq_true (congrArg V.int y))
        refine ⟨_, rfl, _, rfl, _, rfl, _, m, r, a, d4, n, ns, S, p, rest, tl, x, rfl, M4, upd_same, s4, hd, hT, c0, fun H5 q d5 n' S' nq M5 hd5 eS => ?_⟩
        rw [upd_upd] at M5
        have hqr : q ≠ r := fun e => by rw [e, upd_same] at nq; cases nq
        have nq2 : (upd G r (.ins CD d5 (rdF a n'))) q = none := by
          rw [upd_ne hqr] at nq ⊢
          exact nq
        have ht6 : (upd G r (.ins CD d5 (rdF a n'))) t = some (.lst (intV out)) := by rw [upd_ne tr]; exact ht0
        obtain ⟨hq, ht5, nqt, hw⟩ := turn_end (u := some (.int p)) (v := some (.ref q)) (x := x) (s := S.abs) (ans := answer S.abs x) M5 nq2 upd_same ht6 (hsR hr0 hs0) hd5 L' ec (edue S.abs) eS rfl ea hl
        have la := answer_len S.abs x
        have lenA : (intV (answer S.abs x)).length = (answer S.abs x).length := List.length_map _
        refine ⟨_, rfl, .inl ⟨rfl, _, SqL.of ht5⟩, _, rfl, q, _, rfl, .inl (SqL.of hq), t, _, _, rfl, rfl, ht5, by rw [lenO]; exact Nat.lt_trans lo (by decide), ?_⟩
        refine ⟨_, rfl, .inl ⟨rfl, _, SqL.of upd_same⟩, _, rfl, t, q, _, _, rfl, rfl, upd_same, (upd_ne nqt).trans hq, ?_, hw⟩
        rw [List.length_append, lenO, lenA]
        show out.length + 1 + (answer S.abs x).length ≤ sizeLine
        exact Nat.le_trans (show out.length + 1 + (answer S.abs x).length ≤ 1601 by omega) (by decide)
    · have c : ¬ n < ns.length := fun z => c (decide_eq_true z)
      have e : ns.drop n = [] := List.drop_eq_nil_iff.mpr (by omega)
      rw [e] at L
      have er := left_nil L
      subst er
      have ea : PyRc87.answers ns = out := by rw [ea]; exact List.append_nil _
      refine ⟨_, rfl, k _ t ?_⟩
      rw [ea]
      exact M3.same _ _ ht0
end
end Fc
end
set_option Elab.async false
set_option linter.all false
set_option maxRecDepth 100000
set_option maxHeartbeats 4000000
namespace Fc
open PySem L2
/-- a written row of whole numbers -/
def valsInt : List Nat → List Value → Bool
  | [], [] => true
  | n :: ns, .int i _ :: vs => decide (i = (n : Int)) && valsInt ns vs
  | _, _ => false
theorem valsInt_vals : ∀ {ns : List Nat} {vs : List Value}, valsInt ns vs = true → Vals (rowV ns) vs
  | [], [], _ => .nil
  | n :: ns, .int i t :: vs, h => by
    unfold valsInt at h
    rw [Bool.and_eq_true, decide_eq_true_iff] at h
    obtain ⟨h1, h2⟩ := h
    subst h1
    exact .cons ⟨t, rfl⟩ (valsInt_vals h2)
theorem valsInt_len : ∀ {ns : List Nat} {vs : List Value}, valsInt ns vs = true → vs.length = ns.length := fun h => by
  have e := (valsInt_vals h).length
  rw [rowV_len] at e
  exact e.symm
theorem valsInt_size {its : Array Value} (h : valsInt [2, 3, 5, 7, 11, 13, 17, 19, 23, 29, 31, 37, 41, 43, 47, 53, 59, 61, 67, 71, 73, 79, 83, 89, 97, 101, 103, 107, 109, 113, 127, 131, 137, 139, 149, 151, 157, 163, 167, 173] its.toList = true) : its.size ≤ sizeLine := by
  have e := valsInt_len h
  have e2 : its.size = 40 := by rw [← Array.length_toList]; exact e
  rw [e2]
  decide
theorem valsInt_ok {its : Array Value} (h : valsInt [2, 3, 5, 7, 11, 13, 17, 19, 23, 29, 31, 37, 41, 43, 47, 53, 59, 61, 67, 71, 73, 79, 83, 89, 97, 101, 103, 107, 109, 113, 127, 131, 137, 139, 149, 151, 157, 163, 167, 173] its.toList = true) : Vals primesV its.toList := by
  unfold primesV
  rw [primes_eq]
  exact valsInt_vals h
theorem all_mk {P : Program} {w : World} {K : PySem.W.Frag} {h : Heap} {mg : Str → Option Value} {fa CU CI C CD f_uinit f_fits f_high f_ininit f_inis f_inrules f_minit f_addr f_put f_get f_step f_take f_run f_alone f_mnum f_ratio f_setc f_make f_go f_doi f_domore f_doless f_rinit f_more f_num f_row f_one f_insof f_arec f_ruof f_pow f_nrest f_isc f_may f_ac f_ans aPR : Addr} (X : K.In h) (G : h.Ns mainGlobals mg) (hfa : mg "answers" = some (.ref fa))
    {od_uinit an_uinit od_fits an_fits od_high an_high od_ininit an_ininit od_inis an_inis od_inrules an_inrules od_minit an_minit od_addr an_addr od_put an_put od_get an_get od_step an_step od_take an_take od_run an_run od_alone an_alone od_mnum an_mnum od_ratio an_ratio od_setc an_setc od_make an_make od_go an_go od_doi an_doi od_domore an_domore od_doless an_doless od_rinit an_rinit od_more an_more od_num an_num od_row an_row od_one an_one od_insof an_insof od_arec an_arec od_ruof an_ruof od_pow an_pow od_nrest an_nrest od_isc an_isc od_may an_may od_ac an_ac od_ans an_ans od_PR : Option Addr} {its_PR : Array Value} {n_PR : Nat} {sl_uinit sl_fits sl_high sl_ininit sl_inis sl_inrules sl_minit sl_addr sl_put sl_get sl_step sl_take sl_run sl_alone sl_mnum sl_ratio sl_setc sl_make sl_go sl_doi sl_domore sl_doless sl_rinit sl_more sl_num sl_row sl_one sl_insof sl_arec sl_ruof sl_pow sl_nrest sl_isc sl_may sl_ac sl_ans sl_PR : Array (Option Value)} {oc_uinit kV_uinit dc_uinit pm_uinit cd_uinit ct_uinit oc_fits kV_fits dc_fits pm_fits cd_fits ct_fits oc_high kV_high dc_high pm_high cd_high ct_high oc_ininit kV_ininit dc_ininit pm_ininit cd_ininit ct_ininit oc_inis kV_inis dc_inis pm_inis cd_inis ct_inis oc_inrules kV_inrules dc_inrules pm_inrules cd_inrules ct_inrules oc_minit kV_minit dc_minit pm_minit cd_minit ct_minit oc_addr kV_addr dc_addr pm_addr cd_addr ct_addr oc_put kV_put dc_put pm_put cd_put ct_put oc_get kV_get dc_get pm_get cd_get ct_get oc_step kV_step dc_step pm_step cd_step ct_step oc_take kV_take dc_take pm_take cd_take ct_take oc_run kV_run dc_run pm_run cd_run ct_run oc_alone kV_alone dc_alone pm_alone cd_alone ct_alone oc_mnum kV_mnum dc_mnum pm_mnum cd_mnum ct_mnum oc_ratio kV_ratio dc_ratio pm_ratio cd_ratio ct_ratio oc_setc kV_setc dc_setc pm_setc cd_setc ct_setc oc_make kV_make dc_make pm_make cd_make ct_make oc_go kV_go dc_go pm_go cd_go ct_go oc_doi kV_doi dc_doi pm_doi cd_doi ct_doi oc_domore kV_domore dc_domore pm_domore cd_domore ct_domore oc_doless kV_doless dc_doless pm_doless cd_doless ct_doless oc_rinit kV_rinit dc_rinit pm_rinit cd_rinit ct_rinit oc_more kV_more dc_more pm_more cd_more ct_more oc_num kV_num dc_num pm_num cd_num ct_num oc_row kV_row dc_row pm_row cd_row ct_row oc_one kV_one dc_one pm_one cd_one ct_one oc_insof kV_insof dc_insof pm_insof cd_insof ct_insof oc_arec kV_arec dc_arec pm_arec cd_arec ct_arec oc_ruof kV_ruof dc_ruof pm_ruof cd_ruof ct_ruof oc_pow kV_pow dc_pow pm_pow cd_pow ct_pow oc_nrest kV_nrest dc_nrest pm_nrest cd_nrest ct_nrest oc_isc kV_isc dc_isc pm_isc cd_isc ct_isc oc_may kV_may dc_may pm_may cd_may ct_may oc_ac kV_ac dc_ac pm_ac cd_ac ct_ac oc_ans kV_ans dc_ans pm_ans cd_ans ct_ans : Value} {t_COUNTERS t_HIGHEST t_BYTES t_STOP t_ONE_MORE t_ONE_LESS t_REGISTERS t_NOW t_SOON t_BOUND t_MOST_RULES t_MOST_STEPS t_OUT_OF_RANGE t_RULES_ARE_FULL t_NONE_FITS t_TOO_HIGH t_NO_INSTRUCTION t_ALL_DONE t_STOPPED_NONE_FITS t_STOPPED_AT_STOP t_STOPPED_TOO_HIGH t_LEFT_ALONE t_BEGIN t_RULE t_PUT t_GET t_STEP t_RUN t_ALONE t_NUMBER t_RATIO t_CODE t_MADE t_GO : Tok}
    (g_CU : PySem.W.nsIn K mainGlobals "Rule" = some (some (.ref CU)))
    (g_CI : PySem.W.nsIn K mainGlobals "Instruction" = some (some (.ref CI)))
    (g_C : PySem.W.nsIn K mainGlobals "Machine" = some (some (.ref C)))
    (g_CD : PySem.W.nsIn K mainGlobals "Reader" = some (some (.ref CD)))
    (a_uinit : PySem.W.findIn K (.ref CU) "__init__" = some (some (.ref f_uinit)))
    (i_uinit : PySem.W.isFn K (.ref f_uinit) = true)
    (l_uinit : K.lookup f_uinit = some ⟨oc_uinit, od_uinit, .func (PySem.W.fnOf "__init__" "Rule.__init__" (defArgs sRuleInit) (defBody sRuleInit) (defScope sRuleInit) .none kV_uinit dc_uinit pm_uinit an_uinit cd_uinit ct_uinit), sl_uinit⟩)
    (c_uinit : PySem.W.codeIn K cd_uinit "Rule.__init__" = true)
    (k_uinit : PySem.W.keepIn K (.ref f_uinit) = true)
    (a_fits : PySem.W.findIn K (.ref CU) "fits" = some (some (.ref f_fits)))
    (i_fits : PySem.W.isFn K (.ref f_fits) = true)
    (l_fits : K.lookup f_fits = some ⟨oc_fits, od_fits, .func (PySem.W.fnOf "fits" "Rule.fits" (defArgs sRuleFits) (defBody sRuleFits) (defScope sRuleFits) .none kV_fits dc_fits pm_fits an_fits cd_fits ct_fits), sl_fits⟩)
    (c_fits : PySem.W.codeIn K cd_fits "Rule.fits" = true)
    (k_fits : PySem.W.keepIn K (.ref f_fits) = true)
    (a_high : PySem.W.findIn K (.ref CU) "goes_too_high" = some (some (.ref f_high)))
    (i_high : PySem.W.isFn K (.ref f_high) = true)
    (l_high : K.lookup f_high = some ⟨oc_high, od_high, .func (PySem.W.fnOf "goes_too_high" "Rule.goes_too_high" (defArgs sRuleHigh) (defBody sRuleHigh) (defScope sRuleHigh) .none kV_high dc_high pm_high an_high cd_high ct_high), sl_high⟩)
    (c_high : PySem.W.codeIn K cd_high "Rule.goes_too_high" = true)
    (k_high : PySem.W.keepIn K (.ref f_high) = true)
    (a_ininit : PySem.W.findIn K (.ref CI) "__init__" = some (some (.ref f_ininit)))
    (i_ininit : PySem.W.isFn K (.ref f_ininit) = true)
    (l_ininit : K.lookup f_ininit = some ⟨oc_ininit, od_ininit, .func (PySem.W.fnOf "__init__" "Instruction.__init__" (defArgs sInInit) (defBody sInInit) (defScope sInInit) .none kV_ininit dc_ininit pm_ininit an_ininit cd_ininit ct_ininit), sl_ininit⟩)
    (c_ininit : PySem.W.codeIn K cd_ininit "Instruction.__init__" = true)
    (k_ininit : PySem.W.keepIn K (.ref f_ininit) = true)
    (a_inis : PySem.W.findIn K (.ref CI) "is_one_of" = some (some (.ref f_inis)))
    (i_inis : PySem.W.isFn K (.ref f_inis) = true)
    (l_inis : K.lookup f_inis = some ⟨oc_inis, od_inis, .func (PySem.W.fnOf "is_one_of" "Instruction.is_one_of" (defArgs sInIs) (defBody sInIs) (defScope sInIs) .none kV_inis dc_inis pm_inis an_inis cd_inis ct_inis), sl_inis⟩)
    (c_inis : PySem.W.codeIn K cd_inis "Instruction.is_one_of" = true)
    (k_inis : PySem.W.keepIn K (.ref f_inis) = true)
    (a_inrules : PySem.W.findIn K (.ref CI) "rules_at" = some (some (.ref f_inrules)))
    (i_inrules : PySem.W.isFn K (.ref f_inrules) = true)
    (l_inrules : K.lookup f_inrules = some ⟨oc_inrules, od_inrules, .func (PySem.W.fnOf "rules_at" "Instruction.rules_at" (defArgs sInRules) (defBody sInRules) (defScope sInRules) .none kV_inrules dc_inrules pm_inrules an_inrules cd_inrules ct_inrules), sl_inrules⟩)
    (c_inrules : PySem.W.codeIn K cd_inrules "Instruction.rules_at" = true)
    (k_inrules : PySem.W.keepIn K (.ref f_inrules) = true)
    (a_minit : PySem.W.findIn K (.ref C) "__init__" = some (some (.ref f_minit)))
    (i_minit : PySem.W.isFn K (.ref f_minit) = true)
    (l_minit : K.lookup f_minit = some ⟨oc_minit, od_minit, .func (PySem.W.fnOf "__init__" "Machine.__init__" (defArgs sMInit) (defBody sMInit) (defScope sMInit) .none kV_minit dc_minit pm_minit an_minit cd_minit ct_minit), sl_minit⟩)
    (c_minit : PySem.W.codeIn K cd_minit "Machine.__init__" = true)
    (k_minit : PySem.W.keepIn K (.ref f_minit) = true)
    (a_addr : PySem.W.findIn K (.ref C) "add_rule" = some (some (.ref f_addr)))
    (i_addr : PySem.W.isFn K (.ref f_addr) = true)
    (l_addr : K.lookup f_addr = some ⟨oc_addr, od_addr, .func (PySem.W.fnOf "add_rule" "Machine.add_rule" (defArgs sMAddRule) (defBody sMAddRule) (defScope sMAddRule) .none kV_addr dc_addr pm_addr an_addr cd_addr ct_addr), sl_addr⟩)
    (c_addr : PySem.W.codeIn K cd_addr "Machine.add_rule" = true)
    (k_addr : PySem.W.keepIn K (.ref f_addr) = true)
    (a_put : PySem.W.findIn K (.ref C) "put" = some (some (.ref f_put)))
    (i_put : PySem.W.isFn K (.ref f_put) = true)
    (l_put : K.lookup f_put = some ⟨oc_put, od_put, .func (PySem.W.fnOf "put" "Machine.put" (defArgs sMPut) (defBody sMPut) (defScope sMPut) .none kV_put dc_put pm_put an_put cd_put ct_put), sl_put⟩)
    (c_put : PySem.W.codeIn K cd_put "Machine.put" = true)
    (k_put : PySem.W.keepIn K (.ref f_put) = true)
    (a_get : PySem.W.findIn K (.ref C) "get" = some (some (.ref f_get)))
    (i_get : PySem.W.isFn K (.ref f_get) = true)
    (l_get : K.lookup f_get = some ⟨oc_get, od_get, .func (PySem.W.fnOf "get" "Machine.get" (defArgs sMGet) (defBody sMGet) (defScope sMGet) .none kV_get dc_get pm_get an_get cd_get ct_get), sl_get⟩)
    (c_get : PySem.W.codeIn K cd_get "Machine.get" = true)
    (k_get : PySem.W.keepIn K (.ref f_get) = true)
    (a_step : PySem.W.findIn K (.ref C) "step" = some (some (.ref f_step)))
    (i_step : PySem.W.isFn K (.ref f_step) = true)
    (l_step : K.lookup f_step = some ⟨oc_step, od_step, .func (PySem.W.fnOf "step" "Machine.step" (defArgs sMStep) (defBody sMStep) (defScope sMStep) .none kV_step dc_step pm_step an_step cd_step ct_step), sl_step⟩)
    (c_step : PySem.W.codeIn K cd_step "Machine.step" = true)
    (k_step : PySem.W.keepIn K (.ref f_step) = true)
    (a_take : PySem.W.findIn K (.ref C) "take_and_give" = some (some (.ref f_take)))
    (i_take : PySem.W.isFn K (.ref f_take) = true)
    (l_take : K.lookup f_take = some ⟨oc_take, od_take, .func (PySem.W.fnOf "take_and_give" "Machine.take_and_give" (defArgs sMTake) (defBody sMTake) (defScope sMTake) .none kV_take dc_take pm_take an_take cd_take ct_take), sl_take⟩)
    (c_take : PySem.W.codeIn K cd_take "Machine.take_and_give" = true)
    (k_take : PySem.W.keepIn K (.ref f_take) = true)
    (a_run : PySem.W.findIn K (.ref C) "run" = some (some (.ref f_run)))
    (i_run : PySem.W.isFn K (.ref f_run) = true)
    (l_run : K.lookup f_run = some ⟨oc_run, od_run, .func (PySem.W.fnOf "run" "Machine.run" (defArgs sMRun) (defBody sMRun) (defScope sMRun) .none kV_run dc_run pm_run an_run cd_run ct_run), sl_run⟩)
    (c_run : PySem.W.codeIn K cd_run "Machine.run" = true)
    (k_run : PySem.W.keepIn K (.ref f_run) = true)
    (a_alone : PySem.W.findIn K (.ref C) "alone" = some (some (.ref f_alone)))
    (i_alone : PySem.W.isFn K (.ref f_alone) = true)
    (l_alone : K.lookup f_alone = some ⟨oc_alone, od_alone, .func (PySem.W.fnOf "alone" "Machine.alone" (defArgs sMAlone) (defBody sMAlone) (defScope sMAlone) .none kV_alone dc_alone pm_alone an_alone cd_alone ct_alone), sl_alone⟩)
    (c_alone : PySem.W.codeIn K cd_alone "Machine.alone" = true)
    (k_alone : PySem.W.keepIn K (.ref f_alone) = true)
    (a_mnum : PySem.W.findIn K (.ref C) "number" = some (some (.ref f_mnum)))
    (i_mnum : PySem.W.isFn K (.ref f_mnum) = true)
    (l_mnum : K.lookup f_mnum = some ⟨oc_mnum, od_mnum, .func (PySem.W.fnOf "number" "Machine.number" (defArgs sMNumber) (defBody sMNumber) (defScope sMNumber) .none kV_mnum dc_mnum pm_mnum an_mnum cd_mnum ct_mnum), sl_mnum⟩)
    (c_mnum : PySem.W.codeIn K cd_mnum "Machine.number" = true)
    (k_mnum : PySem.W.keepIn K (.ref f_mnum) = true)
    (a_ratio : PySem.W.findIn K (.ref C) "ratio" = some (some (.ref f_ratio)))
    (i_ratio : PySem.W.isFn K (.ref f_ratio) = true)
    (l_ratio : K.lookup f_ratio = some ⟨oc_ratio, od_ratio, .func (PySem.W.fnOf "ratio" "Machine.ratio" (defArgs sMRatio) (defBody sMRatio) (defScope sMRatio) .none kV_ratio dc_ratio pm_ratio an_ratio cd_ratio ct_ratio), sl_ratio⟩)
    (c_ratio : PySem.W.codeIn K cd_ratio "Machine.ratio" = true)
    (k_ratio : PySem.W.keepIn K (.ref f_ratio) = true)
    (a_setc : PySem.W.findIn K (.ref C) "set_code" = some (some (.ref f_setc)))
    (i_setc : PySem.W.isFn K (.ref f_setc) = true)
    (l_setc : K.lookup f_setc = some ⟨oc_setc, od_setc, .func (PySem.W.fnOf "set_code" "Machine.set_code" (defArgs sMSetCode) (defBody sMSetCode) (defScope sMSetCode) .none kV_setc dc_setc pm_setc an_setc cd_setc ct_setc), sl_setc⟩)
    (c_setc : PySem.W.codeIn K cd_setc "Machine.set_code" = true)
    (k_setc : PySem.W.keepIn K (.ref f_setc) = true)
    (a_make : PySem.W.findIn K (.ref C) "make_rules" = some (some (.ref f_make)))
    (i_make : PySem.W.isFn K (.ref f_make) = true)
    (l_make : K.lookup f_make = some ⟨oc_make, od_make, .func (PySem.W.fnOf "make_rules" "Machine.make_rules" (defArgs sMMake) (defBody sMMake) (defScope sMMake) .none kV_make dc_make pm_make an_make cd_make ct_make), sl_make⟩)
    (c_make : PySem.W.codeIn K cd_make "Machine.make_rules" = true)
    (k_make : PySem.W.keepIn K (.ref f_make) = true)
    (a_go : PySem.W.findIn K (.ref C) "go" = some (some (.ref f_go)))
    (i_go : PySem.W.isFn K (.ref f_go) = true)
    (l_go : K.lookup f_go = some ⟨oc_go, od_go, .func (PySem.W.fnOf "go" "Machine.go" (defArgs sMGo) (defBody sMGo) (defScope sMGo) .none kV_go dc_go pm_go an_go cd_go ct_go), sl_go⟩)
    (c_go : PySem.W.codeIn K cd_go "Machine.go" = true)
    (k_go : PySem.W.keepIn K (.ref f_go) = true)
    (a_doi : PySem.W.findIn K (.ref C) "do_instruction" = some (some (.ref f_doi)))
    (i_doi : PySem.W.isFn K (.ref f_doi) = true)
    (l_doi : K.lookup f_doi = some ⟨oc_doi, od_doi, .func (PySem.W.fnOf "do_instruction" "Machine.do_instruction" (defArgs sMDo) (defBody sMDo) (defScope sMDo) .none kV_doi dc_doi pm_doi an_doi cd_doi ct_doi), sl_doi⟩)
    (c_doi : PySem.W.codeIn K cd_doi "Machine.do_instruction" = true)
    (k_doi : PySem.W.keepIn K (.ref f_doi) = true)
    (a_domore : PySem.W.findIn K (.ref C) "do_one_more" = some (some (.ref f_domore)))
    (i_domore : PySem.W.isFn K (.ref f_domore) = true)
    (l_domore : K.lookup f_domore = some ⟨oc_domore, od_domore, .func (PySem.W.fnOf "do_one_more" "Machine.do_one_more" (defArgs sMMore) (defBody sMMore) (defScope sMMore) .none kV_domore dc_domore pm_domore an_domore cd_domore ct_domore), sl_domore⟩)
    (c_domore : PySem.W.codeIn K cd_domore "Machine.do_one_more" = true)
    (k_domore : PySem.W.keepIn K (.ref f_domore) = true)
    (a_doless : PySem.W.findIn K (.ref C) "do_one_less" = some (some (.ref f_doless)))
    (i_doless : PySem.W.isFn K (.ref f_doless) = true)
    (l_doless : K.lookup f_doless = some ⟨oc_doless, od_doless, .func (PySem.W.fnOf "do_one_less" "Machine.do_one_less" (defArgs sMLess) (defBody sMLess) (defScope sMLess) .none kV_doless dc_doless pm_doless an_doless cd_doless ct_doless), sl_doless⟩)
    (c_doless : PySem.W.codeIn K cd_doless "Machine.do_one_less" = true)
    (k_doless : PySem.W.keepIn K (.ref f_doless) = true)
    (a_rinit : PySem.W.findIn K (.ref CD) "__init__" = some (some (.ref f_rinit)))
    (i_rinit : PySem.W.isFn K (.ref f_rinit) = true)
    (l_rinit : K.lookup f_rinit = some ⟨oc_rinit, od_rinit, .func (PySem.W.fnOf "__init__" "Reader.__init__" (defArgs sRInit) (defBody sRInit) (defScope sRInit) .none kV_rinit dc_rinit pm_rinit an_rinit cd_rinit ct_rinit), sl_rinit⟩)
    (c_rinit : PySem.W.codeIn K cd_rinit "Reader.__init__" = true)
    (k_rinit : PySem.W.keepIn K (.ref f_rinit) = true)
    (a_more : PySem.W.findIn K (.ref CD) "has_more" = some (some (.ref f_more)))
    (i_more : PySem.W.isFn K (.ref f_more) = true)
    (l_more : K.lookup f_more = some ⟨oc_more, od_more, .func (PySem.W.fnOf "has_more" "Reader.has_more" (defArgs sRMore) (defBody sRMore) (defScope sRMore) .none kV_more dc_more pm_more an_more cd_more ct_more), sl_more⟩)
    (c_more : PySem.W.codeIn K cd_more "Reader.has_more" = true)
    (k_more : PySem.W.keepIn K (.ref f_more) = true)
    (a_num : PySem.W.findIn K (.ref CD) "read_number" = some (some (.ref f_num)))
    (i_num : PySem.W.isFn K (.ref f_num) = true)
    (l_num : K.lookup f_num = some ⟨oc_num, od_num, .func (PySem.W.fnOf "read_number" "Reader.read_number" (defArgs sRNum) (defBody sRNum) (defScope sRNum) .none kV_num dc_num pm_num an_num cd_num ct_num), sl_num⟩)
    (c_num : PySem.W.codeIn K cd_num "Reader.read_number" = true)
    (k_num : PySem.W.keepIn K (.ref f_num) = true)
    (a_row : PySem.W.findIn K (.ref CD) "read_row" = some (some (.ref f_row)))
    (i_row : PySem.W.isFn K (.ref f_row) = true)
    (l_row : K.lookup f_row = some ⟨oc_row, od_row, .func (PySem.W.fnOf "read_row" "Reader.read_row" (defArgs sRRow) (defBody sRRow) (defScope sRRow) .none kV_row dc_row pm_row an_row cd_row ct_row), sl_row⟩)
    (c_row : PySem.W.codeIn K cd_row "Reader.read_row" = true)
    (k_row : PySem.W.keepIn K (.ref f_row) = true)
    (a_one : PySem.W.nsIn K mainGlobals "one_each" = some (some (.ref f_one)))
    (l_one : K.lookup f_one = some ⟨oc_one, od_one, .func (PySem.W.fnOf "one_each" "one_each" (defArgs sOneEach) (defBody sOneEach) (defScope sOneEach) .none kV_one dc_one pm_one an_one cd_one ct_one), sl_one⟩)
    (c_one : PySem.W.codeIn K cd_one "one_each" = true)
    (k_one : PySem.W.keepIn K (.ref f_one) = true)
    (a_insof : PySem.W.nsIn K mainGlobals "instructions_of" = some (some (.ref f_insof)))
    (l_insof : K.lookup f_insof = some ⟨oc_insof, od_insof, .func (PySem.W.fnOf "instructions_of" "instructions_of" (defArgs sInsOf) (defBody sInsOf) (defScope sInsOf) .none kV_insof dc_insof pm_insof an_insof cd_insof ct_insof), sl_insof⟩)
    (c_insof : PySem.W.codeIn K cd_insof "instructions_of" = true)
    (k_insof : PySem.W.keepIn K (.ref f_insof) = true)
    (a_arec : PySem.W.nsIn K mainGlobals "are_code" = some (some (.ref f_arec)))
    (l_arec : K.lookup f_arec = some ⟨oc_arec, od_arec, .func (PySem.W.fnOf "are_code" "are_code" (defArgs sAreCode) (defBody sAreCode) (defScope sAreCode) .none kV_arec dc_arec pm_arec an_arec cd_arec ct_arec), sl_arec⟩)
    (c_arec : PySem.W.codeIn K cd_arec "are_code" = true)
    (k_arec : PySem.W.keepIn K (.ref f_arec) = true)
    (a_ruof : PySem.W.nsIn K mainGlobals "rules_of" = some (some (.ref f_ruof)))
    (l_ruof : K.lookup f_ruof = some ⟨oc_ruof, od_ruof, .func (PySem.W.fnOf "rules_of" "rules_of" (defArgs sRulesOf) (defBody sRulesOf) (defScope sRulesOf) .none kV_ruof dc_ruof pm_ruof an_ruof cd_ruof ct_ruof), sl_ruof⟩)
    (c_ruof : PySem.W.codeIn K cd_ruof "rules_of" = true)
    (k_ruof : PySem.W.keepIn K (.ref f_ruof) = true)
    (a_pow : PySem.W.nsIn K mainGlobals "power_rest" = some (some (.ref f_pow)))
    (l_pow : K.lookup f_pow = some ⟨oc_pow, od_pow, .func (PySem.W.fnOf "power_rest" "power_rest" (defArgs sPower) (defBody sPower) (defScope sPower) .none kV_pow dc_pow pm_pow an_pow cd_pow ct_pow), sl_pow⟩)
    (c_pow : PySem.W.codeIn K cd_pow "power_rest" = true)
    (k_pow : PySem.W.keepIn K (.ref f_pow) = true)
    (a_nrest : PySem.W.nsIn K mainGlobals "number_rest" = some (some (.ref f_nrest)))
    (l_nrest : K.lookup f_nrest = some ⟨oc_nrest, od_nrest, .func (PySem.W.fnOf "number_rest" "number_rest" (defArgs sNumber) (defBody sNumber) (defScope sNumber) .none kV_nrest dc_nrest pm_nrest an_nrest cd_nrest ct_nrest), sl_nrest⟩)
    (c_nrest : PySem.W.codeIn K cd_nrest "number_rest" = true)
    (k_nrest : PySem.W.keepIn K (.ref f_nrest) = true)
    (a_isc : PySem.W.nsIn K mainGlobals "is_counter" = some (some (.ref f_isc)))
    (l_isc : K.lookup f_isc = some ⟨oc_isc, od_isc, .func (PySem.W.fnOf "is_counter" "is_counter" (defArgs sIsCounter) (defBody sIsCounter) (defScope sIsCounter) .none kV_isc dc_isc pm_isc an_isc cd_isc ct_isc), sl_isc⟩)
    (c_isc : PySem.W.codeIn K cd_isc "is_counter" = true)
    (k_isc : PySem.W.keepIn K (.ref f_isc) = true)
    (a_may : PySem.W.nsIn K mainGlobals "may_be_asked" = some (some (.ref f_may)))
    (l_may : K.lookup f_may = some ⟨oc_may, od_may, .func (PySem.W.fnOf "may_be_asked" "may_be_asked" (defArgs sMayBe) (defBody sMayBe) (defScope sMayBe) .none kV_may dc_may pm_may an_may cd_may ct_may), sl_may⟩)
    (c_may : PySem.W.codeIn K cd_may "may_be_asked" = true)
    (k_may : PySem.W.keepIn K (.ref f_may) = true)
    (a_ac : PySem.W.nsIn K mainGlobals "answer_call" = some (some (.ref f_ac)))
    (l_ac : K.lookup f_ac = some ⟨oc_ac, od_ac, .func (PySem.W.fnOf "answer_call" "answer_call" (defArgs sAnswerCall) (defBody sAnswerCall) (defScope sAnswerCall) .none kV_ac dc_ac pm_ac an_ac cd_ac ct_ac), sl_ac⟩)
    (c_ac : PySem.W.codeIn K cd_ac "answer_call" = true)
    (k_ac : PySem.W.keepIn K (.ref f_ac) = true)
    (a_ans : PySem.W.nsIn K mainGlobals "answers" = some (some (.ref f_ans)))
    (l_ans : K.lookup f_ans = some ⟨oc_ans, od_ans, .func (PySem.W.fnOf "answers" "answers" (defArgs sAnswers) (defBody sAnswers) (defScope sAnswers) .none kV_ans dc_ans pm_ans an_ans cd_ans ct_ans), sl_ans⟩)
    (c_ans : PySem.W.codeIn K cd_ans "answers" = true)
    (k_ans : PySem.W.keepIn K (.ref f_ans) = true)
    (pg_CU : PySem.W.plainGet K CU Str.empty = true)
    (hd_CU : PySem.W.hasDictIn K CU = true)
    (po_CU : PySem.W.plainOver K CU = true)
    (sa_CU : PySem.W.findIn K (.ref CU) "__setattr__" = some (some (.builtin "object.__setattr__")))
    (mk_CU : PySem.W.makesIn K CU = true)
    (kc_CU : PySem.W.keepIn K (.ref CU) = true)
    (n_CU_taken : PySem.W.findIn K (.ref CU) "taken" = some none)
    (n_CU_given : PySem.W.findIn K (.ref CU) "given" = some none)
    (n_CU_takes : PySem.W.findIn K (.ref CU) "takes" = some none)
    (n_CU_changes : PySem.W.findIn K (.ref CU) "changes" = some none)
    (pg_CI : PySem.W.plainGet K CI Str.empty = true)
    (hd_CI : PySem.W.hasDictIn K CI = true)
    (po_CI : PySem.W.plainOver K CI = true)
    (sa_CI : PySem.W.findIn K (.ref CI) "__setattr__" = some (some (.builtin "object.__setattr__")))
    (mk_CI : PySem.W.makesIn K CI = true)
    (kc_CI : PySem.W.keepIn K (.ref CI) = true)
    (n_CI_kind : PySem.W.findIn K (.ref CI) "kind" = some none)
    (n_CI_counter : PySem.W.findIn K (.ref CI) "counter" = some none)
    (n_CI_then : PySem.W.findIn K (.ref CI) "then" = some none)
    (n_CI_otherwise : PySem.W.findIn K (.ref CI) "otherwise" = some none)
    (pg_C : PySem.W.plainGet K C Str.empty = true)
    (hd_C : PySem.W.hasDictIn K C = true)
    (po_C : PySem.W.plainOver K C = true)
    (sa_C : PySem.W.findIn K (.ref C) "__setattr__" = some (some (.builtin "object.__setattr__")))
    (mk_C : PySem.W.makesIn K C = true)
    (kc_C : PySem.W.keepIn K (.ref C) = true)
    (n_C_counters : PySem.W.findIn K (.ref C) "counters" = some none)
    (n_C_rules : PySem.W.findIn K (.ref C) "rules" = some none)
    (n_C_instructions : PySem.W.findIn K (.ref C) "instructions" = some none)
    (n_C_next_instruction : PySem.W.findIn K (.ref C) "next_instruction" = some none)
    (pg_CD : PySem.W.plainGet K CD Str.empty = true)
    (hd_CD : PySem.W.hasDictIn K CD = true)
    (po_CD : PySem.W.plainOver K CD = true)
    (sa_CD : PySem.W.findIn K (.ref CD) "__setattr__" = some (some (.builtin "object.__setattr__")))
    (mk_CD : PySem.W.makesIn K CD = true)
    (kc_CD : PySem.W.keepIn K (.ref CD) = true)
    (n_CD_calls : PySem.W.findIn K (.ref CD) "calls" = some none)
    (n_CD_at : PySem.W.findIn K (.ref CD) "at" = some none)
    (z_len : PySem.W.nsIn K mainGlobals "len" = some none)
    (z_range : PySem.W.nsIn K mainGlobals "range" = some none)
    (z_enumerate : PySem.W.nsIn K mainGlobals "enumerate" = some none)
    (z_all : PySem.W.nsIn K mainGlobals "all" = some none)
    (z_sum : PySem.W.nsIn K mainGlobals "sum" = some none)
    (g_PR : PySem.W.nsIn K mainGlobals "PRIMES" = some (some (.ref aPR)))
    (l_PR : K.lookup aPR = some ⟨.type "tuple", od_PR, .seq its_PR n_PR, sl_PR⟩)
    (h_PR : valsInt [2, 3, 5, 7, 11, 13, 17, 19, 23, 29, 31, 37, 41, 43, 47, 53, 59, 61, 67, 71, 73, 79, 83, 89, 97, 101, 103, 107, 109, 113, 127, 131, 137, 139, 149, 151, 157, 163, 167, 173] its_PR.toList = true)
    (v_COUNTERS : PySem.W.nsIn K mainGlobals "COUNTERS" = some (some (.int (40) t_COUNTERS)))
    (v_HIGHEST : PySem.W.nsIn K mainGlobals "HIGHEST" = some (some (.int (2147483647) t_HIGHEST)))
    (v_BYTES : PySem.W.nsIn K mainGlobals "BYTES" = some (some (.int (4) t_BYTES)))
    (v_STOP : PySem.W.nsIn K mainGlobals "STOP" = some (some (.int (0) t_STOP)))
    (v_ONE_MORE : PySem.W.nsIn K mainGlobals "ONE_MORE" = some (some (.int (1) t_ONE_MORE)))
    (v_ONE_LESS : PySem.W.nsIn K mainGlobals "ONE_LESS" = some (some (.int (2) t_ONE_LESS)))
    (v_REGISTERS : PySem.W.nsIn K mainGlobals "REGISTERS" = some (some (.int (8) t_REGISTERS)))
    (v_NOW : PySem.W.nsIn K mainGlobals "NOW" = some (some (.int (8) t_NOW)))
    (v_SOON : PySem.W.nsIn K mainGlobals "SOON" = some (some (.int (24) t_SOON)))
    (v_BOUND : PySem.W.nsIn K mainGlobals "BOUND" = some (some (.int (18446744073709551616) t_BOUND)))
    (v_MOST_RULES : PySem.W.nsIn K mainGlobals "MOST_RULES" = some (some (.int (64) t_MOST_RULES)))
    (v_MOST_STEPS : PySem.W.nsIn K mainGlobals "MOST_STEPS" = some (some (.int (1000000000) t_MOST_STEPS)))
    (v_OUT_OF_RANGE : PySem.W.nsIn K mainGlobals "OUT_OF_RANGE" = some (some (.int (-1) t_OUT_OF_RANGE)))
    (v_RULES_ARE_FULL : PySem.W.nsIn K mainGlobals "RULES_ARE_FULL" = some (some (.int (-2) t_RULES_ARE_FULL)))
    (v_NONE_FITS : PySem.W.nsIn K mainGlobals "NONE_FITS" = some (some (.int (-2) t_NONE_FITS)))
    (v_TOO_HIGH : PySem.W.nsIn K mainGlobals "TOO_HIGH" = some (some (.int (-3) t_TOO_HIGH)))
    (v_NO_INSTRUCTION : PySem.W.nsIn K mainGlobals "NO_INSTRUCTION" = some (some (.int (-2) t_NO_INSTRUCTION)))
    (v_ALL_DONE : PySem.W.nsIn K mainGlobals "ALL_DONE" = some (some (.int (0) t_ALL_DONE)))
    (v_STOPPED_NONE_FITS : PySem.W.nsIn K mainGlobals "STOPPED_NONE_FITS" = some (some (.int (1) t_STOPPED_NONE_FITS)))
    (v_STOPPED_AT_STOP : PySem.W.nsIn K mainGlobals "STOPPED_AT_STOP" = some (some (.int (1) t_STOPPED_AT_STOP)))
    (v_STOPPED_TOO_HIGH : PySem.W.nsIn K mainGlobals "STOPPED_TOO_HIGH" = some (some (.int (2) t_STOPPED_TOO_HIGH)))
    (v_LEFT_ALONE : PySem.W.nsIn K mainGlobals "LEFT_ALONE" = some (some (.int (3) t_LEFT_ALONE)))
    (v_BEGIN : PySem.W.nsIn K mainGlobals "BEGIN" = some (some (.int (0) t_BEGIN)))
    (v_RULE : PySem.W.nsIn K mainGlobals "RULE" = some (some (.int (1) t_RULE)))
    (v_PUT : PySem.W.nsIn K mainGlobals "PUT" = some (some (.int (2) t_PUT)))
    (v_GET : PySem.W.nsIn K mainGlobals "GET" = some (some (.int (3) t_GET)))
    (v_STEP : PySem.W.nsIn K mainGlobals "STEP" = some (some (.int (4) t_STEP)))
    (v_RUN : PySem.W.nsIn K mainGlobals "RUN" = some (some (.int (5) t_RUN)))
    (v_ALONE : PySem.W.nsIn K mainGlobals "ALONE" = some (some (.int (6) t_ALONE)))
    (v_NUMBER : PySem.W.nsIn K mainGlobals "NUMBER" = some (some (.int (7) t_NUMBER)))
    (v_RATIO : PySem.W.nsIn K mainGlobals "RATIO" = some (some (.int (8) t_RATIO)))
    (v_CODE : PySem.W.nsIn K mainGlobals "CODE" = some (some (.int (9) t_CODE)))
    (v_MADE : PySem.W.nsIn K mainGlobals "MADE" = some (some (.int (10) t_MADE)))
    (v_GO : PySem.W.nsIn K mainGlobals "GO" = some (some (.int (11) t_GO))) :
    ∃ fd : FuncData, (∀ (s : Shared) (us : List Value), us.length = (["calls"] : List Str).length → BindsTo s fd ⟨us, []⟩ ((["calls"] : List Str).zip us)) ∧ ∀ base : Heap, K.In base → base.Ns mainGlobals mg → FnOk P w K mg base CX0 8 fa fd ["calls"] (spAns K) := by
  have e := hfa.symm.trans (PySem.W.mg_of X G a_ans)
  cases e
  have F_uinit := fun_mk (st := sRuleInit) l_uinit c_uinit k_uinit
  have b_uinit := F_uinit.binds (ps := ["self", "amounts"]) fun _ _ _ _ _ _ us hl => match us, hl with | [_, _], _ => rfl
  have F_fits := fun_mk (st := sRuleFits) l_fits c_fits k_fits
  have b_fits := F_fits.binds (ps := ["self", "counters"]) fun _ _ _ _ _ _ us hl => match us, hl with | [_, _], _ => rfl
  have m_fits : Meth K CU "fits" f_fits := ⟨a_fits, i_fits, k_fits⟩
  have F_high := fun_mk (st := sRuleHigh) l_high c_high k_high
  have b_high := F_high.binds (ps := ["self", "counters"]) fun _ _ _ _ _ _ us hl => match us, hl with | [_, _], _ => rfl
  have m_high : Meth K CU "goes_too_high" f_high := ⟨a_high, i_high, k_high⟩
  have F_ininit := fun_mk (st := sInInit) l_ininit c_ininit k_ininit
  have b_ininit := F_ininit.binds (ps := ["self", "told"]) fun _ _ _ _ _ _ us hl => match us, hl with | [_, _], _ => rfl
  have F_inis := fun_mk (st := sInIs) l_inis c_inis k_inis
  have b_inis := F_inis.binds (ps := ["self", "length"]) fun _ _ _ _ _ _ us hl => match us, hl with | [_, _], _ => rfl
  have m_inis : Meth K CI "is_one_of" f_inis := ⟨a_inis, i_inis, k_inis⟩
  have F_inrules := fun_mk (st := sInRules) l_inrules c_inrules k_inrules
  have b_inrules := F_inrules.binds (ps := ["self", "i"]) fun _ _ _ _ _ _ us hl => match us, hl with | [_, _], _ => rfl
  have m_inrules : Meth K CI "rules_at" f_inrules := ⟨a_inrules, i_inrules, k_inrules⟩
  have F_minit := fun_mk (st := sMInit) l_minit c_minit k_minit
  have b_minit := F_minit.binds (ps := ["self"]) fun _ _ _ _ _ _ us hl => match us, hl with | [_], _ => rfl
  have F_addr := fun_mk (st := sMAddRule) l_addr c_addr k_addr
  have b_addr := F_addr.binds (ps := ["self", "amounts"]) fun _ _ _ _ _ _ us hl => match us, hl with | [_, _], _ => rfl
  have m_addr : Meth K C "add_rule" f_addr := ⟨a_addr, i_addr, k_addr⟩
  have F_put := fun_mk (st := sMPut) l_put c_put k_put
  have b_put := F_put.binds (ps := ["self", "i", "v"]) fun _ _ _ _ _ _ us hl => match us, hl with | [_, _, _], _ => rfl
  have m_put : Meth K C "put" f_put := ⟨a_put, i_put, k_put⟩
  have F_get := fun_mk (st := sMGet) l_get c_get k_get
  have b_get := F_get.binds (ps := ["self", "i"]) fun _ _ _ _ _ _ us hl => match us, hl with | [_, _], _ => rfl
  have m_get : Meth K C "get" f_get := ⟨a_get, i_get, k_get⟩
  have F_step := fun_mk (st := sMStep) l_step c_step k_step
  have b_step := F_step.binds (ps := ["self"]) fun _ _ _ _ _ _ us hl => match us, hl with | [_], _ => rfl
  have m_step : Meth K C "step" f_step := ⟨a_step, i_step, k_step⟩
  have F_take := fun_mk (st := sMTake) l_take c_take k_take
  have b_take := F_take.binds (ps := ["self", "rule"]) fun _ _ _ _ _ _ us hl => match us, hl with | [_, _], _ => rfl
  have m_take : Meth K C "take_and_give" f_take := ⟨a_take, i_take, k_take⟩
  have F_run := fun_mk (st := sMRun) l_run c_run k_run
  have b_run := F_run.binds (ps := ["self", "k"]) fun _ _ _ _ _ _ us hl => match us, hl with | [_, _], _ => rfl
  have m_run : Meth K C "run" f_run := ⟨a_run, i_run, k_run⟩
  have F_alone := fun_mk (st := sMAlone) l_alone c_alone k_alone
  have b_alone := F_alone.binds (ps := ["self", "i", "k"]) fun _ _ _ _ _ _ us hl => match us, hl with | [_, _, _], _ => rfl
  have m_alone : Meth K C "alone" f_alone := ⟨a_alone, i_alone, k_alone⟩
  have F_mnum := fun_mk (st := sMNumber) l_mnum c_mnum k_mnum
  have b_mnum := F_mnum.binds (ps := ["self"]) fun _ _ _ _ _ _ us hl => match us, hl with | [_], _ => rfl
  have m_mnum : Meth K C "number" f_mnum := ⟨a_mnum, i_mnum, k_mnum⟩
  have F_ratio := fun_mk (st := sMRatio) l_ratio c_ratio k_ratio
  have b_ratio := F_ratio.binds (ps := ["self", "i"]) fun _ _ _ _ _ _ us hl => match us, hl with | [_, _], _ => rfl
  have m_ratio : Meth K C "ratio" f_ratio := ⟨a_ratio, i_ratio, k_ratio⟩
  have F_setc := fun_mk (st := sMSetCode) l_setc c_setc k_setc
  have b_setc := F_setc.binds (ps := ["self", "row"]) fun _ _ _ _ _ _ us hl => match us, hl with | [_, _], _ => rfl
  have m_setc : Meth K C "set_code" f_setc := ⟨a_setc, i_setc, k_setc⟩
  have F_make := fun_mk (st := sMMake) l_make c_make k_make
  have b_make := F_make.binds (ps := ["self"]) fun _ _ _ _ _ _ us hl => match us, hl with | [_], _ => rfl
  have m_make : Meth K C "make_rules" f_make := ⟨a_make, i_make, k_make⟩
  have F_go := fun_mk (st := sMGo) l_go c_go k_go
  have b_go := F_go.binds (ps := ["self", "k"]) fun _ _ _ _ _ _ us hl => match us, hl with | [_, _], _ => rfl
  have m_go : Meth K C "go" f_go := ⟨a_go, i_go, k_go⟩
  have F_doi := fun_mk (st := sMDo) l_doi c_doi k_doi
  have b_doi := F_doi.binds (ps := ["self"]) fun _ _ _ _ _ _ us hl => match us, hl with | [_], _ => rfl
  have m_doi : Meth K C "do_instruction" f_doi := ⟨a_doi, i_doi, k_doi⟩
  have F_domore := fun_mk (st := sMMore) l_domore c_domore k_domore
  have b_domore := F_domore.binds (ps := ["self", "instruction"]) fun _ _ _ _ _ _ us hl => match us, hl with | [_, _], _ => rfl
  have m_domore : Meth K C "do_one_more" f_domore := ⟨a_domore, i_domore, k_domore⟩
  have F_doless := fun_mk (st := sMLess) l_doless c_doless k_doless
  have b_doless := F_doless.binds (ps := ["self", "instruction"]) fun _ _ _ _ _ _ us hl => match us, hl with | [_, _], _ => rfl
  have m_doless : Meth K C "do_one_less" f_doless := ⟨a_doless, i_doless, k_doless⟩
  have F_rinit := fun_mk (st := sRInit) l_rinit c_rinit k_rinit
  have b_rinit := F_rinit.binds (ps := ["self", "calls"]) fun _ _ _ _ _ _ us hl => match us, hl with | [_, _], _ => rfl
  have F_more := fun_mk (st := sRMore) l_more c_more k_more
  have b_more := F_more.binds (ps := ["self"]) fun _ _ _ _ _ _ us hl => match us, hl with | [_], _ => rfl
  have m_more : Meth K CD "has_more" f_more := ⟨a_more, i_more, k_more⟩
  have F_num := fun_mk (st := sRNum) l_num c_num k_num
  have b_num := F_num.binds (ps := ["self"]) fun _ _ _ _ _ _ us hl => match us, hl with | [_], _ => rfl
  have m_num : Meth K CD "read_number" f_num := ⟨a_num, i_num, k_num⟩
  have F_row := fun_mk (st := sRRow) l_row c_row k_row
  have b_row := F_row.binds (ps := ["self"]) fun _ _ _ _ _ _ us hl => match us, hl with | [_], _ => rfl
  have m_row : Meth K CD "read_row" f_row := ⟨a_row, i_row, k_row⟩
  have F_one := fun_mk (st := sOneEach) l_one c_one k_one
  have b_one := F_one.binds (ps := ["taken", "given"]) fun _ _ _ _ _ _ us hl => match us, hl with | [_, _], _ => rfl
  have g_one := PySem.W.mg_of X G a_one
  have F_insof := fun_mk (st := sInsOf) l_insof c_insof k_insof
  have b_insof := F_insof.binds (ps := ["row"]) fun _ _ _ _ _ _ us hl => match us, hl with | [_], _ => rfl
  have g_insof := PySem.W.mg_of X G a_insof
  have F_arec := fun_mk (st := sAreCode) l_arec c_arec k_arec
  have b_arec := F_arec.binds (ps := ["instructions"]) fun _ _ _ _ _ _ us hl => match us, hl with | [_], _ => rfl
  have g_arec := PySem.W.mg_of X G a_arec
  have F_ruof := fun_mk (st := sRulesOf) l_ruof c_ruof k_ruof
  have b_ruof := F_ruof.binds (ps := ["instructions"]) fun _ _ _ _ _ _ us hl => match us, hl with | [_], _ => rfl
  have g_ruof := PySem.W.mg_of X G a_ruof
  have F_pow := fun_mk (st := sPower) l_pow c_pow k_pow
  have b_pow := F_pow.binds (ps := ["base", "exponent"]) fun _ _ _ _ _ _ us hl => match us, hl with | [_, _], _ => rfl
  have g_pow := PySem.W.mg_of X G a_pow
  have F_nrest := fun_mk (st := sNumber) l_nrest c_nrest k_nrest
  have b_nrest := F_nrest.binds (ps := ["amounts"]) fun _ _ _ _ _ _ us hl => match us, hl with | [_], _ => rfl
  have g_nrest := PySem.W.mg_of X G a_nrest
  have F_isc := fun_mk (st := sIsCounter) l_isc c_isc k_isc
  have b_isc := F_isc.binds (ps := ["i"]) fun _ _ _ _ _ _ us hl => match us, hl with | [_], _ => rfl
  have g_isc := PySem.W.mg_of X G a_isc
  have F_may := fun_mk (st := sMayBe) l_may c_may k_may
  have b_may := F_may.binds (ps := ["k"]) fun _ _ _ _ _ _ us hl => match us, hl with | [_], _ => rfl
  have g_may := PySem.W.mg_of X G a_may
  have F_ac := fun_mk (st := sAnswerCall) l_ac c_ac k_ac
  have b_ac := F_ac.binds (ps := ["machine", "call", "reader"]) fun _ _ _ _ _ _ us hl => match us, hl with | [_, _, _], _ => rfl
  have g_ac := PySem.W.mg_of X G a_ac
  have F_ans := fun_mk (st := sAnswers) l_ans c_ans k_ans
  have b_ans := F_ans.binds (ps := ["calls"]) fun _ _ _ _ _ _ us hl => match us, hl with | [_], _ => rfl
  have g_ans := PySem.W.mg_of X G a_ans
  have cl_CU : Cls K CU := ⟨pg_CU, hd_CU, po_CU, sa_CU⟩
  have gg_CU := PySem.W.mg_of X G g_CU
  have mm_CU : Mk K CU f_uinit := ⟨mk_CU, a_uinit, i_uinit, kc_CU⟩
  have cl_CI : Cls K CI := ⟨pg_CI, hd_CI, po_CI, sa_CI⟩
  have gg_CI := PySem.W.mg_of X G g_CI
  have mm_CI : Mk K CI f_ininit := ⟨mk_CI, a_ininit, i_ininit, kc_CI⟩
  have cl_C : Cls K C := ⟨pg_C, hd_C, po_C, sa_C⟩
  have gg_C := PySem.W.mg_of X G g_C
  have mm_C : Mk K C f_minit := ⟨mk_C, a_minit, i_minit, kc_C⟩
  have cl_CD : Cls K CD := ⟨pg_CD, hd_CD, po_CD, sa_CD⟩
  have gg_CD := PySem.W.mg_of X G g_CD
  have mm_CD : Mk K CD f_rinit := ⟨mk_CD, a_rinit, i_rinit, kc_CD⟩
  have q_len := PySem.W.mg_none_of X G z_len
  have q_range := PySem.W.mg_none_of X G z_range
  have q_enumerate := PySem.W.mg_none_of X G z_enumerate
  have q_all := PySem.W.mg_none_of X G z_all
  have q_sum := PySem.W.mg_none_of X G z_sum
  have w_COUNTERS := PySem.W.mg_of X G v_COUNTERS
  have w_HIGHEST := PySem.W.mg_of X G v_HIGHEST
  have w_BYTES := PySem.W.mg_of X G v_BYTES
  have w_STOP := PySem.W.mg_of X G v_STOP
  have w_ONE_MORE := PySem.W.mg_of X G v_ONE_MORE
  have w_ONE_LESS := PySem.W.mg_of X G v_ONE_LESS
  have w_REGISTERS := PySem.W.mg_of X G v_REGISTERS
  have w_NOW := PySem.W.mg_of X G v_NOW
  have w_SOON := PySem.W.mg_of X G v_SOON
  have w_BOUND := PySem.W.mg_of X G v_BOUND
  have w_MOST_RULES := PySem.W.mg_of X G v_MOST_RULES
  have w_MOST_STEPS := PySem.W.mg_of X G v_MOST_STEPS
  have w_OUT_OF_RANGE := PySem.W.mg_of X G v_OUT_OF_RANGE
  have w_RULES_ARE_FULL := PySem.W.mg_of X G v_RULES_ARE_FULL
  have w_NONE_FITS := PySem.W.mg_of X G v_NONE_FITS
  have w_TOO_HIGH := PySem.W.mg_of X G v_TOO_HIGH
  have w_NO_INSTRUCTION := PySem.W.mg_of X G v_NO_INSTRUCTION
  have w_ALL_DONE := PySem.W.mg_of X G v_ALL_DONE
  have w_STOPPED_NONE_FITS := PySem.W.mg_of X G v_STOPPED_NONE_FITS
  have w_STOPPED_AT_STOP := PySem.W.mg_of X G v_STOPPED_AT_STOP
  have w_STOPPED_TOO_HIGH := PySem.W.mg_of X G v_STOPPED_TOO_HIGH
  have w_LEFT_ALONE := PySem.W.mg_of X G v_LEFT_ALONE
  have w_BEGIN := PySem.W.mg_of X G v_BEGIN
  have w_RULE := PySem.W.mg_of X G v_RULE
  have w_PUT := PySem.W.mg_of X G v_PUT
  have w_GET := PySem.W.mg_of X G v_GET
  have w_STEP := PySem.W.mg_of X G v_STEP
  have w_RUN := PySem.W.mg_of X G v_RUN
  have w_ALONE := PySem.W.mg_of X G v_ALONE
  have w_NUMBER := PySem.W.mg_of X G v_NUMBER
  have w_RATIO := PySem.W.mg_of X G v_RATIO
  have w_CODE := PySem.W.mg_of X G v_CODE
  have w_MADE := PySem.W.mg_of X G v_MADE
  have w_GO := PySem.W.mg_of X G v_GO
  refine ⟨PySem.W.fnOf "answers" "answers" (defArgs sAnswers) (defBody sAnswers) (defScope sAnswers) .none kV_ans dc_ans pm_ans an_ans cd_ans ct_ans, fun s us hu => match us, hu with | [_], _ => .of_eq rfl, fun base _ _ => ?_⟩
  have TU : TxtU K mg CU := ⟨cl_CU, n_CU_taken, n_CU_given, n_CU_takes, n_CU_changes, q_len, q_range, ⟨_, w_HIGHEST⟩⟩
  have TI : TxtI K mg CI := ⟨cl_CI, n_CI_kind, n_CI_counter, n_CI_then, n_CI_otherwise, q_len, q_range, q_enumerate, q_all, ⟨_, w_STOP⟩, ⟨_, w_ONE_MORE⟩, ⟨_, w_ONE_LESS⟩, ⟨_, w_REGISTERS⟩, ⟨_, w_NOW⟩, ⟨_, w_SOON⟩, ⟨_, w_BYTES⟩⟩
  have TM : TxtM K mg C := { cl := cl_C, nC := n_C_counters, nR := n_C_rules, nI := n_C_instructions, nN := n_C_next_instruction, len := q_len, range := q_range, enum := q_enumerate, cCount := ⟨_, w_COUNTERS⟩, cMR := ⟨_, w_MOST_RULES⟩, cMS := ⟨_, w_MOST_STEPS⟩, cOut := ⟨_, w_OUT_OF_RANGE⟩, cFull := ⟨_, w_RULES_ARE_FULL⟩, cNone := ⟨_, w_NONE_FITS⟩, cHigh := ⟨_, w_TOO_HIGH⟩, cDone := ⟨_, w_ALL_DONE⟩, cStop := ⟨_, w_STOPPED_NONE_FITS⟩, cStopH := ⟨_, w_STOPPED_TOO_HIGH⟩, cStopS := ⟨_, w_STOPPED_AT_STOP⟩, cAlone := ⟨_, w_LEFT_ALONE⟩, cNoIns := ⟨_, w_NO_INSTRUCTION⟩, cBytes := ⟨_, w_BYTES⟩, cRegs := ⟨_, w_REGISTERS⟩, cNow := ⟨_, w_NOW⟩, cHighest := ⟨_, w_HIGHEST⟩, kStop := ⟨_, w_STOP⟩, kMore := ⟨_, w_ONE_MORE⟩, sum := q_sum }
  have TR : TxtR K mg CD := ⟨cl_CD, n_CD_calls, n_CD_at, q_len⟩
  have TC : TxtC mg := ⟨⟨_, w_BEGIN⟩, ⟨_, w_RULE⟩, ⟨_, w_PUT⟩, ⟨_, w_GET⟩, ⟨_, w_STEP⟩, ⟨_, w_RUN⟩, ⟨_, w_ALONE⟩, ⟨_, w_NUMBER⟩, ⟨_, w_RATIO⟩, ⟨_, w_CODE⟩, ⟨_, w_MADE⟩, ⟨_, w_GO⟩⟩
  have TN : TxtN K mg := ⟨q_enumerate, ⟨_, w_BOUND⟩, ⟨_, PySem.W.mg_of X G g_PR, fun H => .inr ⟨_, _, _, l_PR, rfl, rfl, valsInt_size h_PR, valsInt_ok h_PR⟩⟩⟩
  have GS := ok_step (P := P) (w := w) (base := base) (CI := CI) F_step TM TU F_fits b_fits m_fits F_high b_high m_high F_take b_take m_take
  have GN := ok_rnum (P := P) (w := w) (base := base) F_num TR
  have GY := ok_may (P := P) (w := w) (base := base) F_may TM.cMS
  have GI := ok_is (P := P) (w := w) (base := base) F_isc TM.cCount
  have GR := ok_run (P := P) (w := w) (base := base) F_run TM GY b_may g_may k_may GS b_step m_step
  have GP := ok_power (P := P) (w := w) (base := base) F_pow TN
  have GNR := ok_number (P := P) (w := w) (base := base) F_nrest TN GP b_pow g_pow k_pow
  have GO := ok_one (P := P) (w := w) (base := base) F_one TU F_uinit b_uinit mm_CU gg_CU TM.cCount
  have GRA := ok_inrules (P := P) (w := w) (base := base) F_inrules TI GO b_one g_one k_one
  have GRO := ok_rulesof (P := P) (w := w) (base := base) F_ruof TI GRA b_inrules m_inrules GO b_one g_one k_one
  have GIO := ok_insof (P := P) (w := w) (base := base) F_insof TI (ok_ininit F_ininit TI) b_ininit mm_CI gg_CI
  have GAC := ok_arecode (P := P) (w := w) (base := base) F_arec TI (ok_inis F_inis TI) b_inis m_inis
  have GDO := ok_do (P := P) (w := w) (base := base) (CU := CU) F_doi TM TI (ok_more F_domore TM TI) b_domore m_domore (ok_less F_doless TM TI) b_doless m_doless
  have GC := ok_ac (P := P) (w := w) (base := base) F_ac TM TR TC GN b_num m_num (ok_rrow F_row TR F_num b_num m_num) b_row m_row
    (ok_addrule F_addr TM TU F_uinit b_uinit mm_CU gg_CU) b_addr m_addr (ok_put F_put TM F_isc b_isc g_isc) b_put m_put (ok_get F_get TM F_isc b_isc g_isc) b_get m_get GS b_step m_step GR b_run m_run
    (ok_alone F_alone TM GI b_isc g_isc k_isc GY b_may g_may k_may GR b_run m_run) b_alone m_alone (ok_mnumber F_mnum TM GNR b_nrest g_nrest k_nrest) b_mnum m_mnum (ok_ratio F_ratio TM TU GNR b_nrest g_nrest k_nrest) b_ratio m_ratio
    (ok_setcode F_setc TM GIO b_insof g_insof k_insof GAC b_arec g_arec k_arec) b_setc m_setc (ok_make F_make TM GRO b_ruof g_ruof k_ruof) b_make m_make (ok_go F_go TM GY b_may g_may k_may GDO b_doi m_doi) b_go m_go
  exact ok_ans F_ans TM TR TC mm_CD (ok_rinit F_rinit TR) b_rinit gg_CD mm_C (ok_minit F_minit TM) b_minit gg_C (ok_rmore F_more TR) b_more m_more GN b_num m_num GC b_ac g_ac k_ac
end Fc
open PySem PySem.W PyProof.Rows
set_option maxRecDepth 100000 in
set_option maxHeartbeats 8000000 in
theorem PySem.Challenge.cw_fortycounters_s01_answers_holds : PySem.Challenge.rw_fortycounters_s01_answers.Holds := by
  w_on; k_headS; (case hw => exact ⟨[.list []], by decide +kernel, by decide +kernel⟩)
  k_fillS
  refine L2.walk_specK (r := PySem.Challenge.rw_fortycounters_s01_answers) (k := 8) (CX := L2.CX0) (ps := ["calls"]) (sp := Fc.spAns) (by decide +kernel) rfl rfl ⟨rfl, by decide, by decide⟩ (fun w h Y => PySem.W.kIn_of Y) ?F ?S (fun _ _ _ _ z => z)
  case F =>
    intro w mg fa h Y KX G hmg
    refine' Fc.all_mk KX G hmg ?g_CU ?g_CI ?g_C ?g_CD ?a_uinit ?i_uinit ?l_uinit ?c_uinit ?k_uinit ?a_fits ?i_fits ?l_fits ?c_fits ?k_fits ?a_high ?i_high ?l_high ?c_high ?k_high ?a_ininit ?i_ininit ?l_ininit ?c_ininit ?k_ininit ?a_inis ?i_inis ?l_inis ?c_inis ?k_inis ?a_inrules ?i_inrules ?l_inrules ?c_inrules ?k_inrules ?a_minit ?i_minit ?l_minit ?c_minit ?k_minit ?a_addr ?i_addr ?l_addr ?c_addr ?k_addr ?a_put ?i_put ?l_put ?c_put ?k_put ?a_get ?i_get ?l_get ?c_get ?k_get ?a_step ?i_step ?l_step ?c_step ?k_step ?a_take ?i_take ?l_take ?c_take ?k_take ?a_run ?i_run ?l_run ?c_run ?k_run ?a_alone ?i_alone ?l_alone ?c_alone ?k_alone ?a_mnum ?i_mnum ?l_mnum ?c_mnum ?k_mnum ?a_ratio ?i_ratio ?l_ratio ?c_ratio ?k_ratio ?a_setc ?i_setc ?l_setc ?c_setc ?k_setc ?a_make ?i_make ?l_make ?c_make ?k_make ?a_go ?i_go ?l_go ?c_go ?k_go ?a_doi ?i_doi ?l_doi ?c_doi ?k_doi ?a_domore ?i_domore ?l_domore ?c_domore ?k_domore ?a_doless ?i_doless ?l_doless ?c_doless ?k_doless ?a_rinit ?i_rinit ?l_rinit ?c_rinit ?k_rinit ?a_more ?i_more ?l_more ?c_more ?k_more ?a_num ?i_num ?l_num ?c_num ?k_num ?a_row ?i_row ?l_row ?c_row ?k_row ?a_one ?l_one ?c_one ?k_one ?a_insof ?l_insof ?c_insof ?k_insof ?a_arec ?l_arec ?c_arec ?k_arec ?a_ruof ?l_ruof ?c_ruof ?k_ruof ?a_pow ?l_pow ?c_pow ?k_pow ?a_nrest ?l_nrest ?c_nrest ?k_nrest ?a_isc ?l_isc ?c_isc ?k_isc ?a_may ?l_may ?c_may ?k_may ?a_ac ?l_ac ?c_ac ?k_ac ?a_ans ?l_ans ?c_ans ?k_ans ?pg_CU ?hd_CU ?po_CU ?sa_CU ?mk_CU ?kc_CU ?n_CU_taken ?n_CU_given ?n_CU_takes ?n_CU_changes ?pg_CI ?hd_CI ?po_CI ?sa_CI ?mk_CI ?kc_CI ?n_CI_kind ?n_CI_counter ?n_CI_then ?n_CI_otherwise ?pg_C ?hd_C ?po_C ?sa_C ?mk_C ?kc_C ?n_C_counters ?n_C_rules ?n_C_instructions ?n_C_next_instruction ?pg_CD ?hd_CD ?po_CD ?sa_CD ?mk_CD ?kc_CD ?n_CD_calls ?n_CD_at ?z_len ?z_range ?z_enumerate ?z_all ?z_sum ?g_PR ?l_PR ?h_PR ?v_COUNTERS ?v_HIGHEST ?v_BYTES ?v_STOP ?v_ONE_MORE ?v_ONE_LESS ?v_REGISTERS ?v_NOW ?v_SOON ?v_BOUND ?v_MOST_RULES ?v_MOST_STEPS ?v_OUT_OF_RANGE ?v_RULES_ARE_FULL ?v_NONE_FITS ?v_TOO_HIGH ?v_NO_INSTRUCTION ?v_ALL_DONE ?v_STOPPED_NONE_FITS ?v_STOPPED_AT_STOP ?v_STOPPED_TOO_HIGH ?v_LEFT_ALONE ?v_BEGIN ?v_RULE ?v_PUT ?v_GET ?v_STEP ?v_RUN ?v_ALONE ?v_NUMBER ?v_RATIO ?v_CODE ?v_MADE ?v_GO
    (case g_CU => k_is)
    (case g_CI => k_is)
    (case g_C => k_is)
    (case g_CD => k_is)
    (case a_uinit => k_is)
    (case i_uinit => k_is)
    (case l_uinit => k_is)
    (case c_uinit => k_is)
    (case k_uinit => k_is)
    (case a_fits => k_is)
    (case i_fits => k_is)
    (case l_fits => k_is)
    (case c_fits => k_is)
    (case k_fits => k_is)
    (case a_high => k_is)
    (case i_high => k_is)
    (case l_high => k_is)
    (case c_high => k_is)
    (case k_high => k_is)
    (case a_ininit => k_is)
    (case i_ininit => k_is)
    (case l_ininit => k_is)
    (case c_ininit => k_is)
    (case k_ininit => k_is)
    (case a_inis => k_is)
    (case i_inis => k_is)
    (case l_inis => k_is)
    (case c_inis => k_is)
    (case k_inis => k_is)
    (case a_inrules => k_is)
    (case i_inrules => k_is)
    (case l_inrules => k_is)
    (case c_inrules => k_is)
    (case k_inrules => k_is)
    (case a_minit => k_is)
    (case i_minit => k_is)
    (case l_minit => k_is)
    (case c_minit => k_is)
    (case k_minit => k_is)
    (case a_addr => k_is)
    (case i_addr => k_is)
    (case l_addr => k_is)
    (case c_addr => k_is)
    (case k_addr => k_is)
    (case a_put => k_is)
    (case i_put => k_is)
    (case l_put => k_is)
    (case c_put => k_is)
    (case k_put => k_is)
    (case a_get => k_is)
    (case i_get => k_is)
    (case l_get => k_is)
    (case c_get => k_is)
    (case k_get => k_is)
    (case a_step => k_is)
    (case i_step => k_is)
    (case l_step => k_is)
    (case c_step => k_is)
    (case k_step => k_is)
    (case a_take => k_is)
    (case i_take => k_is)
    (case l_take => k_is)
    (case c_take => k_is)
    (case k_take => k_is)
    (case a_run => k_is)
    (case i_run => k_is)
    (case l_run => k_is)
    (case c_run => k_is)
    (case k_run => k_is)
    (case a_alone => k_is)
    (case i_alone => k_is)
    (case l_alone => k_is)
    (case c_alone => k_is)
    (case k_alone => k_is)
    (case a_mnum => k_is)
    (case i_mnum => k_is)
    (case l_mnum => k_is)
    (case c_mnum => k_is)
    (case k_mnum => k_is)
    (case a_ratio => k_is)
    (case i_ratio => k_is)
    (case l_ratio => k_is)
    (case c_ratio => k_is)
    (case k_ratio => k_is)
    (case a_setc => k_is)
    (case i_setc => k_is)
    (case l_setc => k_is)
    (case c_setc => k_is)
    (case k_setc => k_is)
    (case a_make => k_is)
    (case i_make => k_is)
    (case l_make => k_is)
    (case c_make => k_is)
    (case k_make => k_is)
    (case a_go => k_is)
    (case i_go => k_is)
    (case l_go => k_is)
    (case c_go => k_is)
    (case k_go => k_is)
    (case a_doi => k_is)
    (case i_doi => k_is)
    (case l_doi => k_is)
    (case c_doi => k_is)
    (case k_doi => k_is)
    (case a_domore => k_is)
    (case i_domore => k_is)
    (case l_domore => k_is)
    (case c_domore => k_is)
    (case k_domore => k_is)
    (case a_doless => k_is)
    (case i_doless => k_is)
    (case l_doless => k_is)
    (case c_doless => k_is)
    (case k_doless => k_is)
    (case a_rinit => k_is)
    (case i_rinit => k_is)
    (case l_rinit => k_is)
    (case c_rinit => k_is)
    (case k_rinit => k_is)
    (case a_more => k_is)
    (case i_more => k_is)
    (case l_more => k_is)
    (case c_more => k_is)
    (case k_more => k_is)
    (case a_num => k_is)
    (case i_num => k_is)
    (case l_num => k_is)
    (case c_num => k_is)
    (case k_num => k_is)
    (case a_row => k_is)
    (case i_row => k_is)
    (case l_row => k_is)
    (case c_row => k_is)
    (case k_row => k_is)
    (case a_one => k_is)
    (case l_one => k_is)
    (case c_one => k_is)
    (case k_one => k_is)
    (case a_insof => k_is)
    (case l_insof => k_is)
    (case c_insof => k_is)
    (case k_insof => k_is)
    (case a_arec => k_is)
    (case l_arec => k_is)
    (case c_arec => k_is)
    (case k_arec => k_is)
    (case a_ruof => k_is)
    (case l_ruof => k_is)
    (case c_ruof => k_is)
    (case k_ruof => k_is)
    (case a_pow => k_is)
    (case l_pow => k_is)
    (case c_pow => k_is)
    (case k_pow => k_is)
    (case a_nrest => k_is)
    (case l_nrest => k_is)
    (case c_nrest => k_is)
    (case k_nrest => k_is)
    (case a_isc => k_is)
    (case l_isc => k_is)
    (case c_isc => k_is)
    (case k_isc => k_is)
    (case a_may => k_is)
    (case l_may => k_is)
    (case c_may => k_is)
    (case k_may => k_is)
    (case a_ac => k_is)
    (case l_ac => k_is)
    (case c_ac => k_is)
    (case k_ac => k_is)
    (case a_ans => k_is)
    (case l_ans => k_is)
    (case c_ans => k_is)
    (case k_ans => k_is)
    (case pg_CU => k_is)
    (case hd_CU => k_is)
    (case po_CU => k_is)
    (case sa_CU => k_is)
    (case mk_CU => k_is)
    (case kc_CU => k_is)
    (case n_CU_taken => k_is)
    (case n_CU_given => k_is)
    (case n_CU_takes => k_is)
    (case n_CU_changes => k_is)
    (case pg_CI => k_is)
    (case hd_CI => k_is)
    (case po_CI => k_is)
    (case sa_CI => k_is)
    (case mk_CI => k_is)
    (case kc_CI => k_is)
    (case n_CI_kind => k_is)
    (case n_CI_counter => k_is)
    (case n_CI_then => k_is)
    (case n_CI_otherwise => k_is)
    (case pg_C => k_is)
    (case hd_C => k_is)
    (case po_C => k_is)
    (case sa_C => k_is)
    (case mk_C => k_is)
    (case kc_C => k_is)
    (case n_C_counters => k_is)
    (case n_C_rules => k_is)
    (case n_C_instructions => k_is)
    (case n_C_next_instruction => k_is)
    (case pg_CD => k_is)
    (case hd_CD => k_is)
    (case po_CD => k_is)
    (case sa_CD => k_is)
    (case mk_CD => k_is)
    (case kc_CD => k_is)
    (case n_CD_calls => k_is)
    (case n_CD_at => k_is)
    (case z_len => k_is)
    (case z_range => k_is)
    (case z_enumerate => k_is)
    (case z_all => k_is)
    (case z_sum => k_is)
    (case g_PR => k_is)
    (case l_PR => k_is)
    (case h_PR => decide +kernel)
    (case v_COUNTERS => k_is)
    (case v_HIGHEST => k_is)
    (case v_BYTES => k_is)
    (case v_STOP => k_is)
    (case v_ONE_MORE => k_is)
    (case v_ONE_LESS => k_is)
    (case v_REGISTERS => k_is)
    (case v_NOW => k_is)
    (case v_SOON => k_is)
    (case v_BOUND => k_is)
    (case v_MOST_RULES => k_is)
    (case v_MOST_STEPS => k_is)
    (case v_OUT_OF_RANGE => k_is)
    (case v_RULES_ARE_FULL => k_is)
    (case v_NONE_FITS => k_is)
    (case v_TOO_HIGH => k_is)
    (case v_NO_INSTRUCTION => k_is)
    (case v_ALL_DONE => k_is)
    (case v_STOPPED_NONE_FITS => k_is)
    (case v_STOPPED_AT_STOP => k_is)
    (case v_STOPPED_TOO_HIGH => k_is)
    (case v_LEFT_ALONE => k_is)
    (case v_BEGIN => k_is)
    (case v_RULE => k_is)
    (case v_PUT => k_is)
    (case v_GET => k_is)
    (case v_STEP => k_is)
    (case v_RUN => k_is)
    (case v_ALONE => k_is)
    (case v_NUMBER => k_is)
    (case v_RATIO => k_is)
    (case v_CODE => k_is)
    (case v_MADE => k_is)
    (case v_GO => k_is)
  case S =>
    intro K H xs a hO hwi hask hx
    cases hx with
    | cons h1 h2 =>
      cases h2
      cases h1 with
      | lst hs ha =>
        have e := L2.ints_dw a.1 _ ha
        subst e
        exact ⟨_, a.1, rfl, hs, hask, fun H' p hp => .lst (L2.SqL.of hp) (L2.dw_ints _)⟩
#print axioms PySem.Challenge.cw_fortycounters_s01_answers_holds
