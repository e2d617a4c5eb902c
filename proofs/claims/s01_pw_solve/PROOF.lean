import PyProof.Rows.All
import Wide.All
import OpenK.AllK
import Wide.FinOn
import PyProof.EqAt
import PyProof.EqKinds
import PyProof.TupleCall
import PyProof.NoPylong
import Open.SpecLaws
import KE.OsGo
import HandS.ForSpec
import HandS.Comp
import HandS.Dict
import HandS.Iter
import HandS.Walk
import PySem.Challenge.RW_powerfill_s01_pw_solve
set_option Elab.async false
set_option linter.all false
set_option maxRecDepth 100000
set_option maxHeartbeats 4200000
namespace Pf
open Kp168 (Row)
/-! ### The mirror: a product is one list of 32 exponents -/
def un (l : List Int) : Row := ⟨l.take 8, l.drop 8⟩
def big (m : Int) (l : List Int) : Bool := l.any fun x => decide (m < x) || decide (x < -m)
def nz (l : List Int) : Bool := l.any fun x => decide (x ≠ 0)
def rdAt (e : List Int) (k : Nat) : List Int := (e.drop (34 * k + 2)).take 8 ++ (e.drop (34 * k + 11)).take 24
def refused (n : Nat) (q : List (List Int)) : Bool := decide (256 < q.length) || decide (24 < n) || q.any fun x => big 1048576 x || nz (x.drop (8 + n))
def zero : List Int := List.replicate 32 0
def it (k : Nat) : List Int := zero.set (8 + k) 1
def comb (k : Int) (x y : List Int) : List Int := List.zipWith (fun a b => a + k * b) x y
/-- ks: the exponents of the places, gs: what they are given -/
def fillA : List Int → List Int → List (List Int) → List Int
  | acc, k :: ks, g :: gs => fillA (comb k acc g) ks gs
  | acc, _, _ => acc
def fillIn (q : List Int) (F : List (List Int)) : List Int := fillA (q.take 8 ++ List.replicate 24 0) (q.drop 8) F
def nearS (r : List Int) (b : Option Nat) (q : Nat) : Option Nat :=
  if r.getD q 0 = 0 then b else match b with
    | none => some q
    | some p => if (r.getD q 0).natAbs < (r.getD p 0).natAbs then some q else some p
def near (r : List Int) : Option Nat := (List.range 24).foldl (fun b i => nearS r b (8 + i)) none
def other (r : List Int) (p : Nat) : Bool := (List.range 24).any fun i => decide (8 + i ≠ p) && decide (r.getD (8 + i) 0 ≠ 0)
def red (r : List Int) (p : Nat) : List Int := (r.map fun x => -(x.fdiv (r.getD p 0))).set p 1
def repl (p : Nat) (o x : List Int) : List Int := (comb (x.getD p 0) x o).set p (x.getD p 0 * o.getD p 0)
def one : Nat → List (List Int) → List Int → Int ⊕ List (List Int)
  | 0, F, _ => .inr F
  | f + 1, F, r => match near r with
    | none => if nz r then .inl (-61) else .inr F
    | some p =>
      let x := red r p
      let F1 := F.map (repl p x)
      let r1 := repl p x r
      if F1.any (big 1073741824) then .inl (-75)
      else if other r1 p then one f F1 r1
      else if nz (r1.take 8) then .inl (-61) else .inr (F1.map (repl p zero))
def solve (q : List Int) (F : List (List Int)) : Int ⊕ List (List Int) :=
  if big 1073741824 (fillIn q F) then .inl (-75) else one (2 ^ 31) F (fillIn q F)
def all : Nat → List (List Int) → List (List Int) → (Int × Nat) ⊕ List (List Int)
  | _, F, [] => .inr F
  | k, F, q :: l => match solve q F with
    | .inl v => .inl (v, k)
    | .inr G => all (k + 1) G l
def wr (F : List (List Int)) : List Int := (F.length : Int) :: F.flatMap fun g => 8 :: (g.take 8 ++ 24 :: g.drop 8)
def ans (n : Nat) (q : List (List Int)) : List Int := if refused n q then [0, -22] else match all 0 ((List.range n).map it) q with
  | .inl (v, k) => [1, v, (k : Int)]
  | .inr F => 2 :: wr F

/-! ### Lists by their places -/
theorem ext32 {a b : List Int} (ha : a.length = 32) (hb : b.length = 32) (h : ∀ j, j < 32 → a.getD j 0 = b.getD j 0) : a = b := by
  apply List.ext_getElem (by omega)
  intro i h1 h2
  have := h i (by omega)
  simpa [List.getD_eq_getElem?_getD, List.getElem?_eq_getElem h1, List.getElem?_eq_getElem h2] using this
theorem comb_len {k : Int} {x y : List Int} {m : Nat} (hx : x.length = m) (hy : y.length = m) : (comb k x y).length = m := by
  unfold comb
  rw [List.length_zipWith, hx, hy, Nat.min_self]
theorem comb_get {k : Int} : ∀ {x y : List Int} {m : Nat}, x.length = m → y.length = m → ∀ j, (comb k x y).getD j 0 = x.getD j 0 + k * y.getD j 0
  | [], [], _, _, _, j => by simp [comb]
  | a :: x, b :: y, m + 1, hx, hy, 0 => by simp [comb]
  | a :: x, b :: y, m + 1, hx, hy, j + 1 => by
    have := comb_get (k := k) (x := x) (y := y) (m := m) (by simpa using hx) (by simpa using hy) j
    simpa [comb] using this
  | [], b :: y, m, hx, hy, _ => by simp at hx hy; omega
  | a :: x, [], m, hx, hy, _ => by simp at hx hy; omega
theorem comb_zero {x y : List Int} (h : x.length = y.length) : comb 0 x y = x := by
  unfold comb
  apply List.ext_getElem (by simp [h])
  intro i h1 h2
  simp
theorem zero_len : zero.length = 32 := rfl
theorem zero_get (j : Nat) : zero.getD j 0 = 0 := by
  unfold zero
  rw [List.getD_eq_getElem?_getD, List.getElem?_replicate]
  split <;> rfl
theorem it_len (k : Nat) : (it k).length = 32 := by simp [it, zero_len]
theorem set_get {l : List Int} {p j : Nat} {v : Int} (h : p < l.length) : (l.set p v).getD j 0 = if j = p then v else l.getD j 0 := by
  rw [List.getD_eq_getElem?_getD, List.getElem?_set, List.getD_eq_getElem?_getD]
  by_cases e : p = j
  · subst e
    simp [h]
  · have e' : ¬ j = p := fun z => e z.symm
    simp [e, e']
theorem it_get {k : Nat} (hk : k < 24) (j : Nat) : (it k).getD j 0 = if j = 8 + k then 1 else 0 := by
  unfold it
  rw [set_get (by rw [zero_len]; omega), zero_get]
theorem map_get {l : List Int} {f : Int → Int} {j : Nat} (h : j < l.length) : (l.map f).getD j 0 = f (l.getD j 0) := by
  simp [List.getD_eq_getElem?_getD, List.getElem?_map, List.getElem?_eq_getElem h]
theorem getD_out {l : List Int} {j : Nat} (h : l.length ≤ j) : l.getD j 0 = 0 := by
  simp [List.getD_eq_getElem?_getD, List.getElem?_eq_none h]
theorem repl_len {p : Nat} {o x : List Int} (hx : x.length = 32) (ho : o.length = 32) : (repl p o x).length = 32 := by
  unfold repl
  rw [List.length_set, comb_len hx ho]
theorem repl_get {p : Nat} {o x : List Int} (hx : x.length = 32) (ho : o.length = 32) (hp : p < 32) (j : Nat) :
    (repl p o x).getD j 0 = if j = p then x.getD p 0 * o.getD p 0 else x.getD j 0 + x.getD p 0 * o.getD j 0 := by
  unfold repl
  rw [set_get (by rw [comb_len hx ho]; exact hp), comb_get hx ho]
theorem red_len {r : List Int} {p : Nat} (h : r.length = 32) : (red r p).length = 32 := by
  unfold red
  rw [List.length_set, List.length_map, h]
theorem red_get {r : List Int} {p : Nat} (h : r.length = 32) (hp : p < 32) {j : Nat} (hj : j < 32) : (red r p).getD j 0 = if j = p then 1 else -((r.getD j 0).fdiv (r.getD p 0)) := by
  unfold red
  rw [set_get (by rw [List.length_map, h]; exact hp), map_get (by omega)]
/-- the sum over the places at one exponent -/
def dot : List Int → List (List Int) → Nat → Int
  | k :: ks, g :: gs, j => k * g.getD j 0 + dot ks gs j
  | _, _, _ => 0
def W32 (F : List (List Int)) : Prop := ∀ g ∈ F, g.length = 32
theorem fillA_len : ∀ {ks : List Int} {gs : List (List Int)} {acc : List Int}, acc.length = 32 → W32 gs → (fillA acc ks gs).length = 32
  | [], _, _, h, _ => by unfold fillA; exact h
  | _ :: _, [], _, h, _ => by unfold fillA; exact h
  | k :: ks, g :: gs, acc, h, w => by
    unfold fillA
    exact fillA_len (comb_len h (w g (by simp))) fun x hx => w x (by simp [hx])
theorem fillA_get : ∀ {ks : List Int} {gs : List (List Int)} {acc : List Int}, acc.length = 32 → W32 gs → ∀ j, (fillA acc ks gs).getD j 0 = acc.getD j 0 + dot ks gs j
  | [], _, _, h, _, j => by unfold fillA dot; omega
  | _ :: _, [], _, h, _, j => by unfold fillA dot; omega
  | k :: ks, g :: gs, acc, h, w, j => by
    unfold fillA dot
    rw [fillA_get (comb_len h (w g (by simp))) (fun x hx => w x (by simp [hx])) j, comb_get h (w g (by simp))]
    omega
theorem dot_its : ∀ (ks : List Int) (a : Nat), a + ks.length ≤ 24 → ∀ j, dot ks ((List.range' a ks.length).map it) j = if 8 + a ≤ j then ks.getD (j - 8 - a) 0 else 0
  | [], a, h, j => by simp [dot]
  | k :: ks, a, h, j => by
    rw [List.length_cons, List.range'_succ, List.map_cons]
    unfold dot
    rw [dot_its ks (a + 1) (by simp at h; omega) j, it_get (by simp at h; omega)]
    by_cases e : j = 8 + a
    · subst e
      rw [if_pos rfl, if_neg (by omega), if_pos (Nat.le_refl _), show 8 + a - 8 - a = 0 by omega, List.getD_cons_zero]
      omega
    · rw [if_neg e]
      by_cases e2 : 8 + a ≤ j
      · rw [if_pos (by omega), if_pos e2, show j - 8 - a = (j - 8 - (a + 1)) + 1 by omega, List.getD_cons_succ]
        omega
      · rw [if_neg (by omega), if_neg e2]
        omega
theorem dot_set : ∀ (ks : List Int) (gs : List (List Int)) (p : Nat) (y : List Int) (j : Nat), p < gs.length → dot ks (gs.set p y) j = dot ks gs j - ks.getD p 0 * (gs.getD p []).getD j 0 + ks.getD p 0 * y.getD j 0
  | [], gs, p, y, j, h => by simp [dot]
  | k :: ks, [], p, y, j, h => by simp at h
  | k :: ks, g :: gs, 0, y, j, h => by simp [dot]; omega
  | k :: ks, g :: gs, p + 1, y, j, h => by
    have := dot_set ks gs p y j (by simpa using h)
    simp only [List.set_cons_succ, dot, this, List.getD_cons_succ]
    omega

/-! ### The specification's own words, by the mirror's -/
theorem un_mark {l : List Int} : (un l).mark = l.take 8 := rfl
theorem un_place {l : List Int} : (un l).place = l.drop 8 := rfl
theorem un_zero : un zero = Kp168.nought := rfl
theorem un_it (k : Nat) : un (it k) = Kp168.ofPlace k := by
  have h : un (zero.set (8 + k) 1) = Kp168.ofPlace k := by
    unfold un Kp168.ofPlace
    have e1 : (zero.set (8 + k) 1).take 8 = Kp168.nought.mark := by
      rw [List.take_set, List.set_eq_of_length_le (by rw [List.length_take, zero_len]; omega)]
      rfl
    have e2 : (zero.set (8 + k) 1).drop 8 = Kp168.nought.place.set k 1 := by
      rw [List.drop_set]
      rw [if_neg (by omega), show 8 + k - 8 = k by omega]
      rfl
    rw [e1, e2]
  exact h
theorem un_comb {k : Int} {x y : List Int} (h : x.length = 32) (h2 : y.length = 32) : un (comb k x y) = Kp168.mul (un x) (Kp168.pow k (un y)) := by
  unfold un Kp168.mul Kp168.pow comb
  simp only [List.take_zipWith, List.drop_zipWith, List.zipWith_map_right]
theorem un_fillA : ∀ (ks : List Int) (gs : List (List Int)) (acc : List Int), acc.length = 32 → W32 gs → un (fillA acc ks gs) = (List.zipWith Kp168.pow ks (gs.map un)).foldl Kp168.mul (un acc)
  | [], _, _, h, _ => by simp [fillA]
  | _ :: _, [], _, h, _ => by simp [fillA]
  | k :: ks, g :: gs, acc, h, w => by
    unfold fillA
    rw [un_fillA ks gs _ (comb_len h (w g (by simp))) (fun x hx => w x (by simp [hx])), un_comb h (w g (by simp))]
    simp
theorem un_fillIn {q : List Int} {F : List (List Int)} (h : q.length = 32) (w : W32 F) : un (fillIn q F) = Kp168.filled (F.map un) (un q) := by
  unfold fillIn Kp168.filled
  rw [un_fillA _ _ _ (by simp [h]) w]
  have e : un (q.take 8 ++ List.replicate 24 0) = { Kp168.nought with mark := (un q).mark } := by
    unfold un
    have hl : (q.take 8).length = 8 := by simp [h]
    rw [List.take_append_of_le_length (by omega), List.take_take, List.drop_append_of_le_length (by omega), List.drop_take]
    rfl
  rw [e]
  rfl
theorem un_itself : Kp168.itself = ((List.range 24).map it).map un := by
  unfold Kp168.itself
  rw [List.map_map]
  show List.map Kp168.ofPlace (List.range 24) = List.map (un ∘ it) (List.range 24)
  congr 1
  funext k
  exact (un_it k).symm
theorem un_only {p : Nat} {y : List Int} : Kp168.only p (un y) = (((List.range 24).map it).set p y).map un := by
  unfold Kp168.only
  rw [un_itself, List.map_set]
theorem its_W : W32 ((List.range 24).map it) := by
  intro g hg
  rw [List.mem_map] at hg
  obtain ⟨k, _, rfl⟩ := hg
  exact it_len k
theorem fill_only {p : Nat} {y x : List Int} (hx : x.length = 32) (hy : y.length = 32) (hp : p < 24) : fillIn x (((List.range 24).map it).set p y) = repl (8 + p) y x := by
  have w : W32 (((List.range 24).map it).set p y) := fun g hg => by
    rcases List.mem_or_eq_of_mem_set hg with h | h
    · exact its_W g h
    · rw [h]; exact hy
  have hacc : (x.take 8 ++ List.replicate 24 (0 : Int)).length = 32 := by simp [hx]
  refine ext32 (fillA_len hacc w) (repl_len hx hy) fun j hj => ?_
  unfold fillIn
  rw [fillA_get hacc w, repl_get hx hy (by omega), dot_set _ _ _ _ _ (by simp; exact hp)]
  have e1 := dot_its (x.drop 8) 0 (by simp [hx]) j
  have e0 : (x.drop 8).length = 24 := by simp [hx]
  rw [e0, ← List.range_eq_range'] at e1
  rw [e1]
  have e2 : ((List.range 24).map it).getD p [] = it p := by
    rw [List.getD_eq_getElem?_getD, List.getElem?_map, List.getElem?_range hp]
    rfl
  have e3 : ∀ i, (x.drop 8).getD i 0 = x.getD (8 + i) 0 := fun i => by
    simp [List.getD_eq_getElem?_getD, List.getElem?_drop]
  have e4 : (x.take 8 ++ List.replicate 24 (0 : Int)).getD j 0 = if j < 8 then x.getD j 0 else 0 := by
    by_cases c : j < 8
    · rw [if_pos c, List.getD_eq_getElem?_getD, List.getElem?_append_left (by simp [hx]; omega), List.getElem?_take, if_pos c, List.getD_eq_getElem?_getD]
    · rw [if_neg c, List.getD_eq_getElem?_getD, List.getElem?_append_right (by simp [hx]; omega), List.getElem?_replicate]
      split <;> rfl
  rw [e2, e4, it_get hp]
  simp only [e3]
  by_cases c : j < 8
  · rw [if_pos c, if_neg (by omega : ¬ 8 + 0 ≤ j), if_neg (by omega : ¬ j = 8 + p), if_neg (by omega : ¬ j = 8 + p)]
    omega
  · rw [if_neg c, if_pos (by omega : 8 + 0 ≤ j), show 8 + (j - 8 - 0) = j by omega]
    by_cases e : j = 8 + p
    · subst e
      rw [if_pos rfl, if_pos rfl]
      omega
    · rw [if_neg e, if_neg e]
      omega
theorem filled_only {p : Nat} {y x : List Int} (hx : x.length = 32) (hy : y.length = 32) (hp : p < 24) : Kp168.filled (Kp168.only p (un y)) (un x) = un (repl (8 + p) y x) := by
  rw [un_only, ← un_fillIn hx ?_, fill_only hx hy hp]
  intro g hg
  rcases List.mem_or_eq_of_mem_set hg with h | h
  · exact its_W g h
  · rw [h]; exact hy
end Pf

namespace Pf
open Kp168 (Row)
theorem bool_eq {a b : Bool} (h : a = false ↔ b = false) : a = b := by
  cases a <;> cases b <;> simp at h ⊢
/-! ### The nearest place -/
def stepN (b : Option (Nat × Int)) (x : Int × Nat) : Option (Nat × Int) := if x.1 = 0 then b else match b with
  | none => some (x.2, x.1)
  | some q => if x.1.natAbs < q.2.natAbs then some (x.2, x.1) else b
theorem nearest_eq (l : List Int) : Kp168.nearest l = l.zipIdx.foldl stepN none := rfl
theorem near_fold (r : List Int) : ∀ (l : List Int) (k : Nat) (b : Option (Nat × Int)), (∀ i, i < l.length → l.getD i 0 = r.getD (8 + (k + i)) 0) → (∀ p a, b = some (p, a) → a = r.getD (8 + p) 0) →
    (List.range' k l.length).foldl (fun b i => nearS r b (8 + i)) (b.map fun q => 8 + q.1) = ((l.zipIdx k).foldl stepN b).map (fun q => 8 + q.1) ∧
      ∀ p a, (l.zipIdx k).foldl stepN b = some (p, a) → a = r.getD (8 + p) 0
  | [], k, b, _, hb => ⟨rfl, hb⟩
  | x :: l, k, b, h, hb => by
    have h0 : x = r.getD (8 + k) 0 := by simpa using h 0 (by simp)
    have hs : ∀ i, i < l.length → l.getD i 0 = r.getD (8 + (k + 1 + i)) 0 := fun i hi => by
      have := h (i + 1) (by rw [List.length_cons]; omega)
      rw [List.getD_cons_succ] at this
      rw [this, show k + (i + 1) = k + 1 + i by omega]
    have hb2 : ∀ p a, stepN b (x, k) = some (p, a) → a = r.getD (8 + p) 0 := by
      intro p a e
      unfold stepN at e
      dsimp only at e
      by_cases c : x = 0
      · rw [if_pos c] at e
        exact hb p a e
      · rw [if_neg c] at e
        cases b with
        | none =>
          cases e
          exact h0
        | some q =>
          dsimp only at e
          by_cases c2 : x.natAbs < q.2.natAbs
          · rw [if_pos c2] at e
            cases e
            exact h0
          · rw [if_neg c2] at e
            exact hb p a e
    have ih := near_fold r l (k + 1) (stepN b (x, k)) hs hb2
    rw [List.length_cons, List.range'_succ, List.foldl_cons, List.zipIdx_cons, List.foldl_cons]
    have e : nearS r (b.map fun q => 8 + q.1) (8 + k) = (stepN b (x, k)).map fun q => 8 + q.1 := by
      unfold nearS stepN
      dsimp only
      rw [← h0]
      by_cases c : x = 0
      · rw [if_pos c, if_pos c]
      · rw [if_neg c, if_neg c]
        cases b with
        | none => rfl
        | some q =>
          obtain ⟨p, a⟩ := q
          have ha := hb p a rfl
          dsimp only [Option.map]
          rw [← ha]
          by_cases c2 : x.natAbs < a.natAbs
          · rw [if_pos c2, if_pos c2]
          · rw [if_neg c2, if_neg c2]
    rw [e]
    exact ih
theorem near_is {r : List Int} (h : r.length = 32) : near r = (Kp168.nearest (un r).place).map (fun q => 8 + q.1) ∧ ∀ p a, Kp168.nearest (un r).place = some (p, a) → a = r.getD (8 + p) 0 := by
  have := near_fold r (r.drop 8) 0 none (fun i hi => by simp [List.getD_eq_getElem?_getD, List.getElem?_drop]) (by intro p a e; cases e)
  have e0 : (r.drop 8).length = 24 := by simp [h]
  rw [e0, ← List.range_eq_range'] at this
  exact this
/-- what the fold holds -/
theorem near_some (r : List Int) : ∀ (L : List Nat) (b : Option Nat), (∀ p, b = some p → r.getD p 0 ≠ 0) →
    match L.foldl (fun b i => nearS r b (8 + i)) b with
    | none => b = none ∧ ∀ i ∈ L, r.getD (8 + i) 0 = 0
    | some p => r.getD p 0 ≠ 0 ∧ (b = some p ∨ ∃ i ∈ L, p = 8 + i) ∧ (∀ i ∈ L, r.getD (8 + i) 0 ≠ 0 → (r.getD p 0).natAbs ≤ (r.getD (8 + i) 0).natAbs) ∧ ∀ p0, b = some p0 → (r.getD p 0).natAbs ≤ (r.getD p0 0).natAbs
  | [], b, hb => by
    rw [List.foldl_nil]
    cases b with
    | none => exact ⟨rfl, by simp⟩
    | some p => exact ⟨hb p rfl, .inl rfl, by simp, by intro p0 e; cases e; exact Nat.le_refl _⟩
  | x :: L, b, hb => by
    rw [List.foldl_cons]
    have key : (nearS r b (8 + x) = b ∧ (r.getD (8 + x) 0 = 0 ∨ ∃ p, b = some p ∧ (r.getD p 0).natAbs ≤ (r.getD (8 + x) 0).natAbs)) ∨
        (nearS r b (8 + x) = some (8 + x) ∧ r.getD (8 + x) 0 ≠ 0 ∧ ∀ p, b = some p → (r.getD (8 + x) 0).natAbs ≤ (r.getD p 0).natAbs) := by
      unfold nearS
      by_cases c : r.getD (8 + x) 0 = 0
      · rw [if_pos c]
        exact .inl ⟨rfl, .inl c⟩
      · rw [if_neg c]
        cases b with
        | none => exact .inr ⟨rfl, c, by intro p e; cases e⟩
        | some p =>
          dsimp only
          by_cases c2 : (r.getD (8 + x) 0).natAbs < (r.getD p 0).natAbs
          · rw [if_pos c2]
            exact .inr ⟨rfl, c, by intro p' e; cases e; omega⟩
          · rw [if_neg c2]
            exact .inl ⟨rfl, .inr ⟨p, rfl, by omega⟩⟩
    rcases key with ⟨e, k⟩ | ⟨e, k1, k2⟩
    · rw [e]
      have ih := near_some r L b hb
      revert ih
      cases L.foldl (fun b i => nearS r b (8 + i)) b with
      | none =>
        rintro ⟨e1, e2⟩
        refine ⟨e1, fun i hi => ?_⟩
        rcases List.mem_cons.mp hi with rfl | hi
        · rcases k with k | ⟨p, k, _⟩
          · exact k
          · rw [e1] at k
            cases k
        · exact e2 i hi
      | some p =>
        rintro ⟨e1, e2, e3, e4⟩
        refine ⟨e1, ?_, fun i hi hn => ?_, e4⟩
        · rcases e2 with e2 | ⟨i, hi, e2⟩
          · exact .inl e2
          · exact .inr ⟨i, List.mem_cons_of_mem _ hi, e2⟩
        · rcases List.mem_cons.mp hi with rfl | hi
          · rcases k with k | ⟨p0, k, k2⟩
            · exact absurd k hn
            · exact Nat.le_trans (e4 p0 k) k2
          · exact e3 i hi hn
    · rw [e]
      have ih := near_some r L (some (8 + x)) (by intro p z; cases z; exact k1)
      revert ih
      cases L.foldl (fun b i => nearS r b (8 + i)) (some (8 + x)) with
      | none =>
        rintro ⟨e1, _⟩
        cases e1
      | some p =>
        rintro ⟨e1, e2, e3, e4⟩
        have e5 := e4 (8 + x) rfl
        refine ⟨e1, .inr ?_, fun i hi hn => ?_, fun p0 z => Nat.le_trans e5 (k2 p0 z)⟩
        · rcases e2 with e2 | ⟨i, hi, e2⟩
          · cases e2
            exact ⟨x, by simp, rfl⟩
          · exact ⟨i, List.mem_cons_of_mem _ hi, e2⟩
        · rcases List.mem_cons.mp hi with rfl | hi
          · exact e5
          · exact e3 i hi hn
theorem near_none {r : List Int} (h : near r = none) : ∀ j, 8 ≤ j → j < 32 → r.getD j 0 = 0 := by
  have := near_some r (List.range 24) none (by intro p e; cases e)
  unfold near at h
  rw [h] at this
  intro j h1 h2
  have := this.2 (j - 8) (List.mem_range.mpr (by omega))
  rwa [show 8 + (j - 8) = j by omega] at this
theorem near_at {r : List Int} {p : Nat} (h : near r = some p) : 8 ≤ p ∧ p < 32 ∧ r.getD p 0 ≠ 0 ∧ ∀ j, 8 ≤ j → j < 32 → r.getD j 0 ≠ 0 → (r.getD p 0).natAbs ≤ (r.getD j 0).natAbs := by
  have := near_some r (List.range 24) none (by intro p e; cases e)
  unfold near at h
  rw [h] at this
  obtain ⟨e1, e2, e3, _⟩ := this
  rcases e2 with e2 | ⟨i, hi, rfl⟩
  · cases e2
  · have hi := List.mem_range.mp hi
    refine ⟨by omega, by omega, e1, fun j h1 h2 hn => ?_⟩
    have := e3 (j - 8) (List.mem_range.mpr (by omega))
    rw [show 8 + (j - 8) = j by omega] at this
    exact this hn

/-! ### Tests -/
theorem big_false {m : Int} {l : List Int} : big m l = false ↔ ∀ j, j < l.length → -m ≤ l.getD j 0 ∧ l.getD j 0 ≤ m := by
  unfold big
  rw [List.any_eq_false]
  constructor
  · intro h j hj
    have := h (l.getD j 0) (by rw [List.getD_eq_getElem?_getD, List.getElem?_eq_getElem hj]; exact List.getElem_mem hj)
    rw [Bool.or_eq_true, decide_eq_true_eq, decide_eq_true_eq] at this
    omega
  · intro h x hx
    obtain ⟨j, hj, e⟩ := List.mem_iff_getElem.mp hx
    have := h j hj
    rw [List.getD_eq_getElem?_getD, List.getElem?_eq_getElem hj] at this
    simp at this ⊢
    subst e
    omega
theorem nz_false {l : List Int} : nz l = false ↔ ∀ j, l.getD j 0 = 0 := by
  unfold nz
  rw [List.any_eq_false]
  constructor
  · intro h j
    by_cases hj : j < l.length
    · have := h (l.getD j 0) (by rw [List.getD_eq_getElem?_getD, List.getElem?_eq_getElem hj]; exact List.getElem_mem hj)
      simpa using this
    · exact getD_out (by omega)
  · intro h x hx
    obtain ⟨j, hj, e⟩ := List.mem_iff_getElem.mp hx
    have := h j
    rw [List.getD_eq_getElem?_getD, List.getElem?_eq_getElem hj] at this
    simp at this ⊢
    subst e
    exact this
theorem empty_nz (l : List Int) : Kp168.empty l = !nz l := by
  unfold Kp168.empty nz
  rw [List.not_any_eq_all_not]
  congr 1
  funext x
  by_cases c : x = 0 <;> simp [c]
theorem small_big (r : List Int) : Kp168.small (un r) = !big 1073741824 r := by
  unfold Kp168.small big un
  dsimp only
  rw [List.take_append_drop, List.not_any_eq_all_not]
  congr 1
  funext x
  have e : Kp168.MOST = 1073741824 := rfl
  rw [e]
  by_cases c1 : (1073741824 : Int) < x <;> by_cases c2 : x < -1073741824 <;> simp [c1, c2] <;> omega
theorem other_false {r : List Int} {p : Nat} : other r p = false ↔ ∀ j, 8 ≤ j → j < 32 → j ≠ p → r.getD j 0 = 0 := by
  unfold other
  rw [List.any_eq_false]
  constructor
  · intro h j h1 h2 hn
    have := h (j - 8) (List.mem_range.mpr (by omega))
    rw [show 8 + (j - 8) = j by omega] at this
    simp [hn] at this
    simpa using this
  · intro h i hi
    have hi := List.mem_range.mp hi
    by_cases c : 8 + i = p
    · simp [c]
    · have := h (8 + i) (by omega) (by omega) c
      simp [c]
      simpa using this
theorem drop_get {l : List Int} {k j : Nat} : (l.drop k).getD j 0 = l.getD (k + j) 0 := by
  simp [List.getD_eq_getElem?_getD, List.getElem?_drop]
theorem take_get {l : List Int} {k j : Nat} : (l.take k).getD j 0 = if j < k then l.getD j 0 else 0 := by
  rw [List.getD_eq_getElem?_getD, List.getElem?_take]
  split
  · rw [List.getD_eq_getElem?_getD]
  · rfl
theorem empty_other {r : List Int} {p : Nat} (h : r.length = 32) (hp : p < 24) : Kp168.empty ((un r).place.set p 0) = !other r (8 + p) := by
  rw [empty_nz]
  congr 1
  apply bool_eq
  rw [nz_false, other_false]
  have hl : (un r).place.length = 24 := by simp [un, h]
  constructor
  · intro z j h1 h2 hn
    have := z (j - 8)
    rw [set_get (by omega), if_neg (by omega), un_place, drop_get, show 8 + (j - 8) = j by omega] at this
    exact this
  · intro z j
    rw [set_get (by omega)]
    by_cases c : j = p
    · rw [if_pos c]
    · rw [if_neg c, un_place, drop_get]
      by_cases c2 : j < 24
      · exact z (8 + j) (by omega) (by omega) (by omega)
      · exact getD_out (by omega)
theorem un_red {r : List Int} {p : Nat} (h : r.length = 32) : Kp168.instead (un r) p (r.getD (8 + p) 0) = un (red r (8 + p)) := by
  unfold Kp168.instead un red
  dsimp only
  congr 1
  · rw [List.take_set, List.set_eq_of_length_le (by simp; omega), List.map_take]
  · rw [List.drop_set, if_neg (by omega), show 8 + p - 8 = p by omega, List.map_drop]

/-! ### The places from n on -/
def tail (n : Nat) : List (List Int) := (List.range' n (24 - n)).map it
def Clear (n : Nat) (g : List Int) : Prop := g.length = 32 ∧ ∀ j, 8 + n ≤ j → g.getD j 0 = 0
def Rows (n : Nat) (F : List (List Int)) : Prop := F.length = n ∧ (∀ g ∈ F, Clear n g) ∧ ∀ g ∈ F, big 1073741824 g = false
theorem Rows.w {n : Nat} {F : List (List Int)} (h : Rows n F) : W32 F := fun g hg => (h.2.1 g hg).1
theorem tail_W (n : Nat) : W32 (tail n) := by
  intro g hg
  obtain ⟨k, _, rfl⟩ := List.mem_map.mp hg
  exact it_len k
theorem repl_it {p k : Nat} {y : List Int} (hy : y.length = 32) (hk : k < 24) (hp : p < 32) (hn : p ≠ 8 + k) : repl p y (it k) = it k := by
  refine ext32 (repl_len (it_len k) hy) (it_len k) fun j hj => ?_
  have e : (it k).getD p 0 = 0 := by rw [it_get hk, if_neg hn]
  rw [repl_get (it_len k) hy hp, e]
  by_cases c : j = p
  · subst c
    rw [if_pos rfl, e]
    omega
  · rw [if_neg c]
    omega
theorem tail_map {n p : Nat} {y : List Int} (hn : n ≤ 24) (hy : y.length = 32) (hp : p < 8 + n) : (tail n).map (repl p y) = tail n := by
  unfold tail
  rw [List.map_map]
  apply List.map_congr_left
  intro k hk
  rw [List.mem_range'_1] at hk
  exact repl_it hy (by omega) (by omega) (by omega)
theorem tail_small {n : Nat} (hn : n ≤ 24) : ∀ g ∈ tail n, big 1073741824 g = false := by
  intro g hg
  obtain ⟨k, hk, rfl⟩ := List.mem_map.mp hg
  rw [List.mem_range'_1] at hk
  rw [big_false]
  intro j _
  rw [it_get (by omega)]
  split <;> decide
theorem all_small {n : Nat} (hn : n ≤ 24) (F : List (List Int)) : ((F ++ tail n).map un).all Kp168.small = !F.any (big 1073741824) := by
  rw [List.all_map, List.all_append, List.not_any_eq_all_not]
  have e1 : (tail n).all (Kp168.small ∘ un) = true := by
    rw [List.all_eq_true]
    intro g hg
    show Kp168.small (un g) = true
    rw [small_big, tail_small hn g hg]
    rfl
  rw [e1, Bool.and_true]
  congr 1
  funext g
  exact small_big g
theorem map_only {n p : Nat} {y : List Int} {F : List (List Int)} (hn : n ≤ 24) (w : W32 F) (hy : y.length = 32) (hp : p < n) :
    ((F ++ tail n).map un).map (Kp168.filled (Kp168.only p (un y))) = ((F.map (repl (8 + p) y)) ++ tail n).map un := by
  have e : (F ++ tail n).map (repl (8 + p) y) = F.map (repl (8 + p) y) ++ tail n := by rw [List.map_append, tail_map hn hy (by omega)]
  rw [← e, List.map_map, List.map_map]
  apply List.map_congr_left
  intro g hg
  have hl : g.length = 32 := by
    rcases List.mem_append.mp hg with h | h
    · exact w g h
    · exact tail_W n g h
  exact filled_only hl hy (by omega)

/-! ### One step -/
theorem fdiv_rest (x a : Int) : x + a * -(x.fdiv a) = x.fmod a := by
  have := Int.fmod_def x a
  rw [this, Int.mul_neg]
  omega
theorem fmod_small {x a : Int} (h : a ≠ 0) : (x.fmod a).natAbs < a.natAbs := by
  rcases Int.lt_or_gt_of_ne h with c | c
  · have e : x.fmod a = -((-x).fmod (-a)) := by rw [Int.neg_fmod_neg, Int.neg_neg]
    have h1 := Int.fmod_nonneg_of_pos (-x) (show 0 < -a by omega)
    have h2 := Int.fmod_lt_of_pos (-x) (show 0 < -a by omega)
    omega
  · have h1 := Int.fmod_nonneg_of_pos x c
    have h2 := Int.fmod_lt_of_pos x c
    omega
theorem repl_red {r : List Int} {p : Nat} (h : r.length = 32) (hp : p < 32) {j : Nat} (hj : j < 32) : (repl p (red r p) r).getD j 0 = if j = p then r.getD p 0 else (r.getD j 0).fmod (r.getD p 0) := by
  rw [repl_get h (red_len h) hp]
  by_cases c : j = p
  · rw [if_pos c, if_pos c, red_get h hp hp, if_pos rfl]
    omega
  · rw [if_neg c, if_neg c, red_get h hp hj, if_neg c, fdiv_rest]
theorem red_clear {n : Nat} {r : List Int} {p : Nat} (h : Clear n r) (h8 : 8 ≤ p) (hp : p < 8 + n) (hn : n ≤ 24) : Clear n (red r p) := by
  refine ⟨red_len h.1, fun j hj => ?_⟩
  by_cases c : j < 32
  · rw [red_get h.1 (by omega) c, if_neg (by omega), h.2 j hj]
    simp
  · exact getD_out (by rw [red_len h.1]; omega)
theorem repl_clear {n : Nat} {x y : List Int} {p : Nat} (hx : Clear n x) (hy : Clear n y) (hp : p < 8 + n) (hn : n ≤ 24) : Clear n (repl p y x) := by
  refine ⟨repl_len hx.1 hy.1, fun j hj => ?_⟩
  rw [repl_get hx.1 hy.1 (by omega), if_neg (by omega), hx.2 j hj, hy.2 j hj]
  omega
theorem step_small {r : List Int} {p : Nat} (h : r.length = 32) (hp : p < 32) (h0 : r.getD p 0 ≠ 0) (hb : big 1073741824 r = false) : big 1073741824 (repl p (red r p) r) = false := by
  rw [big_false] at hb ⊢
  intro j hj
  rw [repl_len h (red_len h)] at hj
  rw [repl_red h hp hj]
  have hq := hb p (by omega)
  by_cases c : j = p
  · rw [if_pos c]
    exact hq
  · rw [if_neg c]
    have := fmod_small (x := r.getD j 0) h0
    omega
theorem zero_clear (n : Nat) : Clear n zero := ⟨rfl, fun j _ => zero_get j⟩
theorem drop_small {x : List Int} {p : Nat} (h : x.length = 32) (hp : p < 32) (hb : big 1073741824 x = false) : big 1073741824 (repl p zero x) = false := by
  rw [big_false] at hb ⊢
  intro j hj
  rw [repl_len h zero_len] at hj
  rw [repl_get h zero_len hp, zero_get, zero_get]
  by_cases c : j = p
  · rw [if_pos c]
    omega
  · rw [if_neg c]
    have := hb j (by omega)
    omega
theorem rows_step {n : Nat} {F : List (List Int)} {p : Nat} {y : List Int} (hn : n ≤ 24) (R : Rows n F) (hy : Clear n y) (hp : p < 8 + n) (hb : (F.map (repl p y)).any (big 1073741824) = false) : Rows n (F.map (repl p y)) := by
  refine ⟨by rw [List.length_map]; exact R.1, fun g hg => ?_, fun g hg => ?_⟩
  · obtain ⟨x, hx, rfl⟩ := List.mem_map.mp hg
    exact repl_clear (R.2.1 x hx) hy hp hn
  · rw [List.any_eq_false] at hb
    simpa using hb g hg
theorem rows_drop {n : Nat} {F : List (List Int)} {p : Nat} (hn : n ≤ 24) (R : Rows n F) (hp : p < 8 + n) : Rows n (F.map (repl p zero)) := by
  refine ⟨by rw [List.length_map]; exact R.1, fun g hg => ?_, fun g hg => ?_⟩
  · obtain ⟨x, hx, rfl⟩ := List.mem_map.mp hg
    exact repl_clear (R.2.1 x hx) (zero_clear n) hp hn
  · obtain ⟨x, hx, rfl⟩ := List.mem_map.mp hg
    exact drop_small (R.2.1 x hx).1 (by omega) (R.2.2 x hx)
def back (n : Nat) : Int ⊕ List (List Int) → Int ⊕ Kp168.Filling
  | .inl v => .inl v
  | .inr G => .inr ((G ++ tail n).map un)
theorem near_lt {n : Nat} {r : List Int} {p : Nat} (C : Clear n r) (h : near r = some p) : p < 8 + n := by
  have := (near_at h).2.2.1
  by_cases c : p < 8 + n
  · exact c
  · exact absurd (C.2 p (by omega)) this
theorem one_is {n : Nat} (hn : n ≤ 24) : ∀ (f : Nat) (F : List (List Int)) (r : List Int), Rows n F → Clear n r → big 1073741824 r = false →
    Kp168.one f ((F ++ tail n).map un) (un r) = back n (one f F r)
  | 0, F, r, R, C, b => rfl
  | f + 1, F, r, R, C, b => by
    have hN := near_is C.1
    unfold Kp168.one one
    cases e : Kp168.nearest (un r).place with
    | none =>
      rw [e] at hN
      have hn1 : near r = none := hN.1
      rw [hn1]
      dsimp only
      have e2 : Kp168.empty (un r).mark = !nz r := by
        rw [empty_nz]
        congr 1
        apply bool_eq
        rw [nz_false, nz_false]
        constructor
        · intro z j
          by_cases c : j < 8
          · have := z j
            rw [un_mark, take_get, if_pos c] at this
            exact this
          · by_cases c2 : j < 32
            · exact near_none hn1 j (by omega) c2
            · exact getD_out (by rw [C.1]; omega)
        · intro z j
          rw [un_mark, take_get]
          split
          · exact z j
          · rfl
      rw [e2]
      cases nz r <;> rfl
    | some q =>
      obtain ⟨p, a⟩ := q
      rw [e] at hN
      have hn1 : near r = some (8 + p) := hN.1
      have ha : a = r.getD (8 + p) 0 := hN.2 p a rfl
      subst ha
      rw [hn1]
      dsimp only
      obtain ⟨_, hp, h0, _⟩ := near_at hn1
      have hpn : 8 + p < 8 + n := near_lt C hn1
      have hy := red_clear C (by omega) hpn hn
      rw [un_red C.1, map_only hn R.w hy.1 (by omega), filled_only C.1 hy.1 (by omega), all_small hn]
      have hs := step_small C.1 hp h0 b
      rw [small_big, hs]
      have hc1 := repl_clear C hy hpn hn
      rw [empty_other hc1.1 (by omega)]
      cases hb : (F.map (repl (8 + p) (red r (8 + p)))).any (big 1073741824) with
      | true => rfl
      | false =>
        have R1 := rows_step hn R hy hpn hb
        cases ho : other (repl (8 + p) (red r (8 + p)) r) (8 + p) with
        | true => exact one_is hn f _ _ R1 hc1 hs
        | false =>
          rw [show Kp168.nought = un zero from rfl, map_only hn R1.w zero_len (by omega)]
          have e2 : Kp168.empty (un (repl (8 + p) (red r (8 + p)) r)).mark = !nz ((repl (8 + p) (red r (8 + p)) r).take 8) := empty_nz _
          rw [e2]
          cases nz ((repl (8 + p) (red r (8 + p)) r).take 8) <;> rfl
theorem one_rows {n : Nat} (hn : n ≤ 24) : ∀ (f : Nat) (F : List (List Int)) (r : List Int), Rows n F → Clear n r → ∀ G, one f F r = .inr G → Rows n G
  | 0, F, r, R, C, G, h => by cases h; exact R
  | f + 1, F, r, R, C, G, h => by
    unfold one at h
    cases e : near r with
    | none =>
      rw [e] at h
      dsimp only at h
      cases z : nz r with
      | true => rw [z] at h; cases h
      | false => rw [z] at h; cases h; exact R
    | some p =>
      rw [e] at h
      dsimp only at h
      have hpn := near_lt C e
      have h8 := (near_at e).1
      have hy := red_clear C h8 hpn hn
      cases hb : (F.map (repl p (red r p))).any (big 1073741824) with
      | true => rw [hb] at h; cases h
      | false =>
        rw [hb] at h
        have R1 := rows_step hn R hy hpn hb
        have hc1 := repl_clear C hy hpn hn
        cases ho : other (repl p (red r p) r) p with
        | true =>
          rw [ho] at h
          exact one_rows hn f _ _ R1 hc1 G h
        | false =>
          rw [ho] at h
          cases z : nz ((repl p (red r p) r).take 8) with
          | true => rw [z] at h; cases h
          | false => rw [z] at h; cases h; exact rows_drop hn R1 hpn
end Pf

namespace Pf
open Kp168 (Row)
/-! ### One equation, all equations -/
theorem fillA_app : ∀ (F T : List (List Int)) (ks acc : List Int), fillA acc ks (F ++ T) = fillA (fillA acc ks F) (ks.drop F.length) T
  | [], T, ks, acc => by
    have e : fillA acc ks [] = acc := by cases ks <;> rfl
    rw [e]
    rfl
  | g :: F, T, [], acc => by
    rw [List.drop_nil]
    show acc = fillA acc [] T
    unfold fillA
    rfl
  | g :: F, T, k :: ks, acc => by
    show fillA (comb k acc g) ks (F ++ T) = fillA (fillA (comb k acc g) ks F) (ks.drop F.length) T
    exact fillA_app F T ks (comb k acc g)
theorem fillA_none : ∀ (T : List (List Int)) (ks acc : List Int), (∀ j, ks.getD j 0 = 0) → W32 T → acc.length = 32 → fillA acc ks T = acc
  | [], ks, acc, _, _, _ => by cases ks <;> rfl
  | g :: T, [], acc, _, _, _ => rfl
  | g :: T, k :: ks, acc, h, w, ha => by
    have hk : k = 0 := by simpa using h 0
    subst hk
    show fillA (comb 0 acc g) ks T = acc
    rw [comb_zero (by rw [ha, w g (by simp)])]
    exact fillA_none T ks acc (fun j => by simpa using h (j + 1)) (fun x hx => w x (by simp [hx])) ha
theorem acc_len {q : List Int} (h : q.length = 32) : (q.take 8 ++ List.replicate 24 (0 : Int)).length = 32 := by simp [h]
theorem fill_tail {n : Nat} {q : List Int} {F : List (List Int)} (C : Clear n q) (hF : F.length = n) (w : W32 F) : fillIn q (F ++ tail n) = fillIn q F := by
  unfold fillIn
  rw [fillA_app, fillA_none _ _ _ (fun j => ?_) (tail_W n) (fillA_len (acc_len C.1) w)]
  rw [drop_get, drop_get]
  exact C.2 _ (by omega)
theorem dot_clear : ∀ (ks : List Int) (F : List (List Int)) (j : Nat), (∀ g ∈ F, g.getD j 0 = 0) → dot ks F j = 0
  | [], _, _, _ => by unfold dot; rfl
  | _ :: _, [], _, _ => by unfold dot; rfl
  | k :: ks, g :: F, j, h => by
    unfold dot
    rw [dot_clear ks F j (fun x hx => h x (by simp [hx])), h g (by simp)]
    omega
theorem fill_clear {n : Nat} {q : List Int} {F : List (List Int)} (h : q.length = 32) (R : ∀ g ∈ F, Clear n g) : Clear n (fillIn q F) := by
  have w : W32 F := fun g hg => (R g hg).1
  refine ⟨fillA_len (acc_len h) w, fun j hj => ?_⟩
  unfold fillIn
  rw [fillA_get (acc_len h) w, dot_clear _ _ _ fun g hg => (R g hg).2 j hj, List.getD_eq_getElem?_getD, List.getElem?_append_right (by simp; omega), List.getElem?_replicate]
  split <;> rfl
theorem solve_is {n : Nat} (hn : n ≤ 24) {q : List Int} {F : List (List Int)} (R : Rows n F) (C : Clear n q) :
    (if (!Kp168.small (Kp168.filled ((F ++ tail n).map un) (un q))) = true then (.inl (-75) : Int ⊕ Kp168.Filling) else Kp168.one Kp168.STEPS ((F ++ tail n).map un) (Kp168.filled ((F ++ tail n).map un) (un q))) = back n (solve q F) := by
  have w : W32 (F ++ tail n) := fun g hg => by
    rcases List.mem_append.mp hg with h | h
    · exact R.w g h
    · exact tail_W n g h
  rw [← un_fillIn C.1 w, fill_tail C R.1 R.w, small_big]
  unfold solve
  cases b : big 1073741824 (fillIn q F) with
  | true => rfl
  | false => exact one_is hn _ F _ R (fill_clear C.1 R.2.1) b
theorem solve_rows {n : Nat} (hn : n ≤ 24) {q : List Int} {F G : List (List Int)} (R : Rows n F) (C : Clear n q) (h : solve q F = .inr G) : Rows n G := by
  unfold solve at h
  cases b : big 1073741824 (fillIn q F) with
  | true => rw [b] at h; cases h
  | false =>
    rw [b] at h
    exact one_rows hn _ F _ R (fill_clear C.1 R.2.1) G h
def backA (n : Nat) : (Int × Nat) ⊕ List (List Int) → (Int × Nat) ⊕ Kp168.Filling
  | .inl v => .inl v
  | .inr G => .inr ((G ++ tail n).map un)
theorem all_is {n : Nat} (hn : n ≤ 24) : ∀ (l : List (List Int)) (k : Nat) (F : List (List Int)), Rows n F → (∀ q ∈ l, Clear n q) →
    Kp168.all k ((F ++ tail n).map un) (l.map un) = backA n (all k F l)
  | [], k, F, R, _ => rfl
  | q :: l, k, F, R, C => by
    have hq := C q (by simp)
    have e := solve_is hn R hq
    rw [List.map_cons]
    unfold Kp168.all all
    dsimp only
    cases s : solve q F with
    | inl v =>
      rw [s] at e
      cases b : Kp168.small (Kp168.filled ((F ++ tail n).map un) (un q)) with
      | true =>
        rw [b] at e
        have e' : Kp168.one Kp168.STEPS ((F ++ tail n).map un) (Kp168.filled ((F ++ tail n).map un) (un q)) = .inl v := e
        rw [if_neg (by decide), e']
        rfl
      | false =>
        rw [b] at e
        have e' : (.inl (-75) : Int ⊕ Kp168.Filling) = .inl v := e
        cases e'
        rw [if_pos (by decide)]
        rfl
    | inr G =>
      rw [s] at e
      have R1 := solve_rows hn R hq s
      cases b : Kp168.small (Kp168.filled ((F ++ tail n).map un) (un q)) with
      | true =>
        rw [b] at e
        have e' : Kp168.one Kp168.STEPS ((F ++ tail n).map un) (Kp168.filled ((F ++ tail n).map un) (un q)) = .inr ((G ++ tail n).map un) := e
        rw [if_neg (by decide), e']
        exact all_is hn l (k + 1) G R1 fun x hx => C x (by simp [hx])
      | false =>
        rw [b] at e
        have e' : (.inl (-75) : Int ⊕ Kp168.Filling) = .inr ((G ++ tail n).map un) := e
        cases e'
theorem all_rows {n : Nat} (hn : n ≤ 24) : ∀ (l : List (List Int)) (k : Nat) (F : List (List Int)), Rows n F → (∀ q ∈ l, Clear n q) → ∀ G, all k F l = .inr G → Rows n G
  | [], k, F, R, _, G, h => by cases h; exact R
  | q :: l, k, F, R, C, G, h => by
    unfold all at h
    cases s : solve q F with
    | inl v => rw [s] at h; cases h
    | inr F1 =>
      rw [s] at h
      exact all_rows hn l (k + 1) F1 (solve_rows hn R (C q (by simp)) s) (fun x hx => C x (by simp [hx])) G h
theorem its_rows {n : Nat} (hn : n ≤ 24) : Rows n ((List.range n).map it) := by
  refine ⟨by simp, fun g hg => ?_, fun g hg => ?_⟩
  · obtain ⟨k, hk, rfl⟩ := List.mem_map.mp hg
    have hk := List.mem_range.mp hk
    refine ⟨it_len k, fun j hj => ?_⟩
    rw [it_get (by omega), if_neg (by omega)]
  · obtain ⟨k, hk, rfl⟩ := List.mem_map.mp hg
    have hk := List.mem_range.mp hk
    rw [big_false]
    intro j _
    rw [it_get (by omega)]
    split <;> decide
theorem its_tail {n : Nat} (hn : n ≤ 24) : (List.range n).map it ++ tail n = (List.range 24).map it := by
  unfold tail
  rw [← List.map_append, List.range_eq_range', List.range_eq_range']
  congr 1
  have := List.range'_append (s := 0) (m := n) (n := 24 - n) (step := 1)
  rw [show n + (24 - n) = 24 by omega] at this
  simpa using this

/-! ### Refusals -/
theorem good_row {n : Nat} {q : List Int} : Kp168.goodRow n (un q) = !(big 1048576 q || nz (q.drop (8 + n))) := by
  unfold Kp168.goodRow
  rw [empty_nz]
  have e1 : ((un q).mark ++ (un q).place).all (fun k => decide (-Kp168.IN ≤ k) && decide (k ≤ Kp168.IN)) = !big 1048576 q := by
    unfold big un
    dsimp only
    rw [List.take_append_drop, List.not_any_eq_all_not]
    congr 1
    funext x
    have e : Kp168.IN = 1048576 := rfl
    rw [e]
    by_cases c1 : (1048576 : Int) < x <;> by_cases c2 : x < -1048576 <;> simp [c1, c2] <;> omega
  have e2 : (un q).place.drop n = q.drop (8 + n) := by
    show (q.drop 8).drop n = _
    rw [List.drop_drop]
  rw [e1, e2, Bool.not_or]
theorem good_is {n : Nat} {q : List (List Int)} : Kp168.good { e := if (q.map un).length ≤ 256 then q.map un else [], m := (q.map un).length, n := n } = !refused n q := by
  unfold Kp168.good refused
  dsimp only
  rw [List.length_map]
  have e1 : Kp168.EQS = 256 := rfl
  have e2 : Kp168.PLACES = 24 := rfl
  rw [e1, e2]
  by_cases c : q.length ≤ 256
  · rw [if_pos c, decide_eq_true c, decide_eq_false (by omega : ¬ 256 < q.length), List.all_map, Bool.true_and, Bool.false_or, Bool.not_or, List.not_any_eq_all_not]
    congr 1
    · by_cases c2 : n ≤ 24 <;> simp [c2] <;> omega
    · congr 1
      funext x
      exact good_row
  · rw [decide_eq_false c, decide_eq_true (by omega : 256 < q.length)]
    rfl
theorem refused_clear {n : Nat} {q : List (List Int)} (w : W32 q) (h : refused n q = false) : n ≤ 24 ∧ (∀ x ∈ q, Clear n x) ∧ ∀ x ∈ q, big 1048576 x = false := by
  unfold refused at h
  rw [Bool.or_eq_false_iff, Bool.or_eq_false_iff, List.any_eq_false] at h
  obtain ⟨⟨_, h2⟩, h3⟩ := h
  have h2 := of_decide_eq_false h2
  refine ⟨by omega, fun x hx => ⟨w x hx, fun j hj => ?_⟩, fun x hx => ?_⟩
  · have := h3 x hx
    rw [Bool.not_eq_true, Bool.or_eq_false_iff, nz_false] at this
    have := this.2 (j - (8 + n))
    rw [drop_get, show 8 + n + (j - (8 + n)) = j by omega] at this
    exact this
  · have := h3 x hx
    rw [Bool.not_eq_true, Bool.or_eq_false_iff] at this
    exact this.1

/-! ### Writing -/
theorem flat1 : ∀ l : List Int, l.flatMap Kp168Neutral.wrInt = l
  | [] => rfl
  | x :: l => by
    rw [List.flatMap_cons, flat1 l]
    rfl
theorem wr_row {g : List Int} (h : g.length = 32) : Kp168Neutral.wrKp168_Row (un g) = 8 :: (g.take 8 ++ 24 :: g.drop 8) := by
  unfold Kp168Neutral.wrKp168_Row Kp168Neutral.wrList
  rw [flat1, flat1]
  have e1 : (un g).mark.length = 8 := by simp [un, h]
  have e2 : (un g).place.length = 24 := by simp [un, h]
  rw [e1, e2]
  rfl
theorem wr_rows : ∀ (F : List (List Int)), W32 F → (F.map un).flatMap Kp168Neutral.wrKp168_Row = F.flatMap fun g => 8 :: (g.take 8 ++ 24 :: g.drop 8)
  | [], _ => rfl
  | g :: F, w => by
    rw [List.map_cons, List.flatMap_cons, List.flatMap_cons, wr_row (w g (by simp)), wr_rows F fun x hx => w x (by simp [hx])]
theorem answer_is {n : Nat} {q : List (List Int)} (w : W32 q) :
    Kp168Neutral.wrKp168_Ans (Kp168.answer { e := if (q.map un).length ≤ 256 then q.map un else [], m := (q.map un).length, n := n }) = ans n q := by
  unfold Kp168.answer ans
  rw [good_is]
  cases h : refused n q with
  | true => rfl
  | false =>
    obtain ⟨hn, hc, _⟩ := refused_clear w h
    have hq : q.length ≤ 256 := by
      unfold refused at h
      rw [Bool.or_eq_false_iff, Bool.or_eq_false_iff] at h
      have := of_decide_eq_false h.1.1
      omega
    dsimp only
    rw [if_neg (show ¬ (!false) = false by decide), if_neg (show ¬ false = true by decide), if_pos (show (q.map un).length ≤ 256 by rw [List.length_map]; exact hq), un_itself, ← its_tail hn, all_is hn q 0 _ (its_rows hn) hc]
    cases e : all 0 ((List.range n).map it) q with
    | inl v => rfl
    | inr G =>
      have R := all_rows hn q 0 _ (its_rows hn) hc G e
      show 2 :: Kp168Neutral.wrList Kp168Neutral.wrKp168_Row (((G ++ tail n).map un).take n) = 2 :: wr G
      have et : ((G ++ tail n).map un).take n = G.map un := by
        rw [List.map_append, List.take_append_of_le_length (by rw [List.length_map, R.1]; exact Nat.le_refl _), List.take_of_length_le (by rw [List.length_map, R.1]; exact Nat.le_refl _)]
      rw [et]
      unfold Kp168Neutral.wrList wr
      rw [wr_rows G R.w, List.length_map]

/-! ### Reading -/
theorem rdMany_int : ∀ (n : Nat) (l : List Int) (y : List Int × List Int), Kp168Neutral.rdMany Kp168Neutral.rdInt n l = some y → l = y.1 ++ y.2 ∧ y.1.length = n
  | 0, l, y, h => by cases h; exact ⟨rfl, rfl⟩
  | n + 1, [], y, h => by cases h
  | n + 1, v :: l, y, h => by
    have h' : (Kp168Neutral.rdMany Kp168Neutral.rdInt n l).map (fun y => (v :: y.1, y.2)) = some y := h
    cases e : Kp168Neutral.rdMany Kp168Neutral.rdInt n l with
    | none => simp [e] at h'
    | some z =>
      rw [e] at h'
      cases h'
      have ih := rdMany_int n l z e
      exact ⟨by rw [ih.1]; rfl, by simp [ih.2]⟩
theorem rdList_int {l : List Int} {y : List Int × List Int} (h : Kp168Neutral.rdList Kp168Neutral.rdInt l = some y) : l = (y.1.length : Int) :: (y.1 ++ y.2) := by
  unfold Kp168Neutral.rdList at h
  cases l with
  | nil => cases h
  | cons v l =>
    unfold Kp168Neutral.rdNat at h
    dsimp only at h
    by_cases c : 0 ≤ v
    · rw [if_pos c] at h
      have h' : (if v.toNat ≤ l.length + 1 then Kp168Neutral.rdMany Kp168Neutral.rdInt v.toNat l else none) = some y := h
      by_cases c2 : v.toNat ≤ l.length + 1
      · rw [if_pos c2] at h'
        obtain ⟨e1, e2⟩ := rdMany_int _ _ _ h'
        rw [e1, e2, Int.toNat_of_nonneg c]
      · rw [if_neg c2] at h'
        cases h'
    · rw [if_neg c] at h
      cases h
theorem rd_row {l : List Int} {y : Row × List Int} (h : Kp168Neutral.rdKp168_Row l = some y) : l = (y.1.mark.length : Int) :: (y.1.mark ++ (y.1.place.length : Int) :: (y.1.place ++ y.2)) := by
  unfold Kp168Neutral.rdKp168_Row at h
  cases e : Kp168Neutral.rdList Kp168Neutral.rdInt l with
  | none => simp [e] at h
  | some z =>
    rw [e] at h
    have h' : (Kp168Neutral.rdList Kp168Neutral.rdInt z.2).bind (fun y1 => some (({ mark := z.1, place := y1.1 } : Row), y1.2)) = some y := h
    cases e2 : Kp168Neutral.rdList Kp168Neutral.rdInt z.2 with
    | none => rw [e2] at h'; cases h'
    | some u =>
      rw [e2] at h'
      cases h'
      have h1 := rdList_int e
      have h2 := rdList_int e2
      rw [h1, h2]
def enc (g : List Int) : List Int := 8 :: (g.take 8 ++ 24 :: g.drop 8)
theorem rd_rows : ∀ (n : Nat) (l : List Int) (y : List Row × List Int), Kp168Neutral.rdMany Kp168Neutral.rdKp168_Row n l = some y → (∀ x ∈ y.1, x.mark.length = 8 ∧ x.place.length = 24) →
    ∃ q : List (List Int), W32 q ∧ q.length = n ∧ y.1 = q.map un ∧ l = q.flatMap enc ++ y.2
  | 0, l, y, h, _ => by cases h; exact ⟨[], (fun g hg => by cases hg), rfl, rfl, rfl⟩
  | n + 1, l, y, h, hl => by
    unfold Kp168Neutral.rdMany at h
    cases e : Kp168Neutral.rdKp168_Row l with
    | none => simp [e] at h
    | some x =>
      rw [e] at h
      have h' : (Kp168Neutral.rdMany Kp168Neutral.rdKp168_Row n x.2).map (fun y => (x.1 :: y.1, y.2)) = some y := h
      cases e2 : Kp168Neutral.rdMany Kp168Neutral.rdKp168_Row n x.2 with
      | none => rw [e2] at h'; cases h'
      | some z =>
        rw [e2] at h'
        cases h'
        obtain ⟨q, w, ql, qe, le⟩ := rd_rows n x.2 z e2 fun a ha => hl a (by simp [ha])
        obtain ⟨h8, h24⟩ := hl x.1 (by simp)
        have e3 := rd_row e
        have t8 : (x.1.mark ++ x.1.place).take 8 = x.1.mark := by rw [List.take_append_of_le_length (by omega), List.take_of_length_le (by omega)]
        have d8 : (x.1.mark ++ x.1.place).drop 8 = x.1.place := by rw [List.drop_append_of_le_length (by omega), List.drop_of_length_le (by omega)]; rfl
        refine ⟨(x.1.mark ++ x.1.place) :: q, fun g hg => ?_, by simp [ql], ?_, ?_⟩
        · rcases List.mem_cons.mp hg with rfl | hg
          · simp [h8, h24]
          · exact w g hg
        · rw [List.map_cons, ← qe]
          unfold un
          rw [t8, d8]
        · rw [e3, List.flatMap_cons, le, h8, h24]
          unfold enc
          rw [t8, d8]
          simp
theorem enc_len {g : List Int} (h : g.length = 32) : (enc g).length = 34 := by simp [enc, h]
theorem flat_len : ∀ (q : List (List Int)), W32 q → (q.flatMap enc).length = 34 * q.length
  | [], _ => rfl
  | g :: q, w => by
    rw [List.flatMap_cons, List.length_append, enc_len (w g (by simp)), flat_len q fun x hx => w x (by simp [hx]), List.length_cons]
    omega
theorem flat_drop : ∀ (k : Nat) (q : List (List Int)), W32 q → k ≤ q.length → (q.flatMap enc).drop (34 * k) = (q.drop k).flatMap enc
  | 0, q, _, _ => rfl
  | k + 1, [], _, h => by simp at h
  | k + 1, g :: q, w, h => by
    rw [List.flatMap_cons, show 34 * (k + 1) = (enc g).length + 34 * k by rw [enc_len (w g (by simp))]; omega, List.drop_append, List.drop_of_length_le (by omega), List.nil_append, show (enc g).length + 34 * k - (enc g).length = 34 * k by omega]
    exact flat_drop k q (fun x hx => w x (by simp [hx])) (by simpa using h)
/-- e is written out of the products q -/
def Wrote (e : List Int) (q : List (List Int)) : Prop := W32 q ∧ e = (q.length : Int) :: q.flatMap enc
theorem rd_at {e : List Int} {q : List (List Int)} (h : Wrote e q) {k : Nat} {g : List Int} (hk : q[k]? = some g) : rdAt e k = g := by
  obtain ⟨w, rfl⟩ := h
  obtain ⟨hlt, hg⟩ := List.getElem?_eq_some_iff.mp hk
  have hd : ∀ i, ((q.length : Int) :: q.flatMap enc).drop (34 * k + (i + 1)) = ((q.drop k).flatMap enc).drop i := fun i => by
    rw [← flat_drop k q w (by omega), List.drop_drop, show 34 * k + (i + 1) = (34 * k + i) + 1 by omega, List.drop_succ_cons]
  have hq : q.drop k = g :: q.drop (k + 1) := by rw [← hg]; exact List.drop_eq_getElem_cons hlt
  have hl : g.length = 32 := w g (hg ▸ List.getElem_mem hlt)
  unfold rdAt
  rw [hd 1, hd 10, hq, List.flatMap_cons]
  have e1 : (enc g ++ (q.drop (k + 1)).flatMap enc).drop 1 = g.take 8 ++ (24 :: g.drop 8 ++ (q.drop (k + 1)).flatMap enc) := by
    unfold enc
    simp
  have e2 : (enc g ++ (q.drop (k + 1)).flatMap enc).drop 10 = g.drop 8 ++ (q.drop (k + 1)).flatMap enc := by
    have h8 : (g.take 8).length = 8 := by simp [hl]
    unfold enc
    rw [List.cons_append, List.drop_succ_cons, List.append_assoc, show 9 = (g.take 8).length + 1 by omega, ← List.drop_drop, List.drop_left]
    rfl
  rw [e1, e2, List.take_append_of_le_length (by simp [hl]), List.take_append_of_le_length (by simp [hl]), List.take_take, List.take_of_length_le (l := g.drop 8) (by simp [hl])]
  exact List.take_append_drop 8 g
theorem asked_wrote {n : Int} {e : List Int} (h : PyKp168.pw_solve_asked n e = true) : ∃ q, Wrote e q ∧ PyKp168.pw_solve n e = ans n.toNat q := by
  unfold PyKp168.pw_solve_asked Kp168Neutral.asked at h
  rw [Bool.and_eq_true] at h
  have h1 : ((match (Kp168Neutral.rdList Kp168Neutral.rdKp168_Row) e with
    | some (l, []) => l.all fun x => decide (x.mark.length = 8) && decide (x.place.length = 24)
    | _ => false) && Kp168Neutral.natural n 63) = true := h.1
  rw [Bool.and_eq_true] at h1
  have h2 := h1.1
  cases er : Kp168Neutral.rdList Kp168Neutral.rdKp168_Row e with
  | none => rw [er] at h2; cases h2
  | some y =>
    obtain ⟨l, t⟩ := y
    cases t with
    | cons _ _ => rw [er] at h2; cases h2
    | nil =>
      rw [er] at h2
      have h3 : (l.all fun x => decide (x.mark.length = 8) && decide (x.place.length = 24)) = true := h2
      have hl : ∀ x ∈ l, x.mark.length = 8 ∧ x.place.length = 24 := fun x hx => by
        have := List.all_eq_true.mp h3 x hx
        simpa using this
      have er' := er
      unfold Kp168Neutral.rdList at er'
      cases e with
      | nil => cases er'
      | cons v e =>
        unfold Kp168Neutral.rdNat at er'
        dsimp only at er'
        by_cases c : 0 ≤ v
        · rw [if_pos c] at er'
          have e4 : (if v.toNat ≤ e.length + 1 then Kp168Neutral.rdMany Kp168Neutral.rdKp168_Row v.toNat e else none) = some (l, []) := er'
          by_cases c2 : v.toNat ≤ e.length + 1
          · rw [if_pos c2] at e4
            obtain ⟨q, w, ql, qe, le⟩ := rd_rows _ _ _ e4 hl
            refine ⟨q, ⟨w, ?_⟩, ?_⟩
            · rw [ql, Int.toNat_of_nonneg c, le]
              simp
            · have hc : Kp168Neutral.callOf [[0, n], v :: e] = some { e := if l.length ≤ 256 then l else [], m := l.length, n := n.toNat } := by
                show ((Kp168Neutral.rdList Kp168Neutral.rdKp168_Row (v :: e)).bind fun c1 => if c1.2 = [] then some (({ e := if (c1.1).length ≤ 256 then c1.1 else [], m := (c1.1).length, n := n.toNat } : Kp168.Call)) else none) = _
                rw [er]
                rfl
              unfold PyKp168.pw_solve Kp168Neutral.f
              rw [hc]
              have qe' : l = q.map un := qe
              subst qe'
              exact answer_is w
          · rw [if_neg c2] at e4
            cases e4
        · rw [if_neg c] at er'
          cases er'
end Pf

namespace Pf
open PySem PySem.Spec PyProof.Rows L2
open PySem.W (Codec)
/-! ### Rules of my own -/
/-- // by a divisor that isn't 0, of either sign, below 2 ^ 9000 -/
theorem op_fdivB {X : Cx} : OpR X (binaryOp .FloorDiv) (rI (fun _ j => j ≠ 0 ∧ j.natAbs.log2 < 9000) fun i j => .int (i.fdiv j)) :=
  opI fun i j _ _ _ _ _ hc q => floordiv_int hc.1 q (.inl (PyProof.noPylong_of_log2 hc.2))
theorem truth_ints {prog : Program} {w : World} {A : Around} {ns : List Int} {vals : List Value} (ia : IntsAre vals ns) :
    TruthOf prog w A (fun i v => vals.toArray[i]? = some v) (fun i => (ns.map fun x => decide (x ≠ 0)).getD i false) := fun i v s Q E at_i want => by
  have got : vals[i]? = some v := by simpa using at_i
  obtain ⟨x, t, rfl, hx⟩ : ∃ x t, v = .int x t ∧ ns[i]? = some x := by
    clear want at_i
    induction ia generalizing i with
    | nil => simp at got
    | cons x t h ih =>
      cases i with
      | zero =>
        simp at got
        exact ⟨x, t, got.symm, rfl⟩
      | succ i => exact ih i (by simpa using got)
  have here : (ns.map fun x => decide (x ≠ 0)).getD i false = decide (x ≠ 0) := by
    rw [List.getD_eq_getElem?_getD, List.getElem?_map, hx]
    rfl
  have want2 : Q ((ns.map fun x => decide (x ≠ 0)).getD i false) s := want
  rw [here] at want2
  have same : (x != 0) = decide (x ≠ 0) := by
    by_cases c : x = 0 <;> simp [c]
  refine PyProof.Rows.truthy_int ?_
  rw [same]
  exact want2
/-- any(xs) of a list of whole numbers -/
def rAnyI (K : PySem.W.Frag) : List V → Hp → VK → Prop := fun vs H Q => ∃ (l : Addr) (ns : List Int), vs = [V.ref l] ∧ SqL K H l (ns.map V.int) ∧ Q (.bl (nz ns)) H
theorem cr_anyI {X : Cx} (calm : X.calm = true) : CallR X (.builtin "any") (rAnyI X.K) := by
  rintro pins s σ H vs us Q inv rel ⟨l, ns, rfl, sq, want⟩
  obtain ⟨vals, rv, isl, _⟩ := inv.list sq
  rw [Vals.ref1 rel]
  have ia := rv.ints
  refine call_any_walk (iter_any isl.isList fun s2 e2 st apart => ?_)
  subst e2
  refine ⟨_, _, _, _, _, _, _, rfl, Walks.list (A := X.A.in1) (inv.ok.hd calm) _ l apart vals.toArray, st, truth_ints ia, fun h2 tk kept => ?_⟩
  have stays : ∀ b o, s.heap.get? b = some o → h2.get? b = some o := fun b o eo => by
    refine kept b o (fun mem => ?_) (Heap.get?_push_of_some _ eo)
    have lt := Heap.lt_size eo
    rw [List.mem_singleton.mp mem] at lt
    exact Nat.lt_irrefl _ lt
  have len : vals.length = ns.length := ia.length
  have told : nz ns = (ns.map fun x => decide (x ≠ 0)).any id := by
    unfold nz
    rw [List.any_map]
    rfl
  refine ⟨V.bl (nz ns), H, inv.kept stays, ?_, want⟩
  show (Value.bool _ : Value) = Value.bool (nz ns)
  rw [told, ← L2.any_range, List.size_toArray, List.length_map, len]
theorem pe_num {X : Cx} {x : Str} {i : Int} {pos : Pos} (hg : Gl X x) (h : ∃ t, X.mg x = some (.int i t)) (hd : (x == ("__debug__" : Str)) = false := by decide) : PE X (.Name x pos) (tC (.int i)) := by
  obtain ⟨t, h⟩ := h
  exact pe_glob hg h ⟨t, rfl⟩ hd
/-- what the top has written: its numbers, and the built-ins that nobody has written over -/
structure Gx (mg : Str → Option Value) : Prop where
  nm : ∃ t, mg "MARKS" = some (.int 8 t)
  pl : ∃ t, mg "PLACES" = some (.int 24 t)
  wi : ∃ t, mg "WIDTH" = some (.int 32 t)
  ww : ∃ t, mg "WRITTEN_WIDTH" = some (.int 34 t)
  me : ∃ t, mg "MOST_EQUATIONS" = some (.int 256 t)
  mg' : ∃ t, mg "MOST_GIVEN" = some (.int 1048576 t)
  mr : ∃ t, mg "MOST_REACHED" = some (.int 1073741824 t)
  zrange : mg "range" = none
  zlen : mg "len" = none
  zmax : mg "max" = none
  zmin : mg "min" = none
  zany : mg "any" = none
  zzip : mg "zip" = none
  zenum : mg "enumerate" = none
  zabs : mg "abs" = none
theorem same_upd {H : Hp} {p : Addr} {o : HO} (h : H p = none) : Same H (upd H p o) := fun b x e => by
  rw [upd_ne (ne_of_none e h)]
  exact e
def ti (l : List Int) : List V := l.map V.int
/-! ### The text -/
def top (i : Nat) : Stmt := PySem.Challenge.pw_powerfill_s01_pw_solve.main.body.getD i (.Pass ⟨0, 0, 0, 0⟩)
abbrev sRead : Stmt := top 8
abbrev sWrite : Stmt := top 9
abbrev sBeyond : Stmt := top 10
abbrev sRefused : Stmt := top 11
abbrev sItself : Stmt := top 12
abbrev sFill : Stmt := top 13
abbrev sNear : Stmt := top 14
abbrev sOther : Stmt := top 15
abbrev sRed : Stmt := top 16
abbrev sRepl : Stmt := top 17
abbrev sReplF : Stmt := top 18
abbrev sSolve : Stmt := top 19
abbrev sAns : Stmt := top 20
section
variable {P : Program} {w : World} {K : PySem.W.Frag} {mg : Str → Option Value} {base : Heap}
/-! ### is_beyond -/
def spBeyond (K : PySem.W.Frag) : Sp := fun vs H Q _ => ∃ (a : Addr) (ns : List Int) (m : Int), vs = [.ref a, .int m] ∧ SqL K H a (ns.map V.int) ∧ 0 < ns.length ∧ Q (.bl (big m ns)) H
theorem scB : FnScope ["product", "most"] ["product", "most"] (defScope sBeyond) := ⟨rfl, rfl, rfl, by decide +kernel, rfl, by decide +kernel, by decide +kernel⟩
theorem big_max {ns : List Int} {m M N : Int} (h1 : M ∈ ns) (h2 : ∀ y ∈ ns, y ≤ M) (h3 : N ∈ ns) (h4 : ∀ y ∈ ns, N ≤ y) : big m ns = (decide (m < M) || decide (N < -m)) := by
  apply bool_eq
  unfold big
  rw [List.any_eq_false, Bool.or_eq_false_iff, decide_eq_false_iff_not, decide_eq_false_iff_not]
  constructor
  · intro h
    have a := h M h1
    have b := h N h3
    simp at a b
    omega
  · intro h x hx
    have a := h2 x hx
    have b := h4 x hx
    simp
    omega
theorem ok_beyond {f : Addr} {fd : FuncData} {k : Nat} (F : Fun K "is_beyond" "is_beyond" sBeyond f fd) (T : Gx mg) : FnOk P w K mg base CX0 (k + 1) f fd ["product", "most"] (spBeyond K) := by
  refine F.ok scB (fun vs H Q E h => ?_) (fun cdv A outer s H vs Q E hr h => ?_)
  · obtain ⟨a, ns, m, rfl, _⟩ := h
    rfl
  · obtain ⟨a, ns, m, rfl, hS, hlen, q⟩ := h
    refine ⟨_, pss_one (ps_ret (pe_or (pe_cmpR op_gt (pe_callB (cr_max rfl) (by rfl) T.zmax (by decide +kernel) (pa_cons (pv 0) pa_nil)) (pv 1) (nomark _))
      (pe_one (pe_cmpR op_lt (pe_callB (cr_min rfl) (by rfl) T.zmin (by decide +kernel) (pa_cons (pv 0) pa_nil)) (pe_un un_neg (pv 1)) (nomark _))))), ?_⟩
    refine ⟨.ref a, rfl, a, ns, rfl, hS, hlen, fun M h1 h2 => ⟨.int m, rfl, M, m, rfl, rfl, _, rfl, ?_⟩⟩
    obtain ⟨N, hN1, hN2⟩ : ∃ N, N ∈ ns ∧ ∀ y ∈ ns, N ≤ y := by
      clear q hS h1 h2
      induction ns with
      | nil => cases hlen
      | cons x r ih =>
        cases r with
        | nil => exact ⟨x, by simp, by simp⟩
        | cons z r =>
          obtain ⟨N, a1, a2⟩ := ih (by simp)
          by_cases c : x ≤ N
          · refine ⟨x, by simp, fun y hy => ?_⟩
            rcases List.mem_cons.mp hy with rfl | hy2
            · exact Int.le_refl _
            · exact Int.le_trans c (a2 y hy2)
          · refine ⟨N, List.mem_cons_of_mem _ a1, fun y hy => ?_⟩
            rcases List.mem_cons.mp hy with rfl | hy2
            · omega
            · exact a2 y hy2
    by_cases c : m < M
    · rw [decide_eq_true c]
      refine iteT ?_
      rw [big_max h1 h2 hN1 hN2, decide_eq_true c] at q
      exact q
    · rw [decide_eq_false c]
      refine iteF ?_
      refine ⟨.ref a, rfl, a, ns, rfl, hS, hlen, fun N' g1 g2 => ⟨.int m, rfl, m, rfl, N', -m, rfl, rfl, ?_⟩⟩
      rw [big_max h1 h2 g1 g2, decide_eq_false c, Bool.false_or] at q
      exact q
/-! ### place_itself -/
def spItself : Sp := fun vs H Q _ => ∃ (k : Nat), vs = [.int (k : Int)] ∧ k < 24 ∧ ∀ H' p, Same H H' → H p = none → H' p = some (.lst ((it k).map V.int)) → Q (.ref p) H'
theorem scI : FnScope ["place", "product"] ["place"] (defScope sItself) := ⟨rfl, rfl, rfl, by decide +kernel, rfl, by decide +kernel, by decide +kernel⟩
theorem ixN_nat {n j : Nat} (h : j < n) : ixN n (j : Int) = some j := by
  unfold ixN
  rw [if_pos (show (0 : Int) ≤ j by omega), if_pos (by omega)]
  simp
theorem ok_itself {f : Addr} {fd : FuncData} {k : Nat} (F : Fun K "place_itself" "place_itself" sItself f fd) (T : Gx mg) : FnOk P w K mg base CX0 (k + 1) f fd ["place"] spItself := by
  refine F.ok scI (fun vs H Q E h => ?_) (fun cdv A outer s H vs Q E hr h => ?_)
  · obtain ⟨k, rfl, _⟩ := h
    rfl
  · obtain ⟨k, rfl, hk, q⟩ := h
    refine ⟨_, pss_cons (ps_set (i := 1) scI.nd rfl (.inl rfl) (pe_op op_rep (pe_lst (pa_cons pe_int pa_nil)) (pe_num (by rfl) T.wi)))
      (pss_cons (ps_asg pe_int (pg_sub (pv 1) (pe_op op_add (pe_num (by rfl) T.nm) (pv 0)) set_list)) (pss_one (ps_ret (pv 1)))), ?_⟩
    refine ⟨by show 1 ≤ sizeLine; decide, fun z nz => ?_⟩
    refine ⟨z, 32, [.int 0], rfl, rfl, upd_same, by decide, by decide, by show 1 * 32 ≤ sizeLine; decide, fun p np => ?_⟩
    have s1 : Same H (upd H z (.lst [.int 0])) := same_upd nz
    have s2 := s1.trans (same_upd (o := .lst (List.replicate (32 : Int).toNat [V.int 0]).flatten) np)
    refine ⟨.ref p, rfl, .int (k : Int), rfl, 8, (k : Int), rfl, rfl, p, _, 8 + (k : Int), 8 + k, rfl, rfl, upd_same, ?_, ?_⟩
    · exact ixN_nat (n := 32) (j := 8 + k) (by omega)
    · refine ⟨.ref p, rfl, q _ p (fun b o e => ?_) (s1.free np) ?_⟩
      · rw [upd_ne (ne_of_none e (s1.free np))]
        exact s2 b o e
      · rw [upd_same]
        unfold it
        rw [List.map_set]
        rfl
end
end Pf

namespace Pf
open PySem PySem.Spec PyProof.Rows L2
section
variable {P : Program} {w : World} {K : PySem.W.Frag} {mg : Str → Option Value} {base : Heap}
theorem at32 {r : List Int} {m : Nat} (h : r.length = m) {z : Int} (j : Nat) (hz : z = (j : Int)) (hj : j < m) : atI (r.map V.int) z = some (.int (r.getD j 0)) := by
  subst hz
  refine atI_nat ?_
  rw [List.getElem?_map, List.getElem?_eq_getElem (by omega)]
  simp [List.getD_eq_getElem?_getD, List.getElem?_eq_getElem (show j < r.length by omega)]
/-! ### nearest_place -/
def optV : Option Nat → V
  | none => .non
  | some p => .int (p : Int)
def spNear (K : PySem.W.Frag) : Sp := fun vs H Q _ => ∃ (a : Addr) (r : List Int), vs = [.ref a] ∧ SqL K H a (r.map V.int) ∧ r.length = 32 ∧ Q (optV (near r)) H
theorem scN : FnScope ["r", "nearest", "q"] ["r"] (defScope sNear) := ⟨rfl, rfl, rfl, by decide +kernel, rfl, by decide +kernel, by decide +kernel⟩
def nearTo (r : List Int) (i : Nat) : Option Nat := (List.range i).foldl (fun b i => nearS r b (8 + i)) none
theorem nearTo_succ (r : List Int) (i : Nat) : nearTo r (i + 1) = nearS r (nearTo r i) (8 + i) := by
  unfold nearTo
  simp only [List.range_succ, List.foldl_append, List.foldl_cons, List.foldl_nil]
theorem nearS_0 {r : List Int} {b : Option Nat} {q : Nat} (h : r.getD q 0 = 0) : nearS r b q = b := by
  unfold nearS
  exact if_pos h
theorem nearS_n {r : List Int} {q : Nat} (h : r.getD q 0 ≠ 0) : nearS r none q = some q := by
  unfold nearS
  exact if_neg h
theorem nearS_y {r : List Int} {p q : Nat} (h : r.getD q 0 ≠ 0) (h2 : (r.getD q 0).natAbs < (r.getD p 0).natAbs) : nearS r (some p) q = some q := by
  unfold nearS
  rw [if_neg h]
  exact if_pos h2
theorem nearS_z {r : List Int} {p q : Nat} (h : r.getD q 0 ≠ 0) (h2 : ¬ (r.getD q 0).natAbs < (r.getD p 0).natAbs) : nearS r (some p) q = some p := by
  unfold nearS
  rw [if_neg h]
  exact if_neg h2
theorem nearTo_lt (r : List Int) : ∀ (i : Nat) (p : Nat), nearTo r i = some p → p < 8 + i
  | 0, p, h => by cases h
  | i + 1, p, h => by
    rw [nearTo_succ] at h
    unfold nearS at h
    have ih := nearTo_lt r i
    split at h
    · have := ih p h
      omega
    · split at h
      · cases h
        omega
      · rename_i p0 e
        split at h
        · cases h
          omega
        · cases h
          have := ih p e
          omega
theorem abs_eq (x : Int) : (if x < 0 then -x else x) = (x.natAbs : Int) := by
  split <;> omega
theorem ok_near {f : Addr} {fd : FuncData} {k : Nat} (F : Fun K "nearest_place" "nearest_place" sNear f fd) (T : Gx mg) : FnOk P w K mg base CX0 (k + 1) f fd ["r"] (spNear K) := by
  refine F.ok scN (fun vs H Q E h => ?_) (fun cdv A outer s H vs Q E hr h => ?_)
  · obtain ⟨a, r, rfl, _⟩ := h
    rfl
  · obtain ⟨a, r, rfl, hS, hl, q⟩ := h
    refine ⟨_, pss_cons (ps_set (i := 1) scN.nd rfl (.inl rfl) pe_non)
      (pss_cons (ps_for PassesOwn.never rfl (pi_range2 (by rfl) T.zrange (pa_cons (pe_num (by rfl) T.nm) (pa_cons (pe_num (by rfl) T.wi) pa_nil))) (pg_name (i := 2) scN.nd rfl (.inl rfl))
        (pss_one (ps_if (PW.pt (pw_and (pt_cmpR op_ne (pe_ix ix_list (pv 0) (pv 2) (fun _ _ => rfl)) pe_int (nomark _))
          (pw_and1 (PW.pt (pw_or (pt_cmpR op_isN (pv 1) pe_non (nomark _))
            (pw_or1 (pt_cmpR op_lt (pe_callB call_abs (by rfl) T.zabs (by decide +kernel) (pa_cons (pe_ix ix_list (pv 0) (pv 2) (fun _ _ => rfl)) pa_nil))
              (pe_callB call_abs (by rfl) T.zabs (by decide +kernel) (pa_cons (pe_ix ix_list (pv 0) (pv 1) (fun _ _ => rfl)) pa_nil)) (nomark _))))))))
          (pss_one (ps_set (i := 1) scN.nd rfl (.inl rfl) (pv 2))) pss_nil)))
      (pss_one (ps_ret (pv 1)))), ?_⟩
    refine ⟨8, 32, rfl, ⟨by decide, by decide, by decide, by decide⟩, for_range (lo := 8) (n := 24) (fun i σ H' => H' = H ∧ ∃ v, σ = [some (.ref a), some (optV (nearTo r i)), v]) ⟨rfl, none, rfl⟩ ?_ ?_⟩
    · rintro i σ H' hi ⟨rfl, v, rfl⟩
      have hg := at32 hl (z := 8 + (i : Int)) (8 + i) (by omega) (by omega)
      refine ⟨.ref a, rfl, .int (8 + (i : Int)), rfl, a, _, _, _, rfl, rfl, hS, hg, rfl, _, rfl, ?_⟩
      by_cases c : r.getD (8 + i) 0 = 0
      · rw [c]
        refine iteF ?_
        refine iteF ?_
        refine ⟨rfl, some (.int (8 + (i : Int))), ?_⟩
        rw [nearTo_succ, nearS_0 c]
        rfl
      · rw [show decide (V.int (r.getD (8 + i) 0) = V.int 0) = false from decide_eq_false fun z => c (V.int.inj z)]
        refine iteT ?_
        refine ⟨_, rfl, rfl, _, rfl, ?_⟩
        cases e : nearTo r i with
        | none =>
          refine iteT ?_
          refine iteT ?_
          refine ⟨_, rfl, rfl, some (.int (8 + (i : Int))), ?_⟩
          rw [nearTo_succ, e, nearS_n c]
          rfl
        | some p =>
          have hp := nearTo_lt r i p e
          have hg2 := at32 hl (z := (p : Int)) p rfl (by omega)
          refine iteF ?_
          refine ⟨.ref a, rfl, .int (8 + (i : Int)), rfl, a, _, _, _, rfl, rfl, hS, hg, _, rfl, .ref a, rfl, .int (p : Int), rfl, a, _, _, _, rfl, rfl, hS, hg2, _, rfl, _, _, rfl, rfl, _, rfl, ?_⟩
          rw [abs_eq, abs_eq]
          by_cases c2 : (r.getD (8 + i) 0).natAbs < (r.getD p 0).natAbs
          · rw [decide_eq_true (by omega)]
            refine iteT ?_
            refine ⟨_, rfl, rfl, some (.int (8 + (i : Int))), ?_⟩
            rw [nearTo_succ, e, nearS_y c c2]
            rfl
          · rw [decide_eq_false (by omega)]
            refine iteF ?_
            refine ⟨rfl, some (.int (8 + (i : Int))), ?_⟩
            rw [nearTo_succ, e, nearS_z c c2]
            rfl
    · rintro σ H' ⟨rfl, v, rfl⟩
      exact ⟨_, rfl, q⟩
/-! ### has_other_place -/
def spOther (K : PySem.W.Frag) : Sp := fun vs H Q _ => ∃ (a : Addr) (r : List Int) (p : Nat), vs = [.ref a, .int (p : Int)] ∧ SqL K H a (r.map V.int) ∧ r.length = 32 ∧ ∀ H', Same H H' → Q (.bl (other r p)) H'
theorem scO : FnScope ["r", "p", "q"] ["r", "p"] (defScope sOther) := ⟨rfl, rfl, rfl, by decide +kernel, rfl, by decide +kernel, by decide +kernel⟩
def othTo (r : List Int) (p i : Nat) : List Bool := ((List.range i).filter fun j => decide (8 + j ≠ p)).map fun j => decide (r.getD (8 + j) 0 ≠ 0)
theorem othTo_len (r : List Int) (p i : Nat) : (othTo r p i).length ≤ i := by
  unfold othTo
  rw [List.length_map]
  exact Nat.le_trans (List.length_filter_le _ _) (by simp)
theorem othTo_any (r : List Int) (p : Nat) : (othTo r p 24).any id = other r p := by
  unfold othTo other
  rw [List.any_map, List.any_filter]
  rfl
theorem othTo_y {r : List Int} {p i : Nat} (h : 8 + i ≠ p) : othTo r p (i + 1) = othTo r p i ++ [decide (r.getD (8 + i) 0 ≠ 0)] := by
  unfold othTo
  rw [List.range_succ, List.filter_append, List.map_append]
  simp [h]
theorem othTo_n {r : List Int} {p i : Nat} (h : 8 + i = p) : othTo r p (i + 1) = othTo r p i := by
  unfold othTo
  rw [List.range_succ, List.filter_append, List.map_append]
  simp [h]
theorem ok_other {f : Addr} {fd : FuncData} {k : Nat} (F : Fun K "has_other_place" "has_other_place" sOther f fd) (T : Gx mg) : FnOk P w K mg base CX0 (k + 1) f fd ["r", "p"] (spOther K) := by
  refine F.ok scO (fun vs H Q E h => ?_) (fun cdv A outer s H vs Q E hr h => ?_)
  · obtain ⟨a, r, p, rfl, _⟩ := h
    rfl
  · obtain ⟨a, r, p, rfl, hS, hl, q⟩ := h
    refine ⟨_, pss_one (ps_ret (pe_callB (cr_any rfl) (by rfl) T.zany (by decide +kernel) (pa_cons
      (pe_lc (own := [("q", 2)]) (g := gName 2) (by rfl) scO.nd (pi_range2 (by rfl) T.zrange (pa_cons (pe_num (by rfl) T.nm) (pa_cons (pe_num (by rfl) T.wi) pa_nil)))
        (blkOk_by (own := [("q", 2)]) (N := ["r", "p", "q"]) (sc := defScope sOther) (by decide +kernel))
        (fun _ _ _ _ _ => pg_name (i := 2) scO.nd rfl (Or.inl rfl)) (fun _ _ _ _ _ => pts_one (pt_cmpR op_ne (pv 2) (pv 1) (nomark _)))
        (fun _ _ _ _ _ => pe_cmpR op_ne (pe_ix (r := rIxL K) ix_list (pv 0) (pv 2) (fun _ _ => rfl)) pe_int (nomark _))) pa_nil))), ?_⟩
    refine ⟨8, 32, rfl, ⟨by decide, by decide, by decide, by decide⟩, fun D nD => lc_range (lo := 8) (n := 24) (fun i H' => Same H H' ∧ H' D = some (.lst ((othTo r p i).map V.bl))) ⟨same_upd nD, upd_same⟩ ?_ ?_⟩
    · rintro i H' hi ⟨s1, hD⟩
      have hg := at32 hl (z := 8 + (i : Int)) (8 + i) (by omega) (by omega)
      refine ⟨rfl, .int (8 + (i : Int)), rfl, .int (p : Int), rfl, rfl, _, rfl, ?_⟩
      by_cases c : 8 + i = p
      · rw [show decide (V.int (8 + (i : Int)) = V.int (p : Int)) = true from decide_eq_true (by rw [← c]; rfl)]
        refine iteF ⟨s1, ?_⟩
        rw [othTo_n c]
        exact hD
      · rw [show decide (V.int (8 + (i : Int)) = V.int (p : Int)) = false from decide_eq_false fun z => by have := V.int.inj z; omega]
        refine iteT ?_
        refine ⟨.ref a, rfl, .int (8 + (i : Int)), rfl, a, _, _, _, rfl, rfl, s1.seq hS, hg, rfl, _, hD, ?_, ?_, ?_⟩
        · rw [List.length_map]
          exact Nat.lt_of_le_of_lt (othTo_len r p i) (small1000 (by omega))
        · intro b o e
          rw [upd_ne (ne_of_none e nD)]
          exact s1 b o e
        · rw [upd_same, othTo_y c, List.map_append]
          simp
    · rintro H' ⟨s1, hD⟩
      refine ⟨D, othTo r p 24, rfl, .inl (.inl hD), ?_⟩
      rw [othTo_any]
      exact q H' s1
end
end Pf

namespace Pf
open PySem PySem.Spec PyProof.Rows L2
theorem take_snoc {α : Type} {l : List α} {i : Nat} {x : α} (h : l[i]? = some x) : l.take (i + 1) = l.take i ++ [x] := by
  rw [List.take_add_one, h]
  rfl
theorem get32 {r : List Int} {m : Nat} (h : r.length = m) {j : Nat} (hj : j < m) : r[j]? = some (r.getD j 0) := by
  rw [List.getElem?_eq_getElem (by omega)]
  simp [List.getD_eq_getElem?_getD, List.getElem?_eq_getElem (show j < r.length by omega)]
theorem getV {r : List Int} {j : Nat} {v : V} (h : (r.map V.int)[j]? = some v) : v = .int (r.getD j 0) ∧ j < r.length := by
  rw [List.getElem?_map] at h
  by_cases c : j < r.length
  · rw [get32 rfl c] at h
    exact ⟨(Option.some.inj h).symm, c⟩
  · rw [List.getElem?_eq_none (by omega)] at h
    cases h
theorem yes {σ : L2.St} {H : Hp} {A B : Hp → Prop} (h : A H) : tYes σ H (fun b H3 => if b = true then A H3 else B H3) := by
  show if true = true then A H else B H
  rw [if_pos rfl]
  exact h
theorem small_len {n : Nat} (h : n ≤ 1000) : n ≤ sizeLine := Nat.le_of_lt (small1000 h)
section
variable {P : Program} {w : World} {K : PySem.W.Frag} {mg : Str → Option Value} {base : Heap}
/-! ### reducing_product -/
def Fits (z : Int) : Prop := -1073741824 ≤ z ∧ z ≤ 1073741824
theorem Fits.log {z : Int} (h : Fits z) : z.natAbs.log2 < 9000 := by
  have h1 : z.natAbs < 2 ^ 31 := by
    have := h.1
    have := h.2
    omega
  exact Nat.lt_of_lt_of_le (PySem.Flt.log2_lt_of (by decide) h1) (by decide)
theorem Fits.mul {z y : Int} (h : Fits z) : CMul z y := .inl ⟨by have := h.1; omega, by have := h.2; omega⟩
def spRed (K : PySem.W.Frag) : Sp := fun vs H Q _ => ∃ (a : Addr) (r : List Int) (p : Nat), vs = [.ref a, .int (p : Int)] ∧ SqL K H a (r.map V.int) ∧ r.length = 32 ∧ p < 32 ∧ r.getD p 0 ≠ 0 ∧ Fits (r.getD p 0) ∧
  ∀ H' q, Same H H' → H q = none → H' q = some (.lst ((red r p).map V.int)) → Q (.ref q) H'
theorem scR : FnScope ["r", "p", "a", "reducing", "x"] ["r", "p"] (defScope sRed) := ⟨rfl, rfl, rfl, by decide +kernel, rfl, by decide +kernel, by decide +kernel⟩
theorem ok_red {f : Addr} {fd : FuncData} {k : Nat} (F : Fun K "reducing_product" "reducing_product" sRed f fd) (T : Gx mg) : FnOk P w K mg base CX0 (k + 1) f fd ["r", "p"] (spRed K) := by
  refine F.ok scR (fun vs H Q E h => ?_) (fun cdv A outer s H vs Q E hr h => ?_)
  · obtain ⟨a, r, p, rfl, _⟩ := h
    rfl
  · obtain ⟨a, r, p, rfl, hS, hl, hp, h0, hf, q⟩ := h
    refine ⟨_, pss_cons (ps_set (i := 2) scR.nd rfl (.inr rfl) (pe_ix ix_list (pv 0) (pv 1) (fun _ _ => rfl)))
      (pss_cons (ps_setLc (i := 3) (own := [("x", 4)]) (g := gName 4) (by rfl) scR.nd rfl rfl (sw_true rfl rfl rfl (by decide +kernel)) (pi_list (pv 0))
        (blkOk_by (own := [("x", 4)]) (N := ["r", "p", "a", "reducing", "x"]) (sc := defScope sRed) (by decide +kernel))
        (fun _ _ _ _ _ => pg_name (i := 4) scR.nd rfl (Or.inl rfl)) (fun _ _ _ _ _ => pts_nil)
        (fun _ _ _ _ _ => pe_un un_neg (pe_op op_fdivB (pv 4) (pv 2))))
      (pss_cons (ps_asg pe_int (pg_sub (pv 3) (pv 1) set_list)) (pss_one (ps_ret (pv 3))))), ?_⟩
    refine ⟨.ref a, rfl, .int (p : Int), rfl, a, _, _, _, rfl, rfl, hS, at32 hl (z := (p : Int)) p rfl hp, ?_⟩
    refine ⟨.ref a, rfl, a, rfl, ⟨_, hS⟩, fun D nD => lc_list (K := K) (a := a) (xs := r.map V.int) (fun i H' => Same H H' ∧ H' D = some (.lst (((r.map fun x => -(x.fdiv (r.getD p 0))).take i).map V.int))) ⟨same_upd nD, upd_same⟩ (fun i H' _ z => z.1.seq hS) ?_ ?_⟩
    · rintro i v H' hv ⟨s1, hD⟩
      obtain ⟨rfl, hi⟩ := getV hv
      refine ⟨rfl, yes ?_⟩
      refine ⟨.int (r.getD i 0), rfl, .int (r.getD p 0), rfl, r.getD i 0, r.getD p 0, rfl, rfl, ⟨h0, hf.log⟩, _, rfl, _, hD, ?_, ?_, ?_⟩
      · rw [List.length_map, List.length_take, List.length_map]
        exact small1000 (by omega)
      · intro b o e
        rw [upd_ne (ne_of_none e nD)]
        exact s1 b o e
      · have e1 : (r.map fun x => -(x.fdiv (r.getD p 0)))[i]? = some (-((r.getD i 0).fdiv (r.getD p 0))) := by
          rw [List.getElem?_map, get32 rfl hi]
          rfl
        rw [upd_same, take_snoc e1, List.map_append]
        rfl
    · rintro H' ⟨s1, hD⟩
      rw [List.length_map, List.take_of_length_le (by simp)] at hD
      refine ⟨.ref D, rfl, .int (p : Int), rfl, D, _, _, p, rfl, rfl, hD, ixN_nat (by simp [hl]; exact hp), .ref D, rfl, q _ D (fun b o e => ?_) nD ?_⟩
      · rw [upd_ne (ne_of_none e nD)]
        exact s1 b o e
      · rw [upd_same]
        unfold red
        rw [List.map_set]
/-! ### replace_place -/
def spRepl (K : PySem.W.Frag) : Sp := fun vs H Q _ => ∃ (a o : Addr) (x y : List Int) (p : Nat), vs = [.ref a, .int (p : Int), .ref o] ∧ SqL K H a (x.map V.int) ∧ SqL K H o (y.map V.int) ∧ x.length = 32 ∧ y.length = 32 ∧ p < 32 ∧ Fits (x.getD p 0) ∧
  ∀ H' q, Same H H' → H q = none → H' q = some (.lst ((repl p y x).map V.int)) → Q (.ref q) H'
theorem scP : FnScope ["product", "p", "other", "power", "replaced", "x", "y"] ["product", "p", "other"] (defScope sRepl) := ⟨rfl, rfl, rfl, by decide +kernel, rfl, by decide +kernel, by decide +kernel⟩
theorem comb_at {k : Int} {x y : List Int} {m i : Nat} (hx : x.length = m) (hy : y.length = m) (hi : i < m) : (comb k x y)[i]? = some (x.getD i 0 + k * y.getD i 0) := by
  rw [get32 (comb_len hx hy) hi, comb_get hx hy]
theorem ok_repl {f : Addr} {fd : FuncData} {k : Nat} (F : Fun K "replace_place" "replace_place" sRepl f fd) (T : Gx mg) : FnOk P w K mg base CX0 (k + 1) f fd ["product", "p", "other"] (spRepl K) := by
  refine F.ok scP (fun vs H Q E h => ?_) (fun cdv A outer s H vs Q E hr h => ?_)
  · obtain ⟨a, o, x, y, p, rfl, _⟩ := h
    rfl
  · obtain ⟨a, o, x, y, p, rfl, hA, hO, hx, hy, hp, hf, q⟩ := h
    refine ⟨_, pss_cons (ps_set (i := 3) scP.nd rfl (.inr rfl) (pe_ix ix_list (pv 0) (pv 1) (fun _ _ => rfl)))
      (pss_cons (ps_setLc (i := 4) (own := [("x", 5), ("y", 6)]) (g := gTup K 2 (gCons (gName 5) (gCons (gName 6) gNil))) (by rfl) scP.nd rfl rfl (sw_true rfl rfl rfl (by decide +kernel)) (pi_zip (by rfl) T.zzip (pa_cons (pv 0) (pa_cons (pv 2) pa_nil)))
        (blkOk_by (own := [("x", 5), ("y", 6)]) (N := ["product", "p", "other", "power", "replaced", "x", "y"]) (sc := defScope sRepl) (by decide +kernel))
        (fun _ _ _ _ _ => pg_tup rfl (pgs_cons (pg_name (i := 5) scP.nd rfl (Or.inl rfl)) (pgs_cons (pg_name (i := 6) scP.nd rfl (Or.inl rfl)) pgs_nil))) (fun _ _ _ _ _ => pts_nil)
        (fun _ _ _ _ _ => pe_op op_add (pv 5) (pe_op op_mul (pv 3) (pv 6))))
      (pss_cons (ps_asg (pe_op op_mul (pv 3) (pe_ix ix_list (pv 2) (pv 1) (fun _ _ => rfl))) (pg_sub (pv 4) (pv 1) set_list)) (pss_one (ps_ret (pv 4))))), ?_⟩
    refine ⟨.ref a, rfl, .int (p : Int), rfl, a, _, _, _, rfl, rfl, hA, at32 hx (z := (p : Int)) p rfl hp, ?_⟩
    refine ⟨.ref a, rfl, .ref o, rfl, a, o, _, _, rfl, hA, hO, fun D nD => lc_it (walk_zip (K := K) (a := a) (b := o) (xs := x.map V.int) (ys := y.map V.int) (n := 32) (by simp [hx, hy]))
      (fun i H' => Same H H' ∧ H' D = some (.lst (((comb (x.getD p 0) x y).take i).map V.int))) ⟨same_upd nD, upd_same⟩ (fun i H' _ z => ⟨z.1.seq hA, z.1.seq hO⟩) ?_ ?_⟩
    · rintro i v H1 H2 hi ⟨s1, hD⟩ ⟨t, u1, u2, rfl, nt, rfl, g1, g2⟩
      obtain ⟨rfl, _⟩ := getV g1
      obtain ⟨rfl, _⟩ := getV g2
      refine ⟨t, [_, _], rfl, .inl (.inl upd_same), rfl, _, [_], rfl, _, [], rfl, rfl, rfl, yes ?_⟩
      refine ⟨.int (x.getD i 0), rfl, .int (x.getD p 0), rfl, .int (y.getD i 0), rfl, _, _, rfl, rfl, hf.mul, _, _, rfl, rfl, ((comb (x.getD p 0) x y).take i).map V.int, ?_, ?_, ?_, ?_⟩
      · rw [upd_ne (ne_of_none hD nt)]
        exact hD
      · rw [List.length_map, List.length_take]
        exact small1000 (by omega)
      · intro b z e
        rw [upd_ne (ne_of_none e nD), upd_ne (ne_of_none (s1 b z e) nt)]
        exact s1 b z e
      · rw [upd_same, take_snoc (comb_at hx hy hi), List.map_append]
        rfl
    · rintro H1 ⟨s1, hD⟩
      have hcl := comb_len (k := x.getD p 0) hx hy
      rw [List.take_of_length_le (by omega)] at hD
      refine ⟨.int (x.getD p 0), rfl, .ref o, rfl, .int (p : Int), rfl, o, _, _, _, rfl, rfl, s1.seq hO, at32 hy (z := (p : Int)) p rfl hp, _, _, rfl, rfl, hf.mul, ?_⟩
      refine ⟨.ref D, rfl, .int (p : Int), rfl, D, _, _, p, rfl, rfl, hD, ixN_nat (by rw [List.length_map, hcl]; exact hp), .ref D, rfl, q _ D (fun b z e => ?_) nD ?_⟩
      · rw [upd_ne (ne_of_none e nD)]
        exact s1 b z e
      · rw [upd_same]
        unfold repl
        rw [List.map_set]
/-! ### The filling in the heap -/
def RowsAt (H : Hp) (f : Addr) (F : List (List Int)) : Prop := ∃ as : List Addr, H f = some (.lst (as.map V.ref)) ∧ as.length = F.length ∧ ∀ (i : Nat) (a : Addr) (g : List Int), as[i]? = some a → F[i]? = some g → H a = some (.lst (g.map V.int))
def Keep (f : Addr) (H H' : Hp) : Prop := ∀ b x, H b = some x → b ≠ f → H' b = some x
theorem ref_ne_int {as : List Addr} {g : List Int} (h : g.length = 32) : (HO.lst (as.map V.ref)) ≠ .lst (g.map V.int) := by
  intro z
  have z := HO.lst.inj z
  cases g with
  | nil => simp at h
  | cons x g =>
    cases as with
    | nil => simp at z
    | cons a as =>
      simp at z
theorem RowsAt.same {H H' : Hp} {f : Addr} {F : List (List Int)} (h : RowsAt H f F) (s : Same H H') : RowsAt H' f F := by
  obtain ⟨as, h1, h2, h3⟩ := h
  exact ⟨as, s _ _ h1, h2, fun i a g e1 e2 => s _ _ (h3 i a g e1 e2)⟩
def spReplF : Sp := fun vs H Q _ => ∃ (f o : Addr) (F : List (List Int)) (y : List Int) (p : Nat), vs = [.ref f, .int (p : Int), .ref o] ∧ RowsAt H f F ∧ H o = some (.lst (y.map V.int)) ∧ W32 F ∧ F.length ≤ 24 ∧ y.length = 32 ∧ p < 32 ∧ (∀ g ∈ F, Fits (g.getD p 0)) ∧
  ∀ H', Keep f H H' → RowsAt H' f (F.map (repl p y)) → Q .non H'
theorem scF : FnScope ["filling", "p", "other", "place"] ["filling", "p", "other"] (defScope sReplF) := ⟨rfl, rfl, rfl, by decide +kernel, rfl, by decide +kernel, by decide +kernel⟩
def part (F : List (List Int)) (y : List Int) (p i : Nat) : List (List Int) := (F.take i).map (repl p y) ++ F.drop i
theorem part_len {F : List (List Int)} {y : List Int} {p i : Nat} : (part F y p i).length = F.length := by
  unfold part
  rw [List.length_append, List.length_map, List.length_take, List.length_drop]
  omega
theorem part_here {F : List (List Int)} {y : List Int} {p i : Nat} {g : List Int} (h : F[i]? = some g) : (part F y p i)[i]? = some g := by
  have hi := (List.getElem?_eq_some_iff.mp h).1
  unfold part
  rw [List.getElem?_append_right (by rw [List.length_map, List.length_take]; omega), List.length_map, List.length_take, List.getElem?_drop, show i + (i - min i F.length) = i by omega]
  exact h
theorem part_next {F : List (List Int)} {y : List Int} {p i : Nat} {g : List Int} (h : F[i]? = some g) : part F y p (i + 1) = (part F y p i).set i (repl p y g) := by
  have hi := (List.getElem?_eq_some_iff.mp h).1
  unfold part
  rw [take_snoc h, List.map_append, List.append_assoc, List.set_append_right _ _ (by rw [List.length_map, List.length_take]; omega), List.length_map, List.length_take, show i - min i F.length = 0 by omega]
  have e : F.drop i = g :: F.drop (i + 1) := by
    rw [List.drop_eq_getElem_cons hi, (List.getElem?_eq_some_iff.mp h).2]
  rw [e]
  rfl
theorem ok_replF {f fP : Addr} {fd fdP : FuncData} {k : Nat} (F : Fun K "replace_in_filling" "replace_in_filling" sReplF f fd) (T : Gx mg)
    (GP : FnOk P w K mg base CX0 k fP fdP ["product", "p", "other"] (spRepl K)) (kP : PySem.W.keepIn K (.ref fP) = true) (bP : Binds K fdP ["product", "p", "other"] []) (gP : mg "replace_place" = some (.ref fP)) :
    FnOk P w K mg base CX0 (k + 1) f fd ["filling", "p", "other"] spReplF := by
  refine F.ok scF (fun vs H Q E h => ?_) (fun cdv A outer s H vs Q E hr h => ?_)
  · obtain ⟨f, o, F, y, p, rfl, _⟩ := h
    rfl
  · obtain ⟨f, o, F, y, p, rfl, hF, hO, w32, hn, hy, hp, hf, q⟩ := h
    refine ⟨_, pss_one (ps_for PassesOwn.never rfl (pi_range1 (by rfl) T.zrange (pa_cons (pe_callB call_len_seq (by rfl) T.zlen PySem.boot_len (pa_cons (pv 0) pa_nil)) pa_nil)) (pg_name (i := 3) scF.nd rfl (.inl rfl))
      (pss_one (ps_asg (pe_call GP hr (by rfl) gP kP bP .nil pass0 (pa_cons (pe_ix ix_list (pv 0) (pv 3) (fun _ _ => rfl)) (pa_cons (pv 1) (pa_cons (pv 2) pa_nil))))
        (pg_sub (pv 0) (pv 3) set_list)))), ?_⟩
    have hO2 : o ≠ f := by
      obtain ⟨as, h1, _⟩ := hF
      exact fun z => ne_of h1 hO (ref_ne_int hy) z.symm
    obtain ⟨as0, h1, h2, h3⟩ := hF
    have hlen : ((as0.map V.ref).length : Int).toNat = F.length := by simp [h2]
    refine ⟨.ref f, rfl, f, _, rfl, .inl (.inl (.inl h1)), _, rfl, by rw [List.length_map]; omega, by rw [List.length_map]; omega, for_range (lo := 0) (n := ((as0.map V.ref).length : Int).toNat)
      (fun i σ H' => (∃ v, σ = [some (.ref f), some (.int (p : Int)), some (.ref o), v]) ∧ Keep f H H' ∧ RowsAt H' f (part F y p i)) ⟨⟨none, rfl⟩, fun b x e _ => e, as0, h1, by rw [part_len]; exact h2, fun i a g e1 e2 => h3 i a g e1 (by
        have e : part F y p 0 = F := by simp [part]
        rw [e] at e2
        exact e2)⟩ ?_ ?_⟩
    · rintro i σ H' hi ⟨⟨v, rfl⟩, kp, as, g1, g2, g3⟩
      rw [hlen] at hi
      rw [part_len] at g2
      obtain ⟨g, hg⟩ : ∃ g, F[i]? = some g := ⟨_, List.getElem?_eq_getElem hi⟩
      obtain ⟨a, ha⟩ : ∃ a, as[i]? = some a := ⟨_, List.getElem?_eq_getElem (by omega)⟩
      have hgm : g ∈ F := List.mem_of_getElem? hg
      have ea := g3 i a g ha (part_here hg)
      have ix : atI (as.map V.ref) (0 + (i : Int)) = some (.ref a) := by
        rw [Int.zero_add]
        refine atI_nat ?_
        rw [List.getElem?_map, ha]
        rfl
      refine ⟨.ref f, rfl, .int (0 + (i : Int)), rfl, f, _, _, _, rfl, rfl, .inl (.inl g1), ix, .int (p : Int), rfl, .ref o, rfl, ?_⟩
      refine ⟨a, o, g, y, p, rfl, .inl (.inl ea), .inl (.inl (kp _ _ hO hO2)), w32 g hgm, hy, hp, hf g hgm, fun H2 b sm nb eb => ?_⟩
      have ei : ixN (as.map V.ref).length (0 + (i : Int)) = some i := by
        rw [Int.zero_add]
        exact ixN_nat (by rw [List.length_map]; omega)
      refine ⟨.ref f, rfl, .int (0 + (i : Int)), rfl, f, _, _, i, rfl, rfl, sm _ _ g1, ei, ?_⟩
      have nbf : b ≠ f := fun z => by
        rw [z, g1] at nb
        cases nb
      refine ⟨⟨_, rfl⟩, fun c x e hc => ?_, as.set i b, ?_, ?_, fun j c u e1 e2 => ?_⟩
      · rw [upd_ne hc]
        exact sm _ _ (kp c x e hc)
      · rw [upd_same, List.map_set]
      · rw [List.length_set, part_len]
        exact g2
      · rw [part_next hg] at e2
        rw [List.getElem?_set] at e1 e2
        by_cases c1 : i = j
        · subst c1
          rw [if_pos rfl, if_pos (by omega)] at e1
          rw [if_pos rfl, if_pos (by rw [part_len]; omega)] at e2
          cases e1
          cases e2
          rw [upd_ne nbf]
          exact eb
        · rw [if_neg c1] at e1 e2
          have e3 := g3 j c u e1 e2
          have lu : u.length = 32 := by
            have hu := List.mem_of_getElem? e2
            unfold part at hu
            rcases List.mem_append.mp hu with hu2 | hu2
            · obtain ⟨t, ht, rfl⟩ := List.mem_map.mp hu2
              exact repl_len (w32 t (List.mem_of_mem_take ht)) hy
            · exact w32 u (List.mem_of_mem_drop hu2)
          have ncf : c ≠ f := fun z => ne_of g1 e3 (ref_ne_int lu) z.symm
          rw [upd_ne ncf]
          exact sm _ _ e3
    · rintro σ H' ⟨⟨v, rfl⟩, kp, hR⟩
      rw [hlen] at hR
      have e : part F y p F.length = F.map (repl p y) := by simp [part]
      rw [e] at hR
      exact q H' kp hR
end
end Pf

namespace Pf
open PySem PySem.Spec PyProof.Rows L2
theorem cut_ab {l : List Int} {x y : Int} (a b : Nat) (hx : x = (a : Int)) (hy : y = (b : Int)) (h : a ≤ b) : cutV (l.map V.int) (some x) (some y) = ((l.drop a).take (b - a)).map V.int := by
  subst hx hy
  unfold cutV
  rw [HT.sIx_nat, HT.sIx_nat, List.length_map, ← List.map_drop, ← List.map_take]
  congr 1
  by_cases c : a ≤ l.length
  · rw [Nat.min_eq_left c]
    by_cases c2 : b ≤ l.length
    · rw [Nat.min_eq_left c2]
    · rw [Nat.min_eq_right (by omega), List.take_of_length_le (by rw [List.length_drop]; omega), List.take_of_length_le (by rw [List.length_drop]; omega)]
  · rw [List.drop_of_length_le (by omega), List.drop_of_length_le (by omega)]
    simp
theorem cut_0b {l : List Int} {y : Int} (b : Nat) (hy : y = (b : Int)) : cutV (l.map V.int) none (some y) = (l.take b).map V.int := by
  subst hy
  unfold cutV
  rw [HT.sIx_nat, HT.sIx_none, List.length_map, List.drop_zero, Nat.sub_zero, ← List.map_take]
  congr 1
  by_cases c2 : b ≤ l.length
  · rw [Nat.min_eq_left c2]
  · rw [Nat.min_eq_right (by omega), List.take_of_length_le (by omega), List.take_of_length_le (by omega)]
theorem cut_a {l : List Int} {x : Int} (a : Nat) (hx : x = (a : Int)) : cutV (l.map V.int) (some x) none = (l.drop a).map V.int := by
  subst hx
  unfold cutV
  rw [HT.sIx_nat, HT.sIx_none, List.length_map, ← List.map_drop, ← List.map_take]
  congr 1
  by_cases c : a ≤ l.length
  · rw [Nat.min_eq_left c, List.take_of_length_le (by rw [List.length_drop]; omega)]
  · rw [List.drop_of_length_le (by omega), List.drop_of_length_le (by omega)]
    simp
theorem rows_push {H : Hp} {d b : Addr} {as : List Addr} {F : List (List Int)} {g : List Int} (h1 : H d = some (.lst (as.map V.ref))) (h2 : as.length = F.length)
    (h3 : ∀ (i : Nat) (a : Addr) (g : List Int), as[i]? = some a → F[i]? = some g → H a = some (.lst (g.map V.int))) (w : W32 F) (hb : H b = some (.lst (g.map V.int))) (hg : g.length = 32) :
    RowsAt (upd H d (.lst (as.map V.ref ++ [.ref b]))) d (F ++ [g]) := by
  have out : ∀ (a : Addr) (u : List Int), u.length = 32 → H a = some (.lst (u.map V.int)) → upd H d (.lst (as.map V.ref ++ [.ref b])) a = some (.lst (u.map V.int)) := fun a u hu e => by
    rw [upd_ne fun z => ne_of h1 e (ref_ne_int hu) z.symm]
    exact e
  refine ⟨as ++ [b], ?_, by simp [h2], fun i a u e1 e2 => ?_⟩
  · rw [upd_same, List.map_append]
    rfl
  · by_cases c : i < as.length
    · rw [List.getElem?_append_left c] at e1
      rw [List.getElem?_append_left (by omega)] at e2
      exact out a u (w u (List.mem_of_getElem? e2)) (h3 i a u e1 e2)
    · rw [List.getElem?_append_right (by omega)] at e1
      rw [List.getElem?_append_right (by omega), ← h2] at e2
      cases z : i - as.length with
      | zero =>
        rw [z] at e1 e2
        cases e1
        cases e2
        exact out b g hg hb
      | succ m =>
        rw [z] at e1
        cases e1
section
variable {P : Program} {w : World} {K : PySem.W.Frag} {mg : Str → Option Value} {base : Heap}
/-! ### fill_in -/
def spFill (K : PySem.W.Frag) : Sp := fun vs H Q _ => ∃ (a f : Addr) (q : List Int) (F : List (List Int)), vs = [.ref a, .ref f] ∧ SqL K H a (q.map V.int) ∧ q.length = 32 ∧ RowsAt H f F ∧ W32 F ∧ F.length ≤ 24 ∧ (∀ j, Fits (q.getD j 0)) ∧
  ∀ H' p, Same H H' → H p = none → H' p = some (.lst ((fillIn q F).map V.int)) → Q (.ref p) H'
theorem scFi : FnScope ["product", "filling", "filled", "place", "given", "power", "x", "y"] ["product", "filling"] (defScope sFill) := ⟨rfl, rfl, rfl, by decide +kernel, rfl, by decide +kernel, by decide +kernel⟩
def fillTo (q : List Int) (F : List (List Int)) (i : Nat) : List Int := fillA (q.take 8 ++ List.replicate 24 0) (q.drop 8) (F.take i)
theorem fillTo_len {q : List Int} {F : List (List Int)} (h : q.length = 32) (w : W32 F) (i : Nat) : (fillTo q F i).length = 32 := fillA_len (acc_len h) fun g hg => w g (List.mem_of_mem_take hg)
theorem fillTo_succ {q : List Int} {F : List (List Int)} {g : List Int} {i : Nat} (h : q.length = 32) (hi : i < 24) (hg : F[i]? = some g) : fillTo q F (i + 1) = comb (q.getD (8 + i) 0) (fillTo q F i) g := by
  unfold fillTo
  have hl := (List.getElem?_eq_some_iff.mp hg).1
  rw [take_snoc hg, fillA_app, List.length_take, Nat.min_eq_left (by omega)]
  have e : (q.drop 8).drop i = q.getD (8 + i) 0 :: (q.drop 8).drop (i + 1) := by
    have hlt : i < (q.drop 8).length := by rw [List.length_drop]; omega
    rw [List.drop_eq_getElem_cons hlt, List.getElem_drop]
    congr 1
    simp [List.getD_eq_getElem?_getD, List.getElem?_eq_getElem (show 8 + i < q.length by omega)]
  rw [e]
  show fillA (comb (q.getD (8 + i) 0) _ g) ((q.drop 8).drop (i + 1)) [] = _
  cases (q.drop 8).drop (i + 1) <;> rfl
theorem ok_fill {f : Addr} {fd : FuncData} {k : Nat} (F : Fun K "fill_in" "fill_in" sFill f fd) (T : Gx mg) : FnOk P w K mg base CX0 (k + 1) f fd ["product", "filling"] (spFill K) := by
  refine F.ok scFi (fun vs H Q E h => ?_) (fun cdv A outer s H vs Q E hr h => ?_)
  · obtain ⟨a, f, q, F, rfl, _⟩ := h
    rfl
  · obtain ⟨a, f, q, F, rfl, hA, hq, hF, w32, hn, hfit, qq⟩ := h
    refine ⟨_, pss_cons (ps_set (i := 2) scFi.nd rfl (.inl rfl) (pe_op op_cat (pe_slice sl_list (pv 0) po_none (po_some (pe_num (by rfl) T.nm))) (pe_op op_rep (pe_lst (pa_cons pe_int pa_nil)) (pe_num (by rfl) T.pl))))
      (pss_cons (ps_for PassesOwn.never rfl (pi_enum (by rfl) T.zenum (pa_cons (pv 1) pa_nil)) (pg_tup rfl (pgs_cons (pg_name (i := 3) scFi.nd rfl (.inl rfl)) (pgs_cons (pg_name (i := 4) scFi.nd rfl (.inl rfl)) pgs_nil)))
        (pss_cons (ps_set (i := 5) scFi.nd rfl (.inr rfl) (pe_ix ix_list (pv 0) (pe_op op_add (pe_num (by rfl) T.nm) (pv 3)) (fun _ _ => rfl)))
        (pss_one (ps_setLc (i := 2) (own := [("x", 6), ("y", 7)]) (g := gTup K 2 (gCons (gName 6) (gCons (gName 7) gNil))) (by rfl) scFi.nd rfl rfl (sw_true rfl rfl rfl (by decide +kernel)) (pi_zip (by rfl) T.zzip (pa_cons (pv 2) (pa_cons (pv 4) pa_nil)))
          (blkOk_by (own := [("x", 6), ("y", 7)]) (N := ["product", "filling", "filled", "place", "given", "power", "x", "y"]) (sc := defScope sFill) (by decide +kernel))
          (fun _ _ _ _ _ => pg_tup rfl (pgs_cons (pg_name (i := 6) scFi.nd rfl (Or.inl rfl)) (pgs_cons (pg_name (i := 7) scFi.nd rfl (Or.inl rfl)) pgs_nil))) (fun _ _ _ _ _ => pts_nil)
          (fun _ _ _ _ _ => pe_op op_add (pv 6) (pe_op op_mul (pv 5) (pv 7)))))))
      (pss_one (ps_ret (pv 2)))), ?_⟩
    -- product[:MARKS]
    refine ⟨.ref a, rfl, 8, rfl, a, _, rfl, hA, fun c nc => ?_⟩
    rw [cut_0b (y := 8) 8 rfl]
    have s1 : Same H (upd H c (.lst ((q.take 8).map V.int))) := same_upd nc
    -- [0] * PLACES
    refine ⟨by show 1 ≤ sizeLine; decide, fun z nz => ?_⟩
    have s2 : Same (upd H c (.lst ((q.take 8).map V.int))) _ := same_upd (o := .lst [V.int 0]) nz
    refine ⟨z, 24, [.int 0], rfl, rfl, upd_same, by decide, by decide, by show 1 * 24 ≤ sizeLine; decide, fun b nb => ?_⟩
    have s3 : Same (upd (upd H c (.lst ((q.take 8).map V.int))) z (.lst [V.int 0])) _ := same_upd (o := .lst (List.replicate (24 : Int).toNat [V.int 0]).flatten) nb
    refine ⟨c, b, _, _, rfl, rfl, s3 _ _ (s2 _ _ upd_same), upd_same, ?_, fun d nd => ?_⟩
    · refine small_len ?_
      have e : ((List.replicate (24 : Int).toNat [V.int 0]).flatten).length = 24 := rfl
      rw [e, List.length_map, List.length_take]
      omega
    have s4 := same_upd (o := .lst ((q.take 8).map V.int ++ (List.replicate (24 : Int).toNat [V.int 0]).flatten)) nd
    have nd0 : H d = none := s1.free (s2.free (s3.free nd))
    have sH := ((s1.trans s2).trans s3).trans s4
    have e0 : (q.take 8).map V.int ++ (List.replicate (24 : Int).toNat [V.int 0]).flatten = (fillTo q F 0).map V.int := by
      have e1 : fillTo q F 0 = q.take 8 ++ List.replicate 24 0 := by
        unfold fillTo
        rw [List.take_zero]
        cases q.drop 8 <;> rfl
      rw [e1, List.map_append]
      rfl
    rw [e0] at sH ⊢
    obtain ⟨as, h1, h2, h3⟩ := hF
    refine ⟨.ref f, rfl, f, _, rfl, .inl (.inl (sH _ _ h1)), for_it (walk_enum (K := K) (a := f) (xs := as.map V.ref))
      (fun i σ H' => (∃ d v3 v4 v5 v6 v7, σ = [some (.ref a), some (.ref f), some (.ref d), v3, v4, v5, v6, v7] ∧ H d = none ∧ H' d = some (.lst ((fillTo q F i).map V.int))) ∧ Same H H')
      ⟨⟨d, none, none, none, none, none, rfl, nd0, upd_same⟩, sH⟩ (fun i σ H' _ hP => .inl (.inl (hP.2 _ _ h1))) ?_ ?_⟩
    · rintro i v σ H1 H2 hi ⟨⟨d, v3, v4, v5, v6, v7, rfl, nd, hd⟩, sm⟩ ⟨t, u1, u2, rfl, nt, rfl, g1, g2⟩
      rw [List.length_map] at hi
      cases g1
      obtain ⟨b, hb⟩ : ∃ b, as[i]? = some b := ⟨_, List.getElem?_eq_getElem hi⟩
      obtain ⟨g, hg⟩ : ∃ g, F[i]? = some g := ⟨_, List.getElem?_eq_getElem (by omega)⟩
      have g2' : (as.map V.ref)[i]? = some u2 := g2
      rw [List.getElem?_map, hb] at g2'
      obtain rfl : u2 = .ref b := (Option.some.inj g2').symm
      have eb := h3 i b g hb hg
      have lg : g.length = 32 := w32 g (List.mem_of_getElem? hg)
      have smt : Same H1 (upd H1 t (.tup [.int (i : Int), .ref b])) := same_upd nt
      have sm2 := sm.trans smt
      have hd2 := smt _ _ hd
      have hl := fillTo_len (F := F) hq w32 i
      refine ⟨t, [_, _], rfl, .inl (.inl upd_same), rfl, _, [_], rfl, _, [], rfl, rfl, ?_⟩
      -- power = product[MARKS + place]
      refine ⟨.ref a, rfl, .int (i : Int), rfl, 8, (i : Int), rfl, rfl, a, _, _, _, rfl, rfl, sm2.seq hA, at32 hq (z := 8 + (i : Int)) (8 + i) (by omega) (by omega), ?_⟩
      -- the comprehension
      refine ⟨.ref d, rfl, .ref b, rfl, d, b, _, _, rfl, .inl (.inl hd2), .inl (.inl (sm2 _ _ eb)), fun D nD => lc_it (walk_zip (K := K) (a := d) (b := b) (xs := (fillTo q F i).map V.int) (ys := g.map V.int) (n := 32) (by simp [hl, lg]))
        (fun j H' => Same (upd H1 t (.tup [.int (i : Int), .ref b])) H' ∧ H' D = some (.lst (((comb (q.getD (8 + i) 0) (fillTo q F i) g).take j).map V.int))) ⟨same_upd nD, upd_same⟩ (fun j H' _ z => ⟨.inl (.inl (z.1 _ _ hd2)), .inl (.inl (z.1 _ _ (sm2 _ _ eb)))⟩) ?_ ?_⟩
      · rintro j v H3 H4 hj ⟨s5, hD⟩ ⟨t2, u1, u2, rfl, nt2, rfl, k1, k2⟩
        obtain ⟨rfl, _⟩ := getV k1
        obtain ⟨rfl, _⟩ := getV k2
        refine ⟨t2, [_, _], rfl, .inl (.inl upd_same), rfl, _, [_], rfl, _, [], rfl, rfl, rfl, yes ?_⟩
        refine ⟨.int ((fillTo q F i).getD j 0), rfl, .int (q.getD (8 + i) 0), rfl, .int (g.getD j 0), rfl, _, _, rfl, rfl, (hfit (8 + i)).mul, _, _, rfl, rfl, ((comb (q.getD (8 + i) 0) (fillTo q F i) g).take j).map V.int, ?_, ?_, ?_, ?_⟩
        · rw [upd_ne (ne_of_none hD nt2)]
          exact hD
        · rw [List.length_map, List.length_take]
          exact small1000 (by omega)
        · intro y z e
          rw [upd_ne (ne_of_none e nD), upd_ne (ne_of_none (s5 y z e) nt2)]
          exact s5 y z e
        · rw [upd_same, take_snoc (comb_at hl lg hj), List.map_append]
          rfl
      · rintro H3 ⟨s5, hD⟩
        have hcl := comb_len (k := q.getD (8 + i) 0) hl lg
        rw [List.take_of_length_le (by omega), ← fillTo_succ hq (by omega) hg] at hD
        exact ⟨⟨D, _, _, _, _, _, rfl, sm2.free nD, hD⟩, sm2.trans s5⟩
    · rintro σ H1 ⟨⟨d, v3, v4, v5, v6, v7, rfl, nd, hd⟩, sm⟩
      rw [List.length_map] at hd
      have e : fillTo q F as.length = fillIn q F := by
        unfold fillTo fillIn
        rw [List.take_of_length_le (l := F) (by omega)]
      rw [e] at hd
      exact ⟨.ref d, rfl, qq H1 d sm nd hd⟩
/-! ### is_refused -/
def spRefused : Sp := fun vs H Q _ => ∃ (n : Nat) (f : Addr) (q : List (List Int)), vs = [.int (n : Int), .ref f] ∧ RowsAt H f q ∧ W32 q ∧ ∀ H', Same H H' → Q (.bl (refused n q)) H'
theorem scRf : FnScope ["n", "equations", "equation"] ["n", "equations"] (defScope sRefused) := ⟨rfl, rfl, rfl, by decide +kernel, rfl, by decide +kernel, by decide +kernel⟩
def bad (n : Nat) (x : List Int) : Bool := big 1048576 x || nz (x.drop (8 + n))
theorem ok_refused {f fB : Addr} {fd fdB : FuncData} {k : Nat} (F : Fun K "is_refused" "is_refused" sRefused f fd) (T : Gx mg)
    (GB : FnOk P w K mg base CX0 k fB fdB ["product", "most"] (spBeyond K)) (kB : PySem.W.keepIn K (.ref fB) = true) (bB : Binds K fdB ["product", "most"] []) (gB : mg "is_beyond" = some (.ref fB)) :
    FnOk P w K mg base CX0 (k + 1) f fd ["n", "equations"] spRefused := by
  refine F.ok scRf (fun vs H Q E h => ?_) (fun cdv A outer s H vs Q E hr h => ?_)
  · obtain ⟨n, f, q, rfl, _⟩ := h
    rfl
  · obtain ⟨n, f, q, rfl, hF, w32, qq⟩ := h
    refine ⟨_, pss_cons (ps_if (PW.pt (pw_or (pt_cmpR op_gt (pe_callB call_len_seq (by rfl) T.zlen PySem.boot_len (pa_cons (pv 1) pa_nil)) (pe_num (by rfl) T.me) (nomark _)) (pw_or1 (pt_cmpR op_gt (pv 0) (pe_num (by rfl) T.pl) (nomark _)))))
        (pss_one (ps_ret pe_bl)) pss_nil)
      (pss_cons (ps_for PassesOwn.never rfl (pi_list (pv 1)) (pg_name (i := 2) scRf.nd rfl (.inl rfl))
        (pss_one (ps_if (PW.pt (pw_or (pt_val (pe_call GB hr (by rfl) gB kB bB .nil pass0 (pa_cons (pv 2) (pa_cons (pe_num (by rfl) T.mg') pa_nil))))
            (pw_or1 (pt_val (pe_callB (cr_anyI rfl) (by rfl) T.zany (by decide +kernel) (pa_cons (pe_slice sl_list (pv 2) (po_some (pe_op op_add (pe_num (by rfl) T.nm) (pv 0))) po_none) pa_nil))))))
          (pss_one (ps_ret pe_bl)) pss_nil)))
      (pss_one (ps_ret pe_bl))), ?_⟩
    obtain ⟨as, h1, h2, h3⟩ := hF
    have e1 : decide ((256 : Int) < ((as.map V.ref).length : Int)) = decide (256 < q.length) := by
      rw [List.length_map, h2]
      by_cases c : 256 < q.length
      · rw [decide_eq_true c, decide_eq_true (by omega)]
      · rw [decide_eq_false c, decide_eq_false (by omega)]
    have e2 : decide ((24 : Int) < (n : Int)) = decide (24 < n) := by
      by_cases c : 24 < n
      · rw [decide_eq_true c, decide_eq_true (by omega)]
      · rw [decide_eq_false c, decide_eq_false (by omega)]
    refine ⟨.ref f, rfl, f, _, rfl, .inl (.inl (.inl h1)), _, _, rfl, rfl, _, rfl, ?_⟩
    by_cases c1 : 256 < q.length
    · rw [e1, decide_eq_true c1]
      refine iteT (iteT ?_)
      have := qq H (Same.refl H)
      unfold refused at this
      rw [decide_eq_true c1] at this
      exact this
    · rw [e1, decide_eq_false c1]
      refine iteF ?_
      refine ⟨.int (n : Int), rfl, _, _, rfl, rfl, _, rfl, ?_⟩
      by_cases c2 : 24 < n
      · rw [e2, decide_eq_true c2]
        refine iteT ?_
        have := qq H (Same.refl H)
        unfold refused at this
        rw [decide_eq_true c2, decide_eq_false c1] at this
        exact this
      · rw [e2, decide_eq_false c2]
        refine iteF ?_
        refine ⟨.ref f, rfl, f, rfl, ⟨_, .inl (.inl h1)⟩, for_list (K := K) (a := f) (xs := as.map V.ref) (fun i σ H' => (∃ v, σ = [some (.int (n : Int)), some (.ref f), v]) ∧ Same H H' ∧ (q.take i).any (bad n) = false)
          ⟨⟨none, rfl⟩, Same.refl H, rfl⟩ (fun i σ H' _ z => .inl (.inl (z.2.1 _ _ h1))) ?_ ?_⟩
        · rintro i v σ H1 hv ⟨⟨v2, rfl⟩, sm, hb⟩
          rw [List.getElem?_map] at hv
          obtain ⟨b, eb, rfl⟩ := Option.map_eq_some_iff.mp hv
          have hi := (List.getElem?_eq_some_iff.mp eb).1
          obtain ⟨g, hg⟩ : ∃ g, q[i]? = some g := ⟨_, List.getElem?_eq_getElem (by omega)⟩
          have eg := sm _ _ (h3 i b g eb hg)
          have lg : g.length = 32 := w32 g (List.mem_of_getElem? hg)
          have yesbad : bad n g = true → refused n q = true := fun hbad => by
            unfold refused
            rw [Bool.or_eq_true]
            right
            exact List.any_eq_true.mpr ⟨g, List.mem_of_getElem? hg, hbad⟩
          refine ⟨.ref b, rfl, b, g, 1048576, rfl, .inl (.inl eg), by omega, _, rfl, ?_⟩
          cases cb : big 1048576 g with
          | true =>
            refine iteT (iteT ?_)
            have := qq H1 sm
            rw [yesbad (by unfold bad; rw [cb]; rfl)] at this
            exact this
          | false =>
            refine iteF ?_
            refine ⟨.ref b, rfl, .int (n : Int), rfl, 8, (n : Int), rfl, rfl, _, rfl, b, _, rfl, .inl (.inl eg), fun c nc => ?_⟩
            rw [cut_a (x := 8 + (n : Int)) (8 + n) (by omega)]
            have sm2 := sm.trans (same_upd (o := .lst ((g.drop (8 + n)).map V.int)) nc)
            refine ⟨c, g.drop (8 + n), rfl, .inl (.inl upd_same), _, rfl, ?_⟩
            cases cn : nz (g.drop (8 + n)) with
            | true =>
              refine iteT ?_
              have := qq _ sm2
              rw [yesbad (by unfold bad; rw [cb, cn]; rfl)] at this
              exact this
            | false =>
              refine iteF ?_
              refine ⟨⟨_, rfl⟩, sm2, ?_⟩
              rw [take_snoc hg, List.any_append, hb]
              show (false || (bad n g || false)) = false
              unfold bad
              rw [cb, cn]
              rfl
        · rintro σ H1 ⟨⟨v, rfl⟩, sm, hb⟩
          have := qq H1 sm
          rw [List.length_map, List.take_of_length_le (by omega)] at hb
          unfold refused at this
          rw [decide_eq_false c1, decide_eq_false c2] at this
          have hb' : (q.any fun x => big 1048576 x || nz (x.drop (8 + n))) = false := hb
          rw [hb'] at this
          exact this
end
end Pf

namespace Pf
open PySem PySem.Spec PyProof.Rows L2
section
variable {P : Program} {w : World} {K : PySem.W.Frag} {mg : Str → Option Value} {base : Heap}
/-! ### read_products -/
def spRead (K : PySem.W.Frag) : Sp := fun vs H Q _ => ∃ (a : Addr) (e : List Int) (q : List (List Int)), vs = [.ref a] ∧ SqL K H a (e.map V.int) ∧ Wrote e q ∧ q.length ≤ 300 ∧
  ∀ H' d, Same H H' → H d = none → RowsAt H' d q → Q (.ref d) H'
theorem scRd : FnScope ["e", "products", "number", "start", "marks", "places"] ["e"] (defScope sRead) := ⟨rfl, rfl, rfl, by decide +kernel, rfl, by decide +kernel, by decide +kernel⟩
theorem ok_read {f : Addr} {fd : FuncData} {k : Nat} (F : Fun K "read_products" "read_products" sRead f fd) (T : Gx mg) : FnOk P w K mg base CX0 (k + 1) f fd ["e"] (spRead K) := by
  refine F.ok scRd (fun vs H Q E h => ?_) (fun cdv A outer s H vs Q E hr h => ?_)
  · obtain ⟨a, e, q, rfl, _⟩ := h
    rfl
  · obtain ⟨a, e, q, rfl, hA, hW, hn, qq⟩ := h
    refine ⟨_, pss_cons (ps_set (i := 1) scRd.nd rfl (.inl rfl) (pe_lst pa_nil))
      (pss_cons (ps_for PassesOwn.never rfl (pi_range1 (by rfl) T.zrange (pa_cons (pe_ix ix_list (pv 0) pe_int (fun _ _ => rfl)) pa_nil)) (pg_name (i := 2) scRd.nd rfl (.inl rfl))
        (pss_cons (ps_set (i := 3) scRd.nd rfl (.inl rfl) (pe_op op_add pe_int (pe_op op_mul (pe_num (by rfl) T.ww) (pv 2))))
        (pss_cons (ps_set (i := 4) scRd.nd rfl (.inl rfl) (pe_slice sl_list (pv 0) (po_some (pe_op op_add (pv 3) pe_int)) (po_some (pe_op op_add (pe_op op_add (pv 3) pe_int) (pe_num (by rfl) T.nm)))))
        (pss_cons (ps_set (i := 5) scRd.nd rfl (.inl rfl) (pe_slice sl_list (pv 0) (po_some (pe_op op_add (pe_op op_add (pv 3) pe_int) (pe_num (by rfl) T.nm))) (po_some (pe_op op_add (pv 3) (pe_num (by rfl) T.ww)))))
        (pss_one (ps_expr (pe_bm PySem.F.plainAttrs_list PySem.F.slot_list_append PySem.F.type_list_append mt_append (pv 1) (pa_cons (pe_op op_cat (pv 4) (pv 5)) pa_nil))))))))
      (pss_one (ps_ret (pv 1)))), ?_⟩
    refine ⟨Nat.zero_le _, fun d nd => ?_⟩
    have s0 : Same H (upd H d (.lst [])) := same_upd nd
    have e0 : atI (e.map V.int) 0 = some (.int (q.length : Int)) := by
      rw [hW.2]
      exact atI_nat (j := 0) rfl
    refine ⟨.ref a, rfl, a, _, _, _, rfl, rfl, s0.seq hA, e0, _, rfl, by omega, by omega, for_range (lo := 0) (n := (q.length : Int).toNat)
      (fun i σ H' => (∃ v2 v3 v4 v5, σ = [some (.ref a), some (.ref d), v2, v3, v4, v5]) ∧ Same H H' ∧ RowsAt H' d (q.take i))
      ⟨⟨none, none, none, none, rfl⟩, s0, [], upd_same, rfl, fun i a g e1 _ => by cases e1⟩ ?_ ?_⟩
    · rintro i σ H1 hi ⟨⟨v2, v3, v4, v5, rfl⟩, sm, as, h1, h2, h3⟩
      rw [Int.toNat_natCast] at hi
      obtain ⟨g, hg⟩ : ∃ g, q[i]? = some g := ⟨_, List.getElem?_eq_getElem hi⟩
      have lg : g.length = 32 := hW.1 g (List.mem_of_getElem? hg)
      have er := rd_at hW hg
      refine ⟨.int (0 + (i : Int)), rfl, 34, 0 + (i : Int), rfl, rfl, .inl ⟨by decide, by decide⟩, 1, _, rfl, rfl, ?_⟩
      -- marks
      refine ⟨.ref a, rfl, .int (1 + 34 * (0 + (i : Int))), rfl, _, 1, rfl, rfl, _, rfl, .int (1 + 34 * (0 + (i : Int))), rfl, _, 1, rfl, rfl, _, 8, rfl, rfl, _, rfl, a, _, rfl, sm.seq hA, fun c nc => ?_⟩
      rw [cut_ab (34 * i + 2) (34 * i + 10) (by omega) (by omega) (by omega), show 34 * i + 10 - (34 * i + 2) = 8 by omega]
      have s1 := same_upd (o := .lst (((e.drop (34 * i + 2)).take 8).map V.int)) nc
      have sm1 := sm.trans s1
      -- places
      refine ⟨.ref a, rfl, .int (1 + 34 * (0 + (i : Int))), rfl, _, 2, rfl, rfl, _, 8, rfl, rfl, _, rfl, .int (1 + 34 * (0 + (i : Int))), rfl, _, 34, rfl, rfl, _, rfl, a, _, rfl, sm1.seq hA, fun c2 nc2 => ?_⟩
      rw [cut_ab (34 * i + 11) (34 * i + 35) (by omega) (by omega) (by omega), show 34 * i + 35 - (34 * i + 11) = 24 by omega]
      have s2 := same_upd (o := .lst (((e.drop (34 * i + 11)).take 24).map V.int)) nc2
      have sm2 := sm1.trans s2
      -- products.append(marks + places)
      have hd2 := s2 _ _ (s1 _ _ h1)
      refine ⟨.ref d, rfl, .inl ⟨rfl, _, .inl (.inl hd2)⟩, .ref c, rfl, .ref c2, rfl, c, c2, _, _, rfl, rfl, s2 _ _ upd_same, upd_same, ?_, fun b nb => ?_⟩
      · rw [List.length_map, List.length_map, List.length_take, List.length_take]
        exact small_len (by omega)
      rw [← List.map_append]
      have s3 := same_upd (o := .lst (((e.drop (34 * i + 2)).take 8 ++ (e.drop (34 * i + 11)).take 24).map V.int)) nb
      have sm3 := sm2.trans s3
      have eb : (e.drop (34 * i + 2)).take 8 ++ (e.drop (34 * i + 11)).take 24 = g := er
      rw [eb] at s3 sm3 ⊢
      have h12 : as.length ≤ 300 := by
        rw [h2, List.length_take]
        omega
      refine ⟨d, _, _, rfl, rfl, s3 _ _ hd2, ?_, ?_⟩
      · rw [List.length_map]
        exact small1000 (by omega)
      · refine ⟨⟨_, _, _, _, rfl⟩, fun b' x e' => ?_, ?_⟩
        · rw [upd_ne (ne_of_none e' nd)]
          exact sm3 _ _ e'
        · rw [take_snoc hg]
          exact rows_push (s3 _ _ hd2) h2 (fun j a' u e1 e2 => s3 _ _ (s2 _ _ (s1 _ _ (h3 j a' u e1 e2)))) (fun u hu => hW.1 u (List.mem_of_mem_take hu)) upd_same lg
    · rintro σ H1 ⟨⟨v2, v3, v4, v5, rfl⟩, sm, hR⟩
      rw [Int.toNat_natCast, List.take_length] at hR
      exact ⟨.ref d, rfl, qq H1 d sm nd hR⟩
/-! ### write_filling -/
def spWrite : Sp := fun vs H Q _ => ∃ (f : Addr) (F : List (List Int)), vs = [.ref f] ∧ RowsAt H f F ∧ W32 F ∧ F.length ≤ 24 ∧
  ∀ H' p, Same H H' → H p = none → H' p = some (.lst ((wr F).map V.int)) → Q (.ref p) H'
theorem scW : FnScope ["filling", "written", "product"] ["filling"] (defScope sWrite) := ⟨rfl, rfl, rfl, by decide +kernel, rfl, by decide +kernel, by decide +kernel⟩
def wrTo (F : List (List Int)) (i : Nat) : List Int := (F.length : Int) :: (F.take i).flatMap enc
theorem wrTo_len {F : List (List Int)} (w : W32 F) {i : Nat} (hi : i ≤ 24) : (wrTo F i).length ≤ 900 := by
  unfold wrTo
  rw [List.length_cons, flat_len _ fun g hg => w g (List.mem_of_mem_take hg), List.length_take]
  omega
theorem wrTo_succ {F : List (List Int)} {g : List Int} {i : Nat} (hg : F[i]? = some g) : wrTo F (i + 1) = wrTo F i ++ [8] ++ g.take 8 ++ [24] ++ g.drop 8 := by
  unfold wrTo
  rw [take_snoc hg, List.flatMap_append]
  simp [enc]
theorem ok_write {f : Addr} {fd : FuncData} {k : Nat} (F : Fun K "write_filling" "write_filling" sWrite f fd) (T : Gx mg) : FnOk P w K mg base CX0 (k + 1) f fd ["filling"] spWrite := by
  refine F.ok scW (fun vs H Q E h => ?_) (fun cdv A outer s H vs Q E hr h => ?_)
  · obtain ⟨f, F, rfl, _⟩ := h
    rfl
  · obtain ⟨f, F, rfl, ⟨as, h1, h2, h3⟩, w32, hn, qq⟩ := h
    refine ⟨_, pss_cons (ps_set (i := 1) scW.nd rfl (.inl rfl) (pe_lst (pa_cons (pe_callB call_len_seq (by rfl) T.zlen PySem.boot_len (pa_cons (pv 0) pa_nil)) pa_nil)))
      (pss_cons (ps_for PassesOwn.never rfl (pi_list (pv 0)) (pg_name (i := 2) scW.nd rfl (.inl rfl))
        (pss_one (ps_set (i := 1) scW.nd rfl (.inl rfl) (pe_op op_cat (pe_op op_cat (pe_op op_cat (pe_op op_cat (pv 1) (pe_lst (pa_cons (pe_num (by rfl) T.nm) pa_nil))) (pe_slice sl_list (pv 2) po_none (po_some (pe_num (by rfl) T.nm))))
          (pe_lst (pa_cons (pe_num (by rfl) T.pl) pa_nil))) (pe_slice sl_list (pv 2) (po_some (pe_num (by rfl) T.nm)) po_none)))))
      (pss_one (ps_ret (pv 1)))), ?_⟩
    refine ⟨.ref f, rfl, f, _, rfl, .inl (.inl (.inl h1)), by show 1 ≤ sizeLine; decide, fun d nd => ?_⟩
    have s0 : Same H (upd H d (.lst [.int ((as.map V.ref).length : Int)])) := same_upd nd
    refine ⟨.ref f, rfl, f, rfl, ⟨_, .inl (.inl (s0 _ _ h1))⟩, for_list (K := K) (a := f) (xs := as.map V.ref)
      (fun i σ H' => (∃ d v, σ = [some (.ref f), some (.ref d), v] ∧ H d = none ∧ H' d = some (.lst ((wrTo F i).map V.int))) ∧ Same H H')
      ⟨⟨d, none, rfl, nd, by rw [upd_same, List.length_map, h2]; rfl⟩, s0⟩ (fun i σ H' _ z => .inl (.inl (z.2 _ _ h1))) ?_ ?_⟩
    · rintro i v σ H1 hv ⟨⟨d, v2, rfl, nd, hd⟩, sm⟩
      rw [List.getElem?_map] at hv
      obtain ⟨b, eb, rfl⟩ := Option.map_eq_some_iff.mp hv
      have hi := (List.getElem?_eq_some_iff.mp eb).1
      obtain ⟨g, hg⟩ : ∃ g, F[i]? = some g := ⟨_, List.getElem?_eq_getElem (by omega)⟩
      have eg := sm _ _ (h3 i b g eb hg)
      have lg : g.length = 32 := w32 g (List.mem_of_getElem? hg)
      have lw := wrTo_len w32 (show i ≤ 24 by omega)
      refine ⟨.ref d, rfl, by show 1 ≤ sizeLine; decide, fun x1 n1 => ?_⟩
      have s1 := same_upd (o := .lst [V.int 8]) n1
      refine ⟨d, x1, _, _, rfl, rfl, s1 _ _ hd, upd_same, ?_, fun x2 n2 => ?_⟩
      · rw [List.length_map]
        exact small_len (show (wrTo F i).length + 1 ≤ 1000 by omega)
      have s2 := same_upd (o := .lst ((wrTo F i).map V.int ++ [V.int 8])) n2
      refine ⟨.ref b, rfl, 8, rfl, b, _, rfl, .inl (.inl (s2 _ _ (s1 _ _ eg))), fun x3 n3 => ?_⟩
      rw [cut_0b (y := 8) 8 rfl]
      have s3 := same_upd (o := .lst ((g.take 8).map V.int)) n3
      refine ⟨x2, x3, _, _, rfl, rfl, s3 _ _ upd_same, upd_same, ?_, fun x4 n4 => ?_⟩
      · simp only [List.length_append, List.length_map, List.length_take, List.length_cons, List.length_nil]
        exact small_len (by omega)
      have s4 := same_upd (o := .lst ((wrTo F i).map V.int ++ [V.int 8] ++ (g.take 8).map V.int)) n4
      refine ⟨by show 1 ≤ sizeLine; decide, fun x5 n5 => ?_⟩
      have s5 := same_upd (o := .lst [V.int 24]) n5
      refine ⟨x4, x5, _, _, rfl, rfl, s5 _ _ upd_same, upd_same, ?_, fun x6 n6 => ?_⟩
      · simp only [List.length_append, List.length_map, List.length_take, List.length_cons, List.length_nil]
        exact small_len (by omega)
      have s6 := same_upd (o := .lst ((wrTo F i).map V.int ++ [V.int 8] ++ (g.take 8).map V.int ++ [V.int 24])) n6
      have sB := ((((s1.trans s2).trans s3).trans s4).trans s5).trans s6
      refine ⟨.ref b, rfl, 8, rfl, b, _, rfl, .inl (.inl (sB _ _ eg)), fun x7 n7 => ?_⟩
      rw [cut_a (x := 8) 8 rfl]
      have s7 := same_upd (o := .lst ((g.drop 8).map V.int)) n7
      refine ⟨x6, x7, _, _, rfl, rfl, s7 _ _ upd_same, upd_same, ?_, fun x8 n8 => ?_⟩
      · simp only [List.length_append, List.length_map, List.length_take, List.length_cons, List.length_nil, List.length_drop]
        exact small_len (by omega)
      have s8 := same_upd (o := .lst ((wrTo F i).map V.int ++ [V.int 8] ++ (g.take 8).map V.int ++ [V.int 24] ++ (g.drop 8).map V.int)) n8
      have sA := (sm.trans sB).trans s7
      refine ⟨⟨x8, some (.ref b), rfl, sA.free n8, ?_⟩, sA.trans s8⟩
      rw [upd_same, wrTo_succ hg]
      simp
    · rintro σ H1 ⟨⟨d, v2, rfl, nd, hd⟩, sm⟩
      rw [List.length_map] at hd
      have e : wrTo F as.length = wr F := by
        unfold wrTo wr
        rw [List.take_of_length_le (by omega)]
        rfl
      rw [e] at hd
      exact ⟨.ref d, rfl, qq H1 d sm nd hd⟩
end
end Pf

namespace Pf
open PySem PySem.Spec PyProof.Rows L2
/-! ### The loop's own mathematics -/
theorem near_of_nz {r : List Int} (h : r.length = 32) (hz : nz (r.drop 8) = true) : ∃ p, near r = some p := by
  cases e : near r with
  | some p => exact ⟨p, rfl⟩
  | none =>
    have h0 := near_none e
    have : nz (r.drop 8) = false := by
      rw [nz_false]
      intro j
      rw [drop_get]
      by_cases c : 8 + j < 32
      · exact h0 _ (by omega) c
      · exact getD_out (by omega)
    rw [this] at hz
    cases hz
theorem near_of_z {r : List Int} (hz : nz (r.drop 8) = false) : near r = none := by
  cases e : near r with
  | none => rfl
  | some p =>
    obtain ⟨h1, _, h3, _⟩ := near_at e
    rw [nz_false] at hz
    have := hz (p - 8)
    rw [drop_get, show 8 + (p - 8) = p by omega] at this
    exact absurd this h3
theorem fits_of {m : Nat} {r : List Int} (hl : r.length = m) (h : big 1073741824 r = false) (j : Nat) : Fits (r.getD j 0) := by
  by_cases c : j < r.length
  · exact big_false.mp h j c
  · rw [getD_out (by omega)]
    exact ⟨by decide, by decide⟩
theorem fits_of' {r : List Int} (h : big 1048576 r = false) (j : Nat) : Fits (r.getD j 0) := by
  by_cases c : j < r.length
  · have := big_false.mp h j c
    exact ⟨by omega, by omega⟩
  · rw [getD_out (by omega)]
    exact ⟨by decide, by decide⟩
/-- enough steps are left -/
def Enough (m : Nat) (r : List Int) : Prop := 0 < m ∧ (nz (r.drop 8) = true → ∃ j, 8 ≤ j ∧ j < 32 ∧ r.getD j 0 ≠ 0 ∧ (r.getD j 0).natAbs < m)
theorem enough_first {r : List Int} (hl : r.length = 32) (h : big 1073741824 r = false) : Enough (2 ^ 31) r := by
  refine ⟨by decide, fun hz => ?_⟩
  obtain ⟨p, hp⟩ := near_of_nz hl hz
  obtain ⟨h1, h2, h3, _⟩ := near_at hp
  refine ⟨p, h1, h2, h3, ?_⟩
  obtain ⟨f1, f2⟩ := fits_of hl h p
  omega
theorem enough_next {m p : Nat} {r : List Int} (hl : r.length = 32) (h : Enough (m + 1) r) (hp : near r = some p) (ho : other (repl p (red r p) r) p = true) : Enough m (repl p (red r p) r) := by
  obtain ⟨h1, h2, h3, h4⟩ := near_at hp
  have hz : nz (r.drop 8) = true := by
    cases e : nz (r.drop 8) with
    | true => rfl
    | false =>
      rw [near_of_z e] at hp
      cases hp
  obtain ⟨j, j1, j2, j3, j4⟩ := h.2 hz
  have hj := h4 j j1 j2 j3
  obtain ⟨i, i1, i2, i3, i4⟩ : ∃ i, 8 ≤ i ∧ i < 32 ∧ i ≠ p ∧ (repl p (red r p) r).getD i 0 ≠ 0 := by
    refine Classical.byContradiction fun z => ?_
    have : other (repl p (red r p) r) p = false := other_false.mpr fun i a b c => Classical.byContradiction fun d => z ⟨i, a, b, c, d⟩
    rw [this] at ho
    cases ho
  have hs : ((repl p (red r p) r).getD i 0).natAbs < (r.getD p 0).natAbs := by
    rw [repl_red hl h2 i2, if_neg i3]
    exact fmod_small h3
  exact ⟨by omega, fun _ => ⟨i, i1, i2, i4, by omega⟩⟩
theorem one_neg : ∀ (f : Nat) (F : List (List Int)) (r : List Int) (v : Int), one f F r = .inl v → v ≠ 0
  | 0, F, r, v, h => by cases h
  | f + 1, F, r, v, h => by
    unfold one at h
    cases e : near r with
    | none =>
      rw [e] at h
      dsimp only at h
      cases z : nz r with
      | true => rw [z] at h; cases h; decide
      | false => rw [z] at h; cases h
    | some p =>
      rw [e] at h
      dsimp only at h
      cases hb : (F.map (repl p (red r p))).any (big 1073741824) with
      | true => rw [hb] at h; cases h; decide
      | false =>
        rw [hb] at h
        cases ho : other (repl p (red r p) r) p with
        | true =>
          rw [ho] at h
          exact one_neg f _ _ v h
        | false =>
          rw [ho] at h
          cases z : nz ((repl p (red r p) r).take 8) with
          | true => rw [z] at h; cases h; decide
          | false => rw [z] at h; cases h
theorem solve_neg {q : List Int} {F : List (List Int)} {v : Int} (h : solve q F = .inl v) : v ≠ 0 := by
  unfold solve at h
  cases b : big 1073741824 (fillIn q F) with
  | true => rw [b] at h; cases h; decide
  | false =>
    rw [b] at h
    exact one_neg _ _ _ v h
theorem one_none {m : Nat} {F : List (List Int)} {r : List Int} (h : near r = none) : one (m + 1) F r = if nz r then .inl (-61) else .inr F := by
  unfold one
  rw [h]
theorem one_some {m p : Nat} {F : List (List Int)} {r : List Int} (h : near r = some p) : one (m + 1) F r =
    if (F.map (repl p (red r p))).any (big 1073741824) then .inl (-75)
    else if other (repl p (red r p) r) p then one m (F.map (repl p (red r p))) (repl p (red r p) r)
    else if nz ((repl p (red r p) r).take 8) then .inl (-61) else .inr ((F.map (repl p (red r p))).map (repl p zero)) := by
  conv => lhs; unfold one
  rw [h]
theorem Keep.refl (f : Addr) (H : Hp) : Keep f H H := fun _ _ e _ => e
theorem Keep.same {f : Addr} {H H1 H2 : Hp} (k : Keep f H H1) (s : Same H1 H2) : Keep f H H2 := fun b x e n => s _ _ (k b x e n)
theorem Keep.trans {f : Addr} {H H1 H2 : Hp} (k : Keep f H H1) (s : Keep f H1 H2) : Keep f H H2 := fun b x e n => s _ _ (k b x e n) n
theorem RowsAt.keep {H H' : Hp} {f d : Addr} {q F : List (List Int)} (hd : RowsAt H d q) (wq : W32 q) (hf : RowsAt H f F) (ne : d ≠ f) (k : Keep f H H') : RowsAt H' d q := by
  obtain ⟨as, h1, h2, h3⟩ := hd
  obtain ⟨bs, g1, _, _⟩ := hf
  exact ⟨as, k _ _ h1 ne, h2, fun i a g e1 e2 => k _ _ (h3 i a g e1 e2) fun z => ne_of g1 (h3 i a g e1 e2) (ref_ne_int (wq g (List.mem_of_getElem? e2))) z.symm⟩
theorem RowsAt.ne {H : Hp} {f b : Addr} {F : List (List Int)} {r : List Int} (h : RowsAt H f F) (hb : H b = some (.lst (r.map V.int))) (hl : r.length = 32) : b ≠ f := by
  obtain ⟨as, h1, _, _⟩ := h
  exact fun z => ne_of h1 hb (ref_ne_int hl) z.symm
section
variable {P : Program} {w : World} {K : PySem.W.Frag} {mg : Str → Option Value} {base : Heap}
/-! ### solve_equation -/
def spSolve : Sp := fun vs H Q _ => ∃ (a f : Addr) (q : List Int) (F : List (List Int)) (n : Nat), vs = [.ref a, .ref f] ∧ H a = some (.lst (q.map V.int)) ∧ RowsAt H f F ∧ n ≤ 24 ∧ Clear n q ∧ big 1048576 q = false ∧ Rows n F ∧
  (∀ v, solve q F = .inl v → ∀ H', Keep f H H' → Q (.int v) H') ∧ ∀ G, solve q F = .inr G → ∀ H', Keep f H H' → RowsAt H' f G → Q (.int 0) H'
theorem scSo : FnScope ["equation", "filling", "r", "p", "reducing", "given"] ["equation", "filling"] (defScope sSolve) := ⟨rfl, rfl, rfl, by decide +kernel, rfl, by decide +kernel, by decide +kernel⟩
structure Callees (P : Program) (w : World) (K : PySem.W.Frag) (mg : Str → Option Value) (base : Heap) (k : Nat) (fF fB fN fR fG fP fO : Addr) (dF dB dN dR dG dP dO : FuncData) : Prop where
  F : FnOk P w K mg base CX0 k fF dF ["product", "filling"] (spFill K)
  B : FnOk P w K mg base CX0 k fB dB ["product", "most"] (spBeyond K)
  N : FnOk P w K mg base CX0 k fN dN ["r"] (spNear K)
  R : FnOk P w K mg base CX0 k fR dR ["r", "p"] (spRed K)
  G : FnOk P w K mg base CX0 k fG dG ["filling", "p", "other"] spReplF
  Pl : FnOk P w K mg base CX0 k fP dP ["product", "p", "other"] (spRepl K)
  O : FnOk P w K mg base CX0 k fO dO ["r", "p"] (spOther K)
  kF : PySem.W.keepIn K (.ref fF) = true
  kB : PySem.W.keepIn K (.ref fB) = true
  kN : PySem.W.keepIn K (.ref fN) = true
  kR : PySem.W.keepIn K (.ref fR) = true
  kG : PySem.W.keepIn K (.ref fG) = true
  kP : PySem.W.keepIn K (.ref fP) = true
  kO : PySem.W.keepIn K (.ref fO) = true
  bF : Binds K dF ["product", "filling"] []
  bB : Binds K dB ["product", "most"] []
  bN : Binds K dN ["r"] []
  bR : Binds K dR ["r", "p"] []
  bG : Binds K dG ["filling", "p", "other"] []
  bP : Binds K dP ["product", "p", "other"] []
  bO : Binds K dO ["r", "p"] []
  gF : mg "fill_in" = some (.ref fF)
  gB : mg "is_beyond" = some (.ref fB)
  gN : mg "nearest_place" = some (.ref fN)
  gR : mg "reducing_product" = some (.ref fR)
  gG : mg "replace_in_filling" = some (.ref fG)
  gP : mg "replace_place" = some (.ref fP)
  gO : mg "has_other_place" = some (.ref fO)
theorem bigs_at {F : List (List Int)} {g : List Int} {i : Nat} (h : F[i]? = some g) : (F.map (big 1073741824))[i]? = some (big 1073741824 g) := by
  rw [List.getElem?_map, h]
  rfl
theorem ok_solve {f : Addr} {fd : FuncData} {k : Nat} {fF fB fN fR fG fP fO : Addr} {dF dB dN dR dG dP dO : FuncData} (F : Fun K "solve_equation" "solve_equation" sSolve f fd) (T : Gx mg)
    (C : Callees P w K mg base k fF fB fN fR fG fP fO dF dB dN dR dG dP dO) : FnOk P w K mg base CX0 (k + 1) f fd ["equation", "filling"] spSolve := by
  refine F.ok scSo (fun vs H Q E h => ?_) (fun cdv A outer s H vs Q E hr h => ?_)
  · obtain ⟨a, f, q, F, n, rfl, _⟩ := h
    rfl
  · obtain ⟨a, f, q, F, n, rfl, hA, hF, hn, cq, bq, R0, kL, kR⟩ := h
    refine ⟨_, pss_cons (ps_set (i := 2) scSo.nd rfl (.inl rfl) (pe_call C.F hr (by rfl) C.gF C.kF C.bF .nil pass0 (pa_cons (pv 0) (pa_cons (pv 1) pa_nil))))
      (pss_cons (ps_if (pt_val (pe_call C.B hr (by rfl) C.gB C.kB C.bB .nil pass0 (pa_cons (pv 2) (pa_cons (pe_num (by rfl) T.mr) pa_nil)))) (pss_one (ps_ret (pe_un un_neg pe_int))) pss_nil)
      (pss_cons (ps_while PassesOwn.never (pt_val (pe_callB (cr_anyI rfl) (by rfl) T.zany (by decide +kernel) (pa_cons (pe_slice sl_list (pv 2) (po_some (pe_num (by rfl) T.nm)) po_none) pa_nil)))
        (pss_cons (ps_set (i := 3) scSo.nd rfl (.inl rfl) (pe_call C.N hr (by rfl) C.gN C.kN C.bN .nil pass0 (pa_cons (pv 2) pa_nil)))
        (pss_cons (ps_set (i := 4) scSo.nd rfl (.inl rfl) (pe_call C.R hr (by rfl) C.gR C.kR C.bR .nil pass0 (pa_cons (pv 2) (pa_cons (pv 3) pa_nil))))
        (pss_cons (ps_expr (pe_call C.G hr (by rfl) C.gG C.kG C.bG .nil pass0 (pa_cons (pv 1) (pa_cons (pv 3) (pa_cons (pv 4) pa_nil)))))
        (pss_cons (ps_set (i := 2) scSo.nd rfl (.inl rfl) (pe_call C.Pl hr (by rfl) C.gP C.kP C.bP .nil pass0 (pa_cons (pv 2) (pa_cons (pv 3) (pa_cons (pv 4) pa_nil)))))
        (pss_cons (ps_if (pt_val (pe_callB (cr_any rfl) (by rfl) T.zany (by decide +kernel) (pa_cons
            (pe_lc (own := [("given", 5)]) (g := gName 5) (by rfl) scSo.nd (pi_list (pv 1))
              (blkOk_by (own := [("given", 5)]) (N := ["equation", "filling", "r", "p", "reducing", "given"]) (sc := defScope sSolve) (by decide +kernel))
              (fun _ _ _ _ _ => pg_name (i := 5) scSo.nd rfl (Or.inl rfl)) (fun _ _ _ _ _ => pts_nil)
              (fun _ _ _ _ _ => pe_call C.B hr (by rfl) C.gB C.kB C.bB .nil pass0 (pa_cons (pv 5) (pa_cons (pe_num (by rfl) T.mr) pa_nil)))) pa_nil)))
          (pss_one (ps_ret (pe_un un_neg pe_int))) pss_nil)
        (pss_one (ps_if (pt_not (pt_val (pe_call C.O hr (by rfl) C.gO C.kO C.bO .nil pass0 (pa_cons (pv 2) (pa_cons (pv 3) pa_nil)))))
          (pss_cons (ps_if (pt_val (pe_callB (cr_anyI rfl) (by rfl) T.zany (by decide +kernel) (pa_cons (pe_slice sl_list (pv 2) po_none (po_some (pe_num (by rfl) T.nm))) pa_nil))) (pss_one (ps_ret (pe_un un_neg pe_int))) pss_nil)
          (pss_cons (ps_expr (pe_call C.G hr (by rfl) C.gG C.kG C.bG .nil pass0 (pa_cons (pv 1) (pa_cons (pv 3) (pa_cons (pe_op op_rep (pe_lst (pa_cons pe_int pa_nil)) (pe_num (by rfl) T.wi)) pa_nil)))))
          (pss_one (ps_ret pe_int)))) pss_nil))))))))
      (pss_one (ps_ret (pe_ifExp (pt_val (pe_callB (cr_anyI rfl) (by rfl) T.zany (by decide +kernel) (pa_cons (pv 2) pa_nil))) (pe_un un_neg pe_int) pe_int))))), ?_⟩
    have cr0 : Clear n (fillIn q F) := fill_clear cq.1 R0.2.1
    -- r = fill_in(equation, filling)
    refine ⟨.ref a, rfl, .ref f, rfl, a, f, q, F, rfl, .inl (.inl hA), cq.1, hF, R0.w, by rw [R0.1]; exact hn, fits_of' bq, fun H1 b0 sm0 nb0 eb0 => ?_⟩
    -- if is_beyond(r, MOST_REACHED)
    refine ⟨.ref b0, rfl, b0, fillIn q F, 1073741824, rfl, .inl (.inl eb0), by rw [cr0.1]; decide, _, rfl, ?_⟩
    cases hb0 : big 1073741824 (fillIn q F) with
    | true =>
      refine iteT ⟨75, rfl, ?_⟩
      exact kL (-75) (by unfold solve; rw [hb0]; rfl) H1 ((Keep.refl f H).same sm0)
    | false =>
      refine iteF ?_
      have es : solve q F = one (2 ^ 31) F (fillIn q F) := by
        unfold solve
        rw [hb0]
        rfl
      refine ⟨fun m σ H' => ∃ (G : List (List Int)) (r : List Int) (b : Addr) (v3 v4 v5 : Option V), σ = [some (.ref a), some (.ref f), some (.ref b), v3, v4, v5] ∧ H' b = some (.lst (r.map V.int)) ∧ Keep f H H' ∧ RowsAt H' f G ∧
        Rows n G ∧ Clear n r ∧ big 1073741824 r = false ∧ Enough m r ∧ solve q F = one m G r, ⟨2 ^ 31, F, fillIn q F, b0, none, none, none, rfl, eb0, (Keep.refl f H).same sm0, hF.same sm0, R0, cr0, hb0, enough_first cr0.1 hb0, es⟩, ?_⟩
      rintro m σ H2 ⟨G, r, b, v3, v4, v5, rfl, eb, kp, hG, RG, cr, br, en, es2⟩
      -- any(r[MARKS:])
      refine ⟨.ref b, rfl, 8, rfl, b, _, rfl, .inl (.inl eb), fun c nc => ?_⟩
      rw [cut_a (x := 8) 8 rfl]
      have s1 := same_upd (o := .lst ((r.drop 8).map V.int)) nc
      have kp1 := kp.same s1
      have eb1 := s1 _ _ eb
      have hG1 := hG.same s1
      refine ⟨c, r.drop 8, rfl, .inl (.inl upd_same), _, rfl, ?_⟩
      obtain ⟨m, rfl⟩ : ∃ m', m = m' + 1 := ⟨m - 1, by have := en.1; omega⟩
      cases hz : nz (r.drop 8) with
      | false =>
        rw [one_none (near_of_z hz)] at es2
        refine iteF ?_
        refine ⟨.ref b, rfl, b, r, rfl, .inl (.inl eb1), _, rfl, ?_⟩
        cases hr2 : nz r with
        | true =>
          rw [hr2] at es2
          exact iteT ⟨61, rfl, kL (-61) es2 _ kp1⟩
        | false =>
          rw [hr2] at es2
          exact iteF (kR G es2 _ kp1 hG1)
      | true =>
        obtain ⟨p, hp⟩ := near_of_nz cr.1 hz
        obtain ⟨p1, p2, p3, _⟩ := near_at hp
        have pn := near_lt cr hp
        rw [one_some hp] at es2
        refine iteT ?_
        generalize hH3 : upd H2 c (.lst ((r.drop 8).map V.int)) = H3 at *
        refine ⟨fun σ H' => ∃ (G : List (List Int)) (r : List Int) (b : Addr) (v3 v4 v5 : Option V), σ = [some (.ref a), some (.ref f), some (.ref b), v3, v4, v5] ∧ H' b = some (.lst (r.map V.int)) ∧ Keep f H H' ∧ RowsAt H' f G ∧
          Rows n G ∧ Clear n r ∧ big 1073741824 r = false ∧ Enough m r ∧ solve q F = one m G r, fun σ' H' hN => ⟨m, Nat.lt_succ_self m, hN⟩, ?_⟩
        -- p = nearest_place(r)
        refine ⟨.ref b, rfl, b, r, rfl, .inl (.inl eb1), cr.1, ?_⟩
        rw [hp]
        -- reducing = reducing_product(r, p)
        refine ⟨.ref b, rfl, .int (p : Int), rfl, b, r, p, rfl, .inl (.inl eb1), cr.1, p2, p3, fits_of cr.1 br p, fun H4 x s4 nx ex => ?_⟩
        have cy := red_clear cr p1 pn hn
        -- replace_in_filling(filling, p, reducing)
        refine ⟨.ref f, rfl, .int (p : Int), rfl, .ref x, rfl, f, x, G, red r p, p, rfl, hG1.same s4, ex, RG.w, by rw [RG.1]; exact hn, cy.1, p2, fun g hg => fits_of (RG.w g hg) (RG.2.2 g hg) p, fun H5 k5 hG5 => ?_⟩
        have hfx : x ≠ f := (hG1.same s4).ne ex cy.1
        have hfb : b ≠ f := hG1.ne eb1 cr.1
        have eb5 := k5 _ _ (s4 _ _ eb1) hfb
        have ex5 := k5 _ _ ex hfx
        have kp5 := (kp1.same s4).trans k5
        -- r = replace_place(r, p, reducing)
        refine ⟨.ref b, rfl, .int (p : Int), rfl, .ref x, rfl, b, x, r, red r p, p, rfl, .inl (.inl eb5), .inl (.inl ex5), cr.1, cy.1, p2, fits_of cr.1 br p, fun H6 z s6 nz6 ez => ?_⟩
        have kp6 := kp5.same s6
        have hG6 := hG5.same s6
        have c1 := repl_clear cr cy pn hn
        have b1 := step_small cr.1 p2 p3 br
        generalize hr1 : repl p (red r p) r = r1 at *
        generalize hG1' : G.map (repl p (red r p)) = G1 at *
        have hG6' := hG6
        obtain ⟨as, g1, g2, g3⟩ := hG6'
        have wG1 : W32 G1 := by
          rw [← hG1']
          intro g hg
          obtain ⟨t, ht, rfl⟩ := List.mem_map.mp hg
          exact repl_len (RG.w t ht) cy.1
        have lG1 : G1.length = n := by rw [← hG1', List.length_map, RG.1]
        -- any([is_beyond(given, MOST_REACHED) for given in filling])
        refine ⟨.ref f, rfl, f, rfl, ⟨_, .inl (.inl g1)⟩, fun D nD => lc_list (K := K) (a := f) (xs := as.map V.ref) (fun i H' => Same H6 H' ∧ H' D = some (.lst (((G1.map (big 1073741824)).take i).map V.bl)))
          ⟨same_upd nD, upd_same⟩ (fun i H' _ z => .inl (.inl (z.1 _ _ g1))) ?_ ?_⟩
        · rintro i v H' hv ⟨s7, hD⟩
          rw [List.getElem?_map] at hv
          obtain ⟨t, et, rfl⟩ := Option.map_eq_some_iff.mp hv
          have hi := (List.getElem?_eq_some_iff.mp et).1
          obtain ⟨g, hg⟩ : ∃ g, G1[i]? = some g := ⟨_, List.getElem?_eq_getElem (by omega)⟩
          refine ⟨rfl, yes ?_⟩
          refine ⟨.ref t, rfl, t, g, 1073741824, rfl, .inl (.inl (s7 _ _ (g3 i t g et hg))), by rw [wG1 g (List.mem_of_getElem? hg)]; decide, _, hD, ?_, ?_, ?_⟩
          · rw [List.length_map, List.length_take, List.length_map]
            exact small1000 (by omega)
          · intro b' o e
            rw [upd_ne (ne_of_none e nD)]
            exact s7 b' o e
          · rw [upd_same, take_snoc (bigs_at hg), List.map_append]
            rfl
        · rintro H7 ⟨s7, hD⟩
          rw [List.length_map, List.take_of_length_le (by rw [List.length_map]; omega)] at hD
          refine ⟨D, G1.map (big 1073741824), rfl, .inl (.inl hD), _, rfl, ?_⟩
          have eA : (G1.map (big 1073741824)).any id = G1.any (big 1073741824) := by
            rw [List.any_map]
            rfl
          rw [eA]
          have kp7 := kp6.same s7
          have hG7 := hG6.same s7
          have ez7 := s7 _ _ ez
          cases hbg : G1.any (big 1073741824) with
          | true =>
            rw [hbg] at es2
            exact iteT ⟨75, rfl, kL (-75) es2 _ kp7⟩
          | false =>
            rw [hbg] at es2
            have es3 : solve q F = if other r1 p then one m G1 r1 else if nz (r1.take 8) then .inl (-61) else .inr (G1.map (repl p zero)) := es2
            have RG1 : Rows n G1 := by
              rw [← hG1']
              exact rows_step hn RG cy pn (by rw [hG1']; exact hbg)
            refine iteF ?_
            -- if not has_other_place(r, p)
            refine ⟨.ref z, rfl, .int (p : Int), rfl, z, r1, p, rfl, .inl (.inl ez7), c1.1, fun H8 s8 => ⟨_, rfl, ?_⟩⟩
            have kp8 := kp7.same s8
            have hG8 := hG7.same s8
            have ez8 := s8 _ _ ez7
            cases ho : other r1 p with
            | true =>
              rw [ho] at es3
              refine iteF ?_
              exact ⟨G1, r1, z, _, _, _, rfl, ez8, kp8, hG8, RG1, c1, b1, by rw [← hr1]; exact enough_next cr.1 en hp (by rw [hr1]; exact ho), es3⟩
            | false =>
              rw [ho] at es3
              have es4 : solve q F = if nz (r1.take 8) then .inl (-61) else .inr (G1.map (repl p zero)) := es3
              refine iteT ?_
              -- if any(r[:MARKS])
              refine ⟨.ref z, rfl, 8, rfl, z, _, rfl, .inl (.inl ez8), fun c2 nc2 => ?_⟩
              rw [cut_0b (y := 8) 8 rfl]
              have s9 := same_upd (o := .lst ((r1.take 8).map V.int)) nc2
              have kp9 := kp8.same s9
              have hG9 := hG8.same s9
              refine ⟨c2, r1.take 8, rfl, .inl (.inl upd_same), _, rfl, ?_⟩
              cases hm : nz (r1.take 8) with
              | true =>
                rw [hm] at es4
                exact iteT ⟨61, rfl, kL (-61) es4 _ kp9⟩
              | false =>
                rw [hm] at es4
                refine iteF ?_
                -- replace_in_filling(filling, p, [0] * WIDTH)
                refine ⟨.ref f, rfl, .int (p : Int), rfl, by show 1 ≤ sizeLine; decide, fun y1 ny1 => ?_⟩
                have s10 := same_upd (o := .lst [V.int 0]) ny1
                refine ⟨y1, 32, [.int 0], rfl, rfl, upd_same, by decide, by decide, by show 1 * 32 ≤ sizeLine; decide, fun y2 ny2 => ?_⟩
                have s11 := same_upd (o := .lst (List.replicate (32 : Int).toNat [V.int 0]).flatten) ny2
                refine ⟨f, y2, G1, zero, p, rfl, (hG9.same s10).same s11, upd_same, wG1, by rw [lG1]; exact hn, rfl, p2, fun g hg => fits_of (wG1 g hg) (RG1.2.2 g hg) p, fun H12 k12 hG12 => ?_⟩
                exact kR _ es4 _ (((kp9.same s10).same s11).trans k12) hG12
end
end Pf

namespace Pf
open PySem PySem.Spec PyProof.Rows L2
theorem all_inl {k : Nat} {F : List (List Int)} {q : List Int} {l : List (List Int)} {v : Int} (h : solve q F = .inl v) : all k F (q :: l) = .inl (v, k) := by
  unfold all
  rw [h]
theorem all_inr {k : Nat} {F G : List (List Int)} {q : List Int} {l : List (List Int)} (h : solve q F = .inr G) : all k F (q :: l) = all (k + 1) G l := by
  conv => lhs; unfold all
  rw [h]
section
variable {P : Program} {w : World} {K : PySem.W.Frag} {mg : Str → Option Value} {base : Heap}
/-! ### pw_solve -/
def spAns (K : PySem.W.Frag) : Sp := fun vs H Q _ => ∃ (n : Nat) (a : Addr) (e : List Int) (q : List (List Int)), vs = [.int (n : Int), .ref a] ∧ SqL K H a (e.map V.int) ∧ Wrote e q ∧ q.length ≤ 300 ∧
  ∀ (H' : Hp) (p : Addr), H' p = some (.lst ((ans n q).map V.int)) → Q (.ref p) H'
theorem scA : FnScope ["n", "e", "equations", "filling", "at", "equation", "answered", "place"] ["n", "e"] (defScope sAns) := ⟨rfl, rfl, rfl, by decide +kernel, rfl, by decide +kernel, by decide +kernel⟩
structure Used (P : Program) (w : World) (K : PySem.W.Frag) (mg : Str → Option Value) (base : Heap) (k : Nat) (fR fF fI fS fW : Addr) (dR dF dI dS dW : FuncData) : Prop where
  R : FnOk P w K mg base CX0 k fR dR ["e"] (spRead K)
  F : FnOk P w K mg base CX0 k fF dF ["n", "equations"] spRefused
  I : FnOk P w K mg base CX0 k fI dI ["place"] spItself
  S : FnOk P w K mg base CX0 k fS dS ["equation", "filling"] spSolve
  W : FnOk P w K mg base CX0 k fW dW ["filling"] spWrite
  kR : PySem.W.keepIn K (.ref fR) = true
  kF : PySem.W.keepIn K (.ref fF) = true
  kI : PySem.W.keepIn K (.ref fI) = true
  kS : PySem.W.keepIn K (.ref fS) = true
  kW : PySem.W.keepIn K (.ref fW) = true
  bR : Binds K dR ["e"] []
  bF : Binds K dF ["n", "equations"] []
  bI : Binds K dI ["place"] []
  bS : Binds K dS ["equation", "filling"] []
  bW : Binds K dW ["filling"] []
  gR : mg "read_products" = some (.ref fR)
  gF : mg "is_refused" = some (.ref fF)
  gI : mg "place_itself" = some (.ref fI)
  gS : mg "solve_equation" = some (.ref fS)
  gW : mg "write_filling" = some (.ref fW)
theorem its_take {n i : Nat} (h : i < n) : ((List.range n).map it)[i]? = some (it i) := by
  rw [List.getElem?_map, List.getElem?_range h]
  rfl
theorem ok_ans {f : Addr} {fd : FuncData} {k : Nat} {fR fF fI fS fW : Addr} {dR dF dI dS dW : FuncData} (F : Fun K "pw_solve" "pw_solve" sAns f fd) (T : Gx mg)
    (C : Used P w K mg base k fR fF fI fS fW dR dF dI dS dW) : FnOk P w K mg base CX0 (k + 1) f fd ["n", "e"] (spAns K) := by
  refine F.ok scA (fun vs H Q E h => ?_) (fun cdv A outer s H vs Q E hr h => ?_)
  · obtain ⟨n, a, e, q, rfl, _⟩ := h
    rfl
  · obtain ⟨n, a, e, q, rfl, hA, hW, hq, qq⟩ := h
    refine ⟨_, pss_cons (ps_set (i := 2) scA.nd rfl (.inl rfl) (pe_call C.R hr (by rfl) C.gR C.kR C.bR .nil pass0 (pa_cons (pv 1) pa_nil)))
      (pss_cons (ps_if (pt_val (pe_call C.F hr (by rfl) C.gF C.kF C.bF .nil pass0 (pa_cons (pv 0) (pa_cons (pv 2) pa_nil)))) (pss_one (ps_ret (pe_lst (pa_cons pe_int (pa_cons (pe_un un_neg pe_int) pa_nil))))) pss_nil)
      (pss_cons (ps_setLc (i := 3) (own := [("place", 7)]) (g := gName 7) (by rfl) scA.nd rfl rfl (sw_true rfl rfl rfl (by decide +kernel)) (pi_range1 (by rfl) T.zrange (pa_cons (pv 0) pa_nil))
        (blkOk_by (own := [("place", 7)]) (N := ["n", "e", "equations", "filling", "at", "equation", "answered", "place"]) (sc := defScope sAns) (by decide +kernel))
        (fun _ _ _ _ _ => pg_name (i := 7) scA.nd rfl (Or.inl rfl)) (fun _ _ _ _ _ => pts_nil)
        (fun _ _ _ _ _ => pe_call C.I hr (by rfl) C.gI C.kI C.bI .nil pass0 (pa_cons (pv 7) pa_nil)))
      (pss_cons (ps_for PassesOwn.never rfl (pi_enum (by rfl) T.zenum (pa_cons (pv 2) pa_nil)) (pg_tup rfl (pgs_cons (pg_name (i := 4) scA.nd rfl (.inl rfl)) (pgs_cons (pg_name (i := 5) scA.nd rfl (.inl rfl)) pgs_nil)))
        (pss_cons (ps_set (i := 6) scA.nd rfl (.inl rfl) (pe_call C.S hr (by rfl) C.gS C.kS C.bS .nil pass0 (pa_cons (pv 5) (pa_cons (pv 3) pa_nil))))
        (pss_one (ps_if (pt_cmpR op_ne (pv 6) pe_int (nomark _)) (pss_one (ps_ret (pe_lst (pa_cons pe_int (pa_cons (pv 6) (pa_cons (pv 4) pa_nil)))))) pss_nil))))
      (pss_one (ps_ret (pe_op op_cat (pe_lst (pa_cons pe_int pa_nil)) (pe_call C.W hr (by rfl) C.gW C.kW C.bW .nil pass0 (pa_cons (pv 3) pa_nil)))))))), ?_⟩
    -- equations = read_products(e)
    refine ⟨.ref a, rfl, a, e, q, rfl, hA, hW, hq, fun H1 d s1 nd hd => ?_⟩
    have wq : W32 q := hW.1
    -- if is_refused(n, equations)
    refine ⟨.int (n : Int), rfl, .ref d, rfl, n, d, q, rfl, hd, wq, fun H2 s2 => ⟨_, rfl, ?_⟩⟩
    have hd2 := hd.same s2
    cases hrf : refused n q with
    | true =>
      refine iteT ⟨22, rfl, by show 2 ≤ sizeLine; decide, fun p np => qq _ p ?_⟩
      unfold ans
      rw [hrf]
      exact upd_same
    | false =>
      refine iteF ?_
      obtain ⟨hn, cq, bq⟩ := refused_clear wq hrf
      have ea : ans n q = match all 0 ((List.range n).map it) q with
          | .inl (v, k) => [1, v, (k : Int)]
          | .inr F => 2 :: wr F := by
        unfold ans
        rw [hrf]
        rfl
      -- filling = [place_itself(place) for place in range(n)]
      refine ⟨.int (n : Int), rfl, (n : Int), rfl, by omega, by omega, fun D nD => lc_range (lo := 0) (n := (n : Int).toNat) (fun i H' => Same H2 H' ∧ RowsAt H' D (((List.range n).map it).take i))
        ⟨same_upd nD, [], upd_same, rfl, fun i a g e1 _ => by cases e1⟩ ?_ ?_⟩
      · rintro i H' hi ⟨s3, as, h1, h2, h3⟩
        rw [Int.toNat_natCast] at hi
        refine ⟨rfl, yes ?_⟩
        refine ⟨.int (0 + (i : Int)), rfl, i, by rw [Int.zero_add]; rfl, by omega, fun H4 p s4 np ep => ?_⟩
        refine ⟨as.map V.ref, s4 _ _ h1, ?_, fun b o e => ?_, ?_⟩
        · rw [List.length_map, h2, List.length_take]
          exact small1000 (by omega)
        · rw [upd_ne (ne_of_none e nD)]
          exact s4 _ _ (s3 _ _ e)
        · rw [take_snoc (its_take hi)]
          exact rows_push (s4 _ _ h1) h2 (fun j a' u e1 e2 => s4 _ _ (h3 j a' u e1 e2)) (fun u hu => (its_rows hn).w u (List.mem_of_mem_take hu)) ep (it_len i)
      · rintro H3 ⟨s3, hD⟩
        rw [Int.toNat_natCast, List.take_of_length_le (by simp)] at hD
        have hd3 := hd2.same s3
        have ne : d ≠ D := by
          obtain ⟨as, h1, _⟩ := hd2
          exact ne_of_none h1 nD
        obtain ⟨as0, a1, a2, a3⟩ := hd3
        -- for at, equation in enumerate(equations)
        refine ⟨.ref d, rfl, d, _, rfl, .inl (.inl a1), for_it (walk_enum (K := K) (a := d) (xs := as0.map V.ref))
          (fun i σ H' => ∃ (G : List (List Int)) (v4 v5 v6 v7 : Option V), σ = [some (.int (n : Int)), some (.ref a), some (.ref d), some (.ref D), v4, v5, v6, v7] ∧ RowsAt H' D G ∧ Rows n G ∧
            H' d = some (.lst (as0.map V.ref)) ∧ (∀ (i : Nat) (a : Addr) (g : List Int), as0[i]? = some a → q[i]? = some g → H' a = some (.lst (g.map V.int))) ∧ all i G (q.drop i) = all 0 ((List.range n).map it) q)
          ⟨_, none, none, none, none, rfl, hD, its_rows hn, a1, a3, rfl⟩ (fun i σ H' _ ⟨_, _, _, _, _, _, _, _, z, _⟩ => .inl (.inl z)) ?_ ?_⟩
        · rintro i v σ H4 H5 hi ⟨G, v4, v5, v6, v7, rfl, hG, RG, b1, b3, hall⟩ ⟨t, u1, u2, rfl, nt, rfl, g1, g2⟩
          rw [List.length_map] at hi
          cases g1
          obtain ⟨b, hb⟩ : ∃ b, as0[i]? = some b := ⟨_, List.getElem?_eq_getElem hi⟩
          have hi2 : i < q.length := by omega
          obtain ⟨g, hg⟩ : ∃ g, q[i]? = some g := ⟨_, List.getElem?_eq_getElem hi2⟩
          have g2' : (as0.map V.ref)[i]? = some u2 := g2
          rw [List.getElem?_map, hb] at g2'
          obtain rfl : u2 = .ref b := (Option.some.inj g2').symm
          have st := same_upd (o := .tup [.int (i : Int), .ref b]) nt
          have gm := List.mem_of_getElem? hg
          have eg := st _ _ (b3 i b g hb hg)
          have hG5 := hG.same st
          have hdr : q.drop i = g :: q.drop (i + 1) := by
            rw [List.drop_eq_getElem_cons hi2, (List.getElem?_eq_some_iff.mp hg).2]
          rw [hdr] at hall
          refine ⟨t, [_, _], rfl, .inl (.inl upd_same), rfl, _, [_], rfl, _, [], rfl, rfl, ?_⟩
          refine ⟨.ref b, rfl, .ref D, rfl, b, D, g, G, n, rfl, eg, hG5, hn, cq g gm, bq g gm, RG, fun v hv H6 k6 => ?_, fun G2 hG2 H6 k6 hR6 => ?_⟩
          · refine ⟨.int v, rfl, rfl, _, rfl, ?_⟩
            rw [show decide (V.int v = V.int 0) = false from decide_eq_false fun z => solve_neg hv (V.int.inj z)]
            refine iteT ⟨.int v, rfl, .int (i : Int), rfl, by show 3 ≤ sizeLine; decide, fun p np => qq _ p ?_⟩
            rw [all_inl hv] at hall
            rw [ea, ← hall]
            exact upd_same
          · refine ⟨.int 0, rfl, rfl, _, rfl, ?_⟩
            refine iteF ?_
            rw [all_inr hG2] at hall
            refine ⟨G2, _, _, _, _, rfl, hR6, solve_rows hn RG (cq g gm) hG2, k6 _ _ (st _ _ b1) ne, fun j a' u e1 e2 => k6 _ _ (st _ _ (b3 j a' u e1 e2)) (hG5.ne (st _ _ (b3 j a' u e1 e2)) (wq u (List.mem_of_getElem? e2))), hall⟩
        · rintro σ H4 ⟨G, v4, v5, v6, v7, rfl, hG, RG, b1, b3, hall⟩
          rw [List.length_map, a2, List.drop_length] at hall
          have hall' : all 0 ((List.range n).map it) q = .inr G := hall.symm
          -- [2] + write_filling(filling)
          refine ⟨by show 1 ≤ sizeLine; decide, fun x nx => ?_⟩
          have sx := same_upd (o := .lst [V.int 2]) nx
          refine ⟨.ref D, rfl, D, G, rfl, hG.same sx, RG.w, by rw [RG.1]; exact hn, fun H5 y s5 ny ey => ?_⟩
          refine ⟨x, y, _, _, rfl, rfl, s5 _ _ upd_same, ey, ?_, fun p np => qq _ p ?_⟩
          · have lw : (wr G).length ≤ 900 := by
              have := wrTo_len RG.w (i := 24) (by omega)
              unfold wrTo at this
              rw [List.take_of_length_le (by rw [RG.1]; exact hn)] at this
              exact this
            rw [List.length_map]
            exact small_len (show 1 + (wr G).length ≤ 1000 by omega)
          · rw [upd_same, ea, hall']
            rfl
end
end Pf

namespace Pf
open PySem PySem.Spec PyProof.Rows L2
open PySem.W (Codec)
/-! ### What the top has written -/
theorem all_mk {P : Program} {w : World} {K : PySem.W.Frag} {h : Heap} {mg : Str → Option Value} {fa f1 f2 f3 f4 f5 f6 f7 f8 f9 f10 f11 f12 f13 : Addr} (X : K.In h) (G : h.Ns mainGlobals mg) (hfa : mg "pw_solve" = some (.ref fa))
    {od1 an1 od2 an2 od3 an3 od4 an4 od5 an5 od6 an6 od7 an7 od8 an8 od9 an9 od10 an10 od11 an11 od12 an12 od13 an13 : Option Addr} {sl1 sl2 sl3 sl4 sl5 sl6 sl7 sl8 sl9 sl10 sl11 sl12 sl13 : Array (Option Value)} {oc1 kV1 dc1 pm1 cd1 ct1 oc2 kV2 dc2 pm2 cd2 ct2 oc3 kV3 dc3 pm3 cd3 ct3 oc4 kV4 dc4 pm4 cd4 ct4 oc5 kV5 dc5 pm5 cd5 ct5 oc6 kV6 dc6 pm6 cd6 ct6 oc7 kV7 dc7 pm7 cd7 ct7 oc8 kV8 dc8 pm8 cd8 ct8 oc9 kV9 dc9 pm9 cd9 ct9 oc10 kV10 dc10 pm10 cd10 ct10 oc11 kV11 dc11 pm11 cd11 ct11 oc12 kV12 dc12 pm12 cd12 ct12 oc13 kV13 dc13 pm13 cd13 ct13 : Value} {t1 t2 t3 t4 t5 t6 t7 : Tok}
    (a1 : PySem.W.nsIn K mainGlobals "read_products" = some (some (.ref f1))) (l1 : K.lookup f1 = some ⟨oc1, od1, .func (PySem.W.fnOf "read_products" "read_products" (defArgs sRead) (defBody sRead) (defScope sRead) .none kV1 dc1 pm1 an1 cd1 ct1), sl1⟩) (c1 : PySem.W.codeIn K cd1 "read_products" = true) (k1 : PySem.W.keepIn K (.ref f1) = true)
    (a2 : PySem.W.nsIn K mainGlobals "write_filling" = some (some (.ref f2))) (l2 : K.lookup f2 = some ⟨oc2, od2, .func (PySem.W.fnOf "write_filling" "write_filling" (defArgs sWrite) (defBody sWrite) (defScope sWrite) .none kV2 dc2 pm2 an2 cd2 ct2), sl2⟩) (c2 : PySem.W.codeIn K cd2 "write_filling" = true) (k2 : PySem.W.keepIn K (.ref f2) = true)
    (a3 : PySem.W.nsIn K mainGlobals "is_beyond" = some (some (.ref f3))) (l3 : K.lookup f3 = some ⟨oc3, od3, .func (PySem.W.fnOf "is_beyond" "is_beyond" (defArgs sBeyond) (defBody sBeyond) (defScope sBeyond) .none kV3 dc3 pm3 an3 cd3 ct3), sl3⟩) (c3 : PySem.W.codeIn K cd3 "is_beyond" = true) (k3 : PySem.W.keepIn K (.ref f3) = true)
    (a4 : PySem.W.nsIn K mainGlobals "is_refused" = some (some (.ref f4))) (l4 : K.lookup f4 = some ⟨oc4, od4, .func (PySem.W.fnOf "is_refused" "is_refused" (defArgs sRefused) (defBody sRefused) (defScope sRefused) .none kV4 dc4 pm4 an4 cd4 ct4), sl4⟩) (c4 : PySem.W.codeIn K cd4 "is_refused" = true) (k4 : PySem.W.keepIn K (.ref f4) = true)
    (a5 : PySem.W.nsIn K mainGlobals "place_itself" = some (some (.ref f5))) (l5 : K.lookup f5 = some ⟨oc5, od5, .func (PySem.W.fnOf "place_itself" "place_itself" (defArgs sItself) (defBody sItself) (defScope sItself) .none kV5 dc5 pm5 an5 cd5 ct5), sl5⟩) (c5 : PySem.W.codeIn K cd5 "place_itself" = true) (k5 : PySem.W.keepIn K (.ref f5) = true)
    (a6 : PySem.W.nsIn K mainGlobals "fill_in" = some (some (.ref f6))) (l6 : K.lookup f6 = some ⟨oc6, od6, .func (PySem.W.fnOf "fill_in" "fill_in" (defArgs sFill) (defBody sFill) (defScope sFill) .none kV6 dc6 pm6 an6 cd6 ct6), sl6⟩) (c6 : PySem.W.codeIn K cd6 "fill_in" = true) (k6 : PySem.W.keepIn K (.ref f6) = true)
    (a7 : PySem.W.nsIn K mainGlobals "nearest_place" = some (some (.ref f7))) (l7 : K.lookup f7 = some ⟨oc7, od7, .func (PySem.W.fnOf "nearest_place" "nearest_place" (defArgs sNear) (defBody sNear) (defScope sNear) .none kV7 dc7 pm7 an7 cd7 ct7), sl7⟩) (c7 : PySem.W.codeIn K cd7 "nearest_place" = true) (k7 : PySem.W.keepIn K (.ref f7) = true)
    (a8 : PySem.W.nsIn K mainGlobals "has_other_place" = some (some (.ref f8))) (l8 : K.lookup f8 = some ⟨oc8, od8, .func (PySem.W.fnOf "has_other_place" "has_other_place" (defArgs sOther) (defBody sOther) (defScope sOther) .none kV8 dc8 pm8 an8 cd8 ct8), sl8⟩) (c8 : PySem.W.codeIn K cd8 "has_other_place" = true) (k8 : PySem.W.keepIn K (.ref f8) = true)
    (a9 : PySem.W.nsIn K mainGlobals "reducing_product" = some (some (.ref f9))) (l9 : K.lookup f9 = some ⟨oc9, od9, .func (PySem.W.fnOf "reducing_product" "reducing_product" (defArgs sRed) (defBody sRed) (defScope sRed) .none kV9 dc9 pm9 an9 cd9 ct9), sl9⟩) (c9 : PySem.W.codeIn K cd9 "reducing_product" = true) (k9 : PySem.W.keepIn K (.ref f9) = true)
    (a10 : PySem.W.nsIn K mainGlobals "replace_place" = some (some (.ref f10))) (l10 : K.lookup f10 = some ⟨oc10, od10, .func (PySem.W.fnOf "replace_place" "replace_place" (defArgs sRepl) (defBody sRepl) (defScope sRepl) .none kV10 dc10 pm10 an10 cd10 ct10), sl10⟩) (c10 : PySem.W.codeIn K cd10 "replace_place" = true) (k10 : PySem.W.keepIn K (.ref f10) = true)
    (a11 : PySem.W.nsIn K mainGlobals "replace_in_filling" = some (some (.ref f11))) (l11 : K.lookup f11 = some ⟨oc11, od11, .func (PySem.W.fnOf "replace_in_filling" "replace_in_filling" (defArgs sReplF) (defBody sReplF) (defScope sReplF) .none kV11 dc11 pm11 an11 cd11 ct11), sl11⟩) (c11 : PySem.W.codeIn K cd11 "replace_in_filling" = true) (k11 : PySem.W.keepIn K (.ref f11) = true)
    (a12 : PySem.W.nsIn K mainGlobals "solve_equation" = some (some (.ref f12))) (l12 : K.lookup f12 = some ⟨oc12, od12, .func (PySem.W.fnOf "solve_equation" "solve_equation" (defArgs sSolve) (defBody sSolve) (defScope sSolve) .none kV12 dc12 pm12 an12 cd12 ct12), sl12⟩) (c12 : PySem.W.codeIn K cd12 "solve_equation" = true) (k12 : PySem.W.keepIn K (.ref f12) = true)
    (a13 : PySem.W.nsIn K mainGlobals "pw_solve" = some (some (.ref f13))) (l13 : K.lookup f13 = some ⟨oc13, od13, .func (PySem.W.fnOf "pw_solve" "pw_solve" (defArgs sAns) (defBody sAns) (defScope sAns) .none kV13 dc13 pm13 an13 cd13 ct13), sl13⟩) (c13 : PySem.W.codeIn K cd13 "pw_solve" = true) (k13 : PySem.W.keepIn K (.ref f13) = true)
    (n1 : PySem.W.nsIn K mainGlobals "MARKS" = some (some (.int 8 t1)))
    (n2 : PySem.W.nsIn K mainGlobals "PLACES" = some (some (.int 24 t2)))
    (n3 : PySem.W.nsIn K mainGlobals "WIDTH" = some (some (.int 32 t3)))
    (n4 : PySem.W.nsIn K mainGlobals "WRITTEN_WIDTH" = some (some (.int 34 t4)))
    (n5 : PySem.W.nsIn K mainGlobals "MOST_EQUATIONS" = some (some (.int 256 t5)))
    (n6 : PySem.W.nsIn K mainGlobals "MOST_GIVEN" = some (some (.int 1048576 t6)))
    (n7 : PySem.W.nsIn K mainGlobals "MOST_REACHED" = some (some (.int 1073741824 t7)))
    (z1 : PySem.W.nsIn K mainGlobals "range" = some none)
    (z2 : PySem.W.nsIn K mainGlobals "len" = some none)
    (z3 : PySem.W.nsIn K mainGlobals "max" = some none)
    (z4 : PySem.W.nsIn K mainGlobals "min" = some none)
    (z5 : PySem.W.nsIn K mainGlobals "any" = some none)
    (z6 : PySem.W.nsIn K mainGlobals "zip" = some none)
    (z7 : PySem.W.nsIn K mainGlobals "enumerate" = some none)
    (z8 : PySem.W.nsIn K mainGlobals "abs" = some none) :
    ∃ fd : FuncData, (∀ (s : Shared) (us : List Value), us.length = (["n", "e"] : List Str).length → BindsTo s fd ⟨us, []⟩ ((["n", "e"] : List Str).zip us)) ∧ ∀ base : Heap, K.In base → base.Ns mainGlobals mg → FnOk P w K mg base CX0 4 fa fd ["n", "e"] (spAns K) := by
  have e := hfa.symm.trans (PySem.W.mg_of X G a13)
  cases e
  have T : Gx mg := ⟨⟨_, PySem.W.mg_of X G n1⟩, ⟨_, PySem.W.mg_of X G n2⟩, ⟨_, PySem.W.mg_of X G n3⟩, ⟨_, PySem.W.mg_of X G n4⟩, ⟨_, PySem.W.mg_of X G n5⟩, ⟨_, PySem.W.mg_of X G n6⟩, ⟨_, PySem.W.mg_of X G n7⟩, PySem.W.mg_none_of X G z1, PySem.W.mg_none_of X G z2, PySem.W.mg_none_of X G z3, PySem.W.mg_none_of X G z4, PySem.W.mg_none_of X G z5, PySem.W.mg_none_of X G z6, PySem.W.mg_none_of X G z7, PySem.W.mg_none_of X G z8⟩
  have F1 := fun_mk (st := sRead) l1 c1 k1
  have F2 := fun_mk (st := sWrite) l2 c2 k2
  have F3 := fun_mk (st := sBeyond) l3 c3 k3
  have F4 := fun_mk (st := sRefused) l4 c4 k4
  have F5 := fun_mk (st := sItself) l5 c5 k5
  have F6 := fun_mk (st := sFill) l6 c6 k6
  have F7 := fun_mk (st := sNear) l7 c7 k7
  have F8 := fun_mk (st := sOther) l8 c8 k8
  have F9 := fun_mk (st := sRed) l9 c9 k9
  have F10 := fun_mk (st := sRepl) l10 c10 k10
  have F11 := fun_mk (st := sReplF) l11 c11 k11
  have F12 := fun_mk (st := sSolve) l12 c12 k12
  have F13 := fun_mk (st := sAns) l13 c13 k13
  have b1 := F1.binds (ps := ["e"]) fun _ _ _ _ _ _ us hl => match us, hl with | [_], _ => rfl
  have b2 := F2.binds (ps := ["filling"]) fun _ _ _ _ _ _ us hl => match us, hl with | [_], _ => rfl
  have b3 := F3.binds (ps := ["product", "most"]) fun _ _ _ _ _ _ us hl => match us, hl with | [_, _], _ => rfl
  have b4 := F4.binds (ps := ["n", "equations"]) fun _ _ _ _ _ _ us hl => match us, hl with | [_, _], _ => rfl
  have b5 := F5.binds (ps := ["place"]) fun _ _ _ _ _ _ us hl => match us, hl with | [_], _ => rfl
  have b6 := F6.binds (ps := ["product", "filling"]) fun _ _ _ _ _ _ us hl => match us, hl with | [_, _], _ => rfl
  have b7 := F7.binds (ps := ["r"]) fun _ _ _ _ _ _ us hl => match us, hl with | [_], _ => rfl
  have b8 := F8.binds (ps := ["r", "p"]) fun _ _ _ _ _ _ us hl => match us, hl with | [_, _], _ => rfl
  have b9 := F9.binds (ps := ["r", "p"]) fun _ _ _ _ _ _ us hl => match us, hl with | [_, _], _ => rfl
  have b10 := F10.binds (ps := ["product", "p", "other"]) fun _ _ _ _ _ _ us hl => match us, hl with | [_, _, _], _ => rfl
  have b11 := F11.binds (ps := ["filling", "p", "other"]) fun _ _ _ _ _ _ us hl => match us, hl with | [_, _, _], _ => rfl
  have b12 := F12.binds (ps := ["equation", "filling"]) fun _ _ _ _ _ _ us hl => match us, hl with | [_, _], _ => rfl
  have g1 := PySem.W.mg_of X G a1
  have g2 := PySem.W.mg_of X G a2
  have g3 := PySem.W.mg_of X G a3
  have g4 := PySem.W.mg_of X G a4
  have g5 := PySem.W.mg_of X G a5
  have g6 := PySem.W.mg_of X G a6
  have g7 := PySem.W.mg_of X G a7
  have g8 := PySem.W.mg_of X G a8
  have g9 := PySem.W.mg_of X G a9
  have g10 := PySem.W.mg_of X G a10
  have g11 := PySem.W.mg_of X G a11
  have g12 := PySem.W.mg_of X G a12
  refine ⟨PySem.W.fnOf "pw_solve" "pw_solve" (defArgs sAns) (defBody sAns) (defScope sAns) .none kV13 dc13 pm13 an13 cd13 ct13, fun s us hu => match us, hu with | [_, _], _ => .of_eq rfl, fun base _ _ => ?_⟩
  have B : FnOk P w K mg base CX0 2 f3 _ ["product", "most"] (spBeyond K) := ok_beyond F3 T
  have R : FnOk P w K mg base CX0 3 f1 _ ["e"] (spRead K) := ok_read F1 T
  have W : FnOk P w K mg base CX0 3 f2 _ ["filling"] spWrite := ok_write F2 T
  have Rf : FnOk P w K mg base CX0 3 f4 _ ["n", "equations"] spRefused := ok_refused F4 T B k3 b3 g3
  have I : FnOk P w K mg base CX0 3 f5 _ ["place"] spItself := ok_itself F5 T
  have Fi : FnOk P w K mg base CX0 2 f6 _ ["product", "filling"] (spFill K) := ok_fill F6 T
  have N : FnOk P w K mg base CX0 2 f7 _ ["r"] (spNear K) := ok_near F7 T
  have O : FnOk P w K mg base CX0 2 f8 _ ["r", "p"] (spOther K) := ok_other F8 T
  have Rd : FnOk P w K mg base CX0 2 f9 _ ["r", "p"] (spRed K) := ok_red F9 T
  have Rp : FnOk P w K mg base CX0 2 f10 _ ["product", "p", "other"] (spRepl K) := ok_repl F10 T
  have Rp1 : FnOk P w K mg base CX0 1 f10 _ ["product", "p", "other"] (spRepl K) := ok_repl F10 T
  have Rg : FnOk P w K mg base CX0 2 f11 _ ["filling", "p", "other"] spReplF := ok_replF F11 T Rp1 k10 b10 g10
  have S : FnOk P w K mg base CX0 3 f12 _ ["equation", "filling"] spSolve := ok_solve F12 T ⟨Fi, B, N, Rd, Rg, Rp, O, k6, k3, k7, k9, k11, k10, k8, b6, b3, b7, b9, b11, b10, b8, g6, g3, g7, g9, g11, g10, g8⟩
  exact ok_ans F13 T ⟨R, Rf, I, S, W, k1, k4, k5, k12, k2, b1, b4, b5, b12, b2, g1, g4, g5, g12, g2⟩
end Pf
open PySem PySem.W PyProof.Rows
set_option maxRecDepth 100000 in
set_option maxHeartbeats 8000000 in
theorem PySem.Challenge.cw_powerfill_s01_pw_solve_holds : PySem.Challenge.rw_powerfill_s01_pw_solve.Holds := by
  w_on; k_headS; (case hw => exact ⟨[.int 0, .list [.int 0]], by decide +kernel, by decide +kernel⟩)
  k_fillS
  refine L2.walk_specK (r := PySem.Challenge.rw_powerfill_s01_pw_solve) (k := 4) (CX := L2.CX0) (ps := ["n", "e"]) (sp := Pf.spAns) (by decide +kernel) rfl rfl ⟨rfl, by decide, by decide⟩ (fun w h Y => PySem.W.kIn_of Y) ?F ?S (fun _ _ _ _ z => z)
  case F =>
    intro w mg fa h Y KX G hmg
    refine' Pf.all_mk KX G hmg ?a1 ?l1 ?c1 ?k1 ?a2 ?l2 ?c2 ?k2 ?a3 ?l3 ?c3 ?k3 ?a4 ?l4 ?c4 ?k4 ?a5 ?l5 ?c5 ?k5 ?a6 ?l6 ?c6 ?k6 ?a7 ?l7 ?c7 ?k7 ?a8 ?l8 ?c8 ?k8 ?a9 ?l9 ?c9 ?k9 ?a10 ?l10 ?c10 ?k10 ?a11 ?l11 ?c11 ?k11 ?a12 ?l12 ?c12 ?k12 ?a13 ?l13 ?c13 ?k13 ?n1 ?n2 ?n3 ?n4 ?n5 ?n6 ?n7 ?z1 ?z2 ?z3 ?z4 ?z5 ?z6 ?z7 ?z8
    (case a1 => k_is); (case l1 => k_is); (case c1 => k_is); (case k1 => k_is)
    (case a2 => k_is); (case l2 => k_is); (case c2 => k_is); (case k2 => k_is)
    (case a3 => k_is); (case l3 => k_is); (case c3 => k_is); (case k3 => k_is)
    (case a4 => k_is); (case l4 => k_is); (case c4 => k_is); (case k4 => k_is)
    (case a5 => k_is); (case l5 => k_is); (case c5 => k_is); (case k5 => k_is)
    (case a6 => k_is); (case l6 => k_is); (case c6 => k_is); (case k6 => k_is)
    (case a7 => k_is); (case l7 => k_is); (case c7 => k_is); (case k7 => k_is)
    (case a8 => k_is); (case l8 => k_is); (case c8 => k_is); (case k8 => k_is)
    (case a9 => k_is); (case l9 => k_is); (case c9 => k_is); (case k9 => k_is)
    (case a10 => k_is); (case l10 => k_is); (case c10 => k_is); (case k10 => k_is)
    (case a11 => k_is); (case l11 => k_is); (case c11 => k_is); (case k11 => k_is)
    (case a12 => k_is); (case l12 => k_is); (case c12 => k_is); (case k12 => k_is)
    (case a13 => k_is); (case l13 => k_is); (case c13 => k_is); (case k13 => k_is)
    (case n1 => k_is); (case n2 => k_is); (case n3 => k_is); (case n4 => k_is)
    (case n5 => k_is); (case n6 => k_is); (case n7 => k_is); (case z1 => k_is)
    (case z2 => k_is); (case z3 => k_is); (case z4 => k_is); (case z5 => k_is)
    (case z6 => k_is); (case z7 => k_is); (case z8 => k_is)
  case S =>
    intro K H xs a hO hwi hask hx
    obtain ⟨n, e, u⟩ := a
    cases hx with
    | cons h1 h2 =>
      cases h1
      cases h2 with
      | cons h3 h4 =>
        cases h4
        cases h3 with
        | lst hs ha =>
          have e1 := L2.ints_dw e _ ha
          subst e1
          have q : (Codec.inInt 0 9223372036854775807 n && ((Codec.inLen 1 10201 e && e.all (Codec.inInt (-9223372036854775808) 9223372036854775807)) && true)) = true := hwi
          rw [Bool.and_eq_true, Bool.and_eq_true, Bool.and_eq_true] at q
          obtain ⟨q1, q2⟩ := q
          have hn : 0 ≤ n := (Codec.inInt_iff.mp q1).1
          have hl : e.length ≤ 10201 := (Codec.inNat_iff.mp q2.1.1).2
          have hask' : PyKp168.pw_solve_asked n e = true := hask
          obtain ⟨t, hw, ht⟩ := Pf.asked_wrote hask'
          have hlen : e.length = 1 + 34 * t.length := by
            rw [hw.2, List.length_cons, Pf.flat_len _ hw.1]
            omega
          refine ⟨n.toNat, _, e, t, by rw [Int.toNat_of_nonneg hn], hs, hw, by omega, fun H' p hp => ?_⟩
          have hr : Pf.ans n.toNat t = PyKp168.pw_solve n e := ht.symm
          rw [hr] at hp
          exact .lst (L2.SqL.of hp) (L2.dw_ints _)
#print axioms PySem.Challenge.cw_powerfill_s01_pw_solve_holds
