import PyProof.Rows.All
import Wide.All
import OpenK.AllK
import Wide.FinOn
import Open.SpecLaws
import KE.OsGo
import HandS.ForSpec
import HandS.Comp
import KE.GoesComp
import HandS.Iter
import KE.GoesEnum
import HandS.Small
import HandS.ForMost
import HandS.TryMany
import HandS.TupAny
import HandS.SetFor
import HandS.Walk
import HandS.Zip
import PySem.Challenge.RW_loopleaps_s01_answers
set_option Elab.async false
set_option maxRecDepth 100000
set_option maxHeartbeats 2000000
/-! MthA -/
/-! The specification's mathematics: moves, their powers, even growth. -/
namespace Mth
open VaaclBase Vaacld

theorem valueAt_moved (m : Move) (s : Values) (j : Nat) :
    valueAt (moved m s) j = given s ((m[j]?).getD ⟨none, 0⟩) := by
  unfold valueAt moved
  rw [List.getElem?_map]
  cases m[j]? with
  | none => simp [given]
  | some g => rfl

theorem moved_length (m : Move) (s : Values) : (moved m s).length = m.length := by
  simp [moved]

theorem moved_andThen (m k : Move) (s : Values) : moved (andThen m k) s = moved k (moved m s) := by
  unfold andThen
  show List.map (given s) (List.map _ k) = List.map (given (moved m s)) k
  rw [List.map_map]
  apply List.map_congr_left
  intro g _
  show given s _ = given (moved m s) g
  cases hg : g.source with
  | none => simp [given, hg]
  | some j =>
    simp only [hg]
    have e : given (moved m s) g = valueAt (moved m s) j + g.add := by simp [given, hg]
    rw [e, valueAt_moved]
    simp only [given]
    omega

theorem valueAt_lt {s : Values} {i : Nat} (h : i < s.length) : valueAt s i = s[i] := by
  simp [valueAt, h]

theorem valueAt_ge {s : Values} {i : Nat} (h : s.length ≤ i) : valueAt s i = 0 := by
  simp [valueAt, List.getElem?_eq_none h]

theorem ext_valueAt {s t : Values} (hl : s.length = t.length) (h : ∀ i, i < s.length → valueAt s i = valueAt t i) : s = t := by
  apply List.ext_getElem hl
  intro i h1 h2
  have := h i h1
  rwa [valueAt_lt h1, valueAt_lt h2] at this

theorem moved_still (s : Values) : moved (still s.length) s = s := by
  apply ext_valueAt
  · simp [moved, still]
  · intro i hi
    have hi' : i < s.length := by simpa [moved, still] using hi
    rw [valueAt_moved]
    simp [still, hi', given]

/-- a move done again and again -/
def it (m : Move) : Nat → Values → Values
  | 0, s => s
  | k + 1, s => it m k (moved m s)

theorem it_add (m : Move) : ∀ (a b : Nat) (s : Values), it m (a + b) s = it m b (it m a s)
  | 0, b, s => by rw [Nat.zero_add]; rfl
  | a + 1, b, s => by
    rw [Nat.succ_add]
    show it m (a + b) (moved m s) = it m b (it m a (moved m s))
    exact it_add m a b _

theorem it_succ (m : Move) (k : Nat) (s : Values) : it m (k + 1) s = moved m (it m k s) := it_add m k 1 s

theorem it_length {m : Move} {s : Values} (h : m.length = s.length) : ∀ k, (it m k s).length = s.length
  | 0 => rfl
  | k + 1 => by rw [it_succ, moved_length, h]

theorem rowsFrom_get (m : Move) : ∀ (n k : Nat) (s : Values), k ≤ n → (rowsFrom m n s)[k]? = some (it m k s)
  | 0, 0, s, _ => rfl
  | n + 1, 0, s, _ => rfl
  | n + 1, k + 1, s, h => by
    show (rowsFrom m n (moved m s))[k]? = some (it m k (moved m s))
    exact rowsFrom_get m n k _ (by omega)

/-- branches done one behind the other -/
def runs (l : Loop) (p : List Nat) (s : Values) : Values := p.foldl (fun s b => moved (moveOf l b) s) s

theorem moved_fold (l : Loop) : ∀ (p : List Nat) (m : Move) (s : Values),
    moved (p.foldl (fun m b => andThen m (moveOf l b)) m) s = runs l p (moved m s)
  | [], _, _ => rfl
  | b :: p, m, s => by
    rw [List.foldl_cons, moved_fold l p, moved_andThen]
    rfl

theorem runs_append (l : Loop) (p q : List Nat) (s : Values) : runs l (p ++ q) s = runs l q (runs l p s) := by
  simp [runs, List.foldl_append]

theorem moved_wholeMove (l : Loop) (p : List Nat) (s : Values) : moved (wholeMove l s.length p) s = runs l p s := by
  unfold wholeMove
  rw [moved_fold, moved_still]

/-! ### Sources -/
def srcs (m : Move) : List (Option Nat) := m.map (·.source)
def compS (a b : List (Option Nat)) : List (Option Nat) := b.map fun o => o.bind fun j => (a[j]?).getD none

theorem srcs_andThen (m k : Move) : srcs (andThen m k) = compS (srcs m) (srcs k) := by
  unfold srcs andThen compS
  rw [List.map_map, List.map_map]
  apply List.map_congr_left
  intro g _
  cases hg : g.source with
  | none => simp [hg]
  | some j =>
    simp only [Function.comp, hg, Option.bind_some, List.getElem?_map]
    cases m[j]? <;> rfl

def powM (n : Nat) (m : Move) : Nat → Move
  | 0 => still n
  | k + 1 => andThen (powM n m k) m

def powS (n : Nat) (a : List (Option Nat)) : Nat → List (Option Nat)
  | 0 => (List.range n).map some
  | k + 1 => compS (powS n a k) a

theorem moved_powM (m : Move) (s : Values) : ∀ k, moved (powM s.length m k) s = it m k s
  | 0 => moved_still s
  | k + 1 => by
    show moved (andThen (powM s.length m k) m) s = _
    rw [moved_andThen, moved_powM m s k, it_succ]

theorem srcs_powM (n : Nat) (m : Move) : ∀ k, srcs (powM n m k) = powS n (srcs m) k
  | 0 => by simp [powM, powS, srcs, still, List.map_map, Function.comp]
  | k + 1 => by
    show srcs (andThen (powM n m k) m) = compS (powS n (srcs m) k) (srcs m)
    rw [srcs_andThen, srcs_powM n m k]

/-- rings by how many counters -/
def ring (n : Nat) : Nat := if n ≤ 1 then 1 else if n = 2 then 2 else if n = 3 then 6 else 12

/-- all lists of so many of some -/
def allOf (opts : List (Option Nat)) : Nat → List (List (Option Nat))
  | 0 => [[]]
  | k + 1 => (allOf opts k).flatMap fun r => opts.map fun o => o :: r

theorem mem_allOf (opts : List (Option Nat)) : ∀ (L : List (Option Nat)), (∀ o ∈ L, o ∈ opts) → L ∈ allOf opts L.length
  | [], _ => by simp [allOf]
  | o :: r, h => by
    show o :: r ∈ (allOf opts r.length).flatMap _
    rw [List.mem_flatMap]
    exact ⟨r, mem_allOf opts r (fun x hx => h x (List.mem_cons_of_mem _ hx)), List.mem_map.2 ⟨o, h o List.mem_cons_self, rfl⟩⟩

def optsOf (n : Nat) : List (Option Nat) := none :: (List.range n).map some
def ringOk (n : Nat) : Bool := (allOf (optsOf n) n).all fun L => powS n L (n + ring n) == powS n L n

theorem ringOk1 : ringOk 1 = true := by decide +kernel
theorem ringOk2 : ringOk 2 = true := by decide +kernel
theorem ringOk3 : ringOk 3 = true := by decide +kernel
theorem ringOk4 : ringOk 4 = true := by decide +kernel

theorem ringOk_all {n : Nat} (h1 : 1 ≤ n) (h4 : n ≤ 4) : ringOk n = true := by
  have : n = 1 ∨ n = 2 ∨ n = 3 ∨ n = 4 := by omega
  rcases this with h | h | h | h <;> subst h
  · exact ringOk1
  · exact ringOk2
  · exact ringOk3
  · exact ringOk4

/-- a move of n counters -/
structure OkMove (n : Nat) (m : Move) : Prop where
  len : m.length = n
  src : ∀ g ∈ m, ∀ i, g.source = some i → i < n

theorem powS_ring {n : Nat} {m : Move} (h1 : 1 ≤ n) (h4 : n ≤ 4) (hm : OkMove n m) :
    srcs (powM n m (n + ring n)) = srcs (powM n m n) := by
  rw [srcs_powM, srcs_powM]
  have h := List.all_eq_true.1 (ringOk_all h1 h4) (srcs m)
  have hmem : srcs m ∈ allOf (optsOf n) n := by
    have := mem_allOf (optsOf n) (srcs m) (by
      intro o ho
      obtain ⟨g, hg, e⟩ := List.mem_map.1 ho
      cases o with
      | none => exact List.mem_cons_self
      | some i =>
        refine List.mem_cons_of_mem _ (List.mem_map.2 ⟨i, List.mem_range.2 (hm.src g hg i e), rfl⟩))
    have e : (srcs m).length = n := by simp [srcs, hm.len]
    rwa [e] at this
  exact eq_of_beq (h hmem)

/-- values and values, number by number -/
def plus (a d : Values) (q : Int) : Values := (a.zip d).map fun x => x.1 + q * x.2

theorem plus_length {a d : Values} {q : Int} (h : a.length = d.length) : (plus a d q).length = a.length := by
  simp [plus, h]

theorem valueAt_plus {a d : Values} {q : Int} (h : a.length = d.length) (i : Nat) :
    valueAt (plus a d q) i = valueAt a i + q * valueAt d i := by
  by_cases hi : i < a.length
  · have hd : i < d.length := by omega
    have hz : i < (a.zip d).length := by simp; omega
    simp [plus, valueAt, hi, hd, List.getElem?_eq_getElem hz]
  · have h1 : a.length ≤ i := by omega
    rw [valueAt_ge h1, valueAt_ge (by omega : d.length ≤ i), valueAt_ge (by rw [plus_length h]; exact h1)]
    simp

theorem evenAt_plus (a d : Values) (q : Nat) : evenAt a d q = plus a d (q : Int) := rfl

theorem valueAt_minus {a b : Values} (h : a.length = b.length) (i : Nat) :
    valueAt (minus a b) i = valueAt a i - valueAt b i := by
  by_cases hi : i < a.length
  · have hd : i < b.length := by omega
    have hz : i < (List.zip a b).length := by simp; omega
    simp [minus, valueAt, hi, hd, List.getElem?_eq_getElem hz]
  · have h1 : a.length ≤ i := by omega
    rw [valueAt_ge h1, valueAt_ge (by omega : b.length ≤ i), valueAt_ge (by simp [minus]; omega)]
    rfl

theorem minus_length {a b : Values} (h : a.length = b.length) : (minus a b).length = a.length := by
  simp [minus, h]

/-- what a move makes of growths -/
def lin (m : Move) (d : Values) : Values := m.map fun g => (g.source.map (valueAt d)).getD 0

theorem lin_length (m : Move) (d : Values) : (lin m d).length = m.length := by simp [lin]

theorem moved_plus {a d : Values} (h : a.length = d.length) (m : Move) (q : Int) :
    moved m (plus a d q) = plus (moved m a) (lin m d) q := by
  apply ext_valueAt
  · rw [moved_length, plus_length (by rw [moved_length, lin_length]), moved_length]
  · intro i hi
    have hi' : i < m.length := by rwa [moved_length] at hi
    rw [valueAt_moved, valueAt_plus (by rw [moved_length, lin_length]), valueAt_moved]
    simp only [List.getElem?_eq_getElem hi', Option.getD_some]
    have e : valueAt (lin m d) i = ((m[i]).source.map (valueAt d)).getD 0 := by
      simp [lin, valueAt, hi']
    rw [e]
    unfold given
    cases (m[i]).source with
    | none => simp
    | some j =>
      simp only [Option.map_some, Option.getD_some]
      rw [valueAt_plus h]
      omega

/-- the growth of a ring -/
def growth (n : Nat) (m : Move) : Values := minus ((powM n m (n + ring n)).map (·.add)) ((powM n m n).map (·.add))

theorem andThen_length (m k : Move) : (andThen m k).length = k.length := by simp [andThen]

theorem powM_length {n : Nat} {m : Move} (h : m.length = n) : ∀ k, (powM n m k).length = n
  | 0 => by simp [powM, still]
  | k + 1 => by
    show (andThen _ m).length = n
    rw [andThen_length, h]

theorem growth_length {n : Nat} {m : Move} (h : m.length = n) : (growth n m).length = n := by
  unfold growth
  rw [minus_length] <;> simp [powM_length h]

theorem moved_same_srcs {a b : Move} (h : srcs a = srcs b) (s : Values) :
    moved a s = plus (moved b s) (minus (a.map (·.add)) (b.map (·.add))) 1 := by
  have hl : a.length = b.length := by
    have := congrArg List.length h
    simpa [srcs] using this
  have hl2 : (moved b s).length = (minus (a.map (·.add)) (b.map (·.add))).length := by
    rw [moved_length, minus_length (by simp [hl])]
    simp [hl]
  apply ext_valueAt
  · rw [plus_length hl2, moved_length, moved_length, hl]
  · intro i hi
    have ha : i < a.length := by rwa [moved_length] at hi
    have hb : i < b.length := by omega
    rw [valueAt_plus hl2, valueAt_moved, valueAt_moved, valueAt_minus (by simp [hl])]
    have es : (a[i]).source = (b[i]).source := by
      have := congrArg (fun x => x[i]?) h
      simpa [srcs, ha, hb] using this
    simp only [List.getElem?_eq_getElem ha, List.getElem?_eq_getElem hb, Option.getD_some, valueAt, List.getElem?_map, Option.map_some]
    unfold given
    rw [es]
    omega

theorem it_ring {n : Nat} {m : Move} (h1 : 1 ≤ n) (h4 : n ≤ 4) (hm : OkMove n m) {s : Values} (hs : s.length = n) :
    it m (n + ring n) s = plus (it m n s) (growth n m) 1 := by
  subst hs
  rw [← moved_powM, ← moved_powM]
  exact moved_same_srcs (powS_ring h1 h4 hm) s

theorem plus_plus {a d : Values} (h : a.length = d.length) (p q : Int) : plus (plus a d p) d q = plus a d (p + q) := by
  have h2 : (plus a d p).length = d.length := by rw [plus_length h, h]
  apply ext_valueAt
  · rw [plus_length h2, plus_length h, plus_length h]
  · intro i _
    rw [valueAt_plus h2, valueAt_plus h, valueAt_plus h, Int.add_mul]
    omega

theorem plus_zero {a d : Values} (h : a.length = d.length) : plus a d 0 = a := by
  apply ext_valueAt
  · rw [plus_length h]
  · intro i _
    rw [valueAt_plus h]
    omega

theorem it_rings {n : Nat} {m : Move} (h1 : 1 ≤ n) (h4 : n ≤ 4) (hm : OkMove n m) {s : Values} (hs : s.length = n)
    {j : Nat} (hj : n ≤ j) : ∀ q : Nat, it m (j + q * ring n) s = plus (it m j s) (growth n m) (q : Int)
  | 0 => by
    rw [Nat.zero_mul, Nat.add_zero]
    exact (plus_zero (by rw [it_length (by rw [hm.len, hs]), hs, growth_length hm.len])).symm
  | q + 1 => by
    have hjl : (it m j s).length = (growth n m).length := by
      rw [it_length (by rw [hm.len, hs]), hs, growth_length hm.len]
    have e : j + (q + 1) * ring n = (j + q * ring n - n) + (n + ring n) := by
      rw [Nat.succ_mul]; omega
    have e2 : j + q * ring n = (j + q * ring n - n) + n := by omega
    rw [e, it_add, it_ring h1 h4 hm (by rw [it_length (by rw [hm.len, hs]), hs]), ← it_add, ← e2, it_rings h1 h4 hm hs hj q,
      plus_plus hjl]
    rfl

end Mth
/-! MthB -/
/-! How often a pattern is done: the least pass that is not followed. -/
namespace Mth
open VaaclBase Vaacld

/-- the least number of which something is not so; none: of all it is so -/
def LeastNot (F : Nat → Prop) : Option Nat → Prop
  | none => ∀ k, F k
  | some k => ¬ F k ∧ ∀ j, j < k → F j

theorem LeastNot.uniq {F : Nat → Prop} : ∀ {a b : Option Nat}, LeastNot F a → LeastNot F b → a = b
  | none, none, _, _ => rfl
  | none, some k, h, g => absurd (h k) g.1
  | some k, none, h, g => absurd (g k) h.1
  | some k, some j, h, g => by
    have : k = j := by
      rcases Nat.lt_trichotomy k j with x | x | x
      · exact absurd (g.2 k x) h.1
      · exact x
      · exact absurd (h.2 j x) g.1
    rw [this]

/-! ### The times at which a test may turn -/
theorem turnsAt_mem {a d c : Int} {k : Nat} (h : decide (a + ((k + 1 : Nat) : Int) * d ≤ c) ≠ decide (a + (k : Int) * d ≤ c)) :
    k + 1 ∈ turnsAt a d c := by
  have hk : (((k + 1 : Nat) : Int)) * d = (k : Int) * d + d := by
    rw [Int.natCast_succ, Int.add_mul, Int.one_mul]
  rw [hk] at h
  unfold turnsAt
  have hkn : (0 : Int) ≤ (k : Int) := Int.natCast_nonneg k
  by_cases h0 : d = 0
  · subst h0; simp at h
  · rw [if_neg h0]
    by_cases hp : 0 < d
    · rw [if_pos hp]
      have h1 : a + (k : Int) * d ≤ c := by
        apply Classical.byContradiction; intro hn
        apply h
        rw [decide_eq_false hn, decide_eq_false (by omega)]
      have h2 : ¬ a + ((k : Int) * d + d) ≤ c := by
        intro hn; apply h; rw [decide_eq_true hn, decide_eq_true h1]
      have hkd : 0 ≤ (k : Int) * d := Int.mul_nonneg hkn (by omega)
      rw [if_pos (by omega)]
      have hq : (c - a) / d = (k : Int) := by
        have e : c - a = (c - a - (k : Int) * d) + (k : Int) * d := by omega
        rw [e, Int.add_mul_ediv_right _ _ (by omega), Int.ediv_eq_zero_of_lt (by omega) (by omega)]
        omega
      rw [hq]
      simp
    · rw [if_neg hp]
      have hd : d < 0 := by omega
      have h2 : a + ((k : Int) * d + d) ≤ c := by
        apply Classical.byContradiction; intro hn
        apply h
        rw [decide_eq_false hn, decide_eq_false (by omega)]
      have h1 : ¬ a + (k : Int) * d ≤ c := by
        intro hn; apply h; rw [decide_eq_true hn, decide_eq_true h2]
      have hkd : (k : Int) * d ≤ 0 := Int.mul_nonpos_of_nonneg_of_nonpos hkn (by omega)
      rw [if_pos (by omega)]
      have hq : (a - c + (0 - d) - 1) / (0 - d) = (k : Int) + 1 := by
        have e : a - c + (0 - d) - 1 = (a - c + (k : Int) * d - 1) + ((k : Int) + 1) * (0 - d) := by
          have : ((k : Int) + 1) * (0 - d) = - ((k : Int) * d) - d := by
            rw [Int.add_mul, Int.one_mul, Int.zero_sub, Int.mul_neg]; omega
          omega
        rw [e, Int.add_mul_ediv_right _ _ (by omega), Int.ediv_eq_zero_of_lt (by omega) (by omega)]
        omega
      rw [hq]
      simp

theorem turnsOf_mem {u v w : Values} (hl : u.length = w.length) (hv : ∀ i, valueAt v i = valueAt w i) {t : Test} {k : Nat}
    (hr : ∀ x m r, t = .rem x m r → (m : Int) ∣ valueAt w x)
    (h : holds (plus u w ((k + 1 : Nat) : Int)) t ≠ holds (plus u w (k : Int)) t) : k + 1 ∈ turnsOf u v t := by
  cases t with
  | atMost x c =>
    simp only [holds, valueAt_plus hl] at h
    simp only [turnsOf, hv]
    exact turnsAt_mem h
  | atLeast x c =>
    simp only [holds, valueAt_plus hl] at h
    simp only [turnsOf, hv]
    apply turnsAt_mem
    intro e
    apply h
    have f1 : decide (c ≤ valueAt u x + ((k + 1 : Nat) : Int) * valueAt w x) = !decide (valueAt u x + ((k + 1 : Nat) : Int) * valueAt w x ≤ c - 1) := by
      rw [← decide_not]; apply decide_eq_decide.2; omega
    have f2 : decide (c ≤ valueAt u x + (k : Int) * valueAt w x) = !decide (valueAt u x + (k : Int) * valueAt w x ≤ c - 1) := by
      rw [← decide_not]; apply decide_eq_decide.2; omega
    rw [f1, f2, e]
  | below x y c =>
    simp only [holds, valueAt_plus hl] at h
    simp only [turnsOf, hv]
    apply turnsAt_mem
    intro e
    apply h
    have f : ∀ q : Int, decide (valueAt u x + q * valueAt w x ≤ valueAt u y + q * valueAt w y + c) =
        decide (valueAt u x - valueAt u y + q * (valueAt w x - valueAt w y) ≤ c) := by
      intro q
      apply decide_eq_decide.2
      rw [Int.mul_sub]
      omega
    rw [f, f, e]
  | rem x m r =>
    exfalso
    apply h
    obtain ⟨z, hz⟩ := hr x m r rfl
    simp only [holds, valueAt_plus hl, hz]
    have f : ∀ q : Int, (valueAt u x + q * ((m : Int) * z)) % (m : Int) = valueAt u x % (m : Int) := by
      intro q
      have : q * ((m : Int) * z) = (m : Int) * (q * z) := by
        rw [← Int.mul_assoc, Int.mul_comm q, Int.mul_assoc]
      rw [this, Int.add_mul_emod_self_left]
    rw [f, f]

theorem allHold_congr {s t : Values} {g : Guard} (h : ∀ x ∈ g, holds s x = holds t x) : allHold s g = allHold t g := by
  unfold allHold
  induction g with
  | nil => rfl
  | cons x r ih =>
    rw [List.all_cons, List.all_cons, h x List.mem_cons_self, ih (fun y hy => h y (List.mem_cons_of_mem _ hy))]

theorem findIdx_congr {A : Type} {f g : A → Bool} : ∀ (l : List A), (∀ b ∈ l, f b = g b) → l.findIdx? f = l.findIdx? g
  | [], _ => rfl
  | b :: l, h => by
    rw [List.findIdx?_cons, List.findIdx?_cons, h b List.mem_cons_self, findIdx_congr l (fun c hc => h c (List.mem_cons_of_mem _ hc))]

theorem chosen_congr {l : Loop} {s t : Values} (h : ∀ x ∈ allTests l, holds s x = holds t x) : chosen l s = chosen l t := by
  unfold chosen
  apply findIdx_congr
  intro b hb
  apply allHold_congr
  intro x hx
  exact h x (List.mem_flatMap.2 ⟨b, hb, hx⟩)

theorem all_congr {A : Type} {f g : A → Bool} : ∀ (l : List A), (∀ b ∈ l, f b = g b) → l.all f = l.all g
  | [], _ => rfl
  | b :: l, h => by
    rw [List.all_cons, List.all_cons, h b List.mem_cons_self, all_congr l (fun c hc => h c (List.mem_cons_of_mem _ hc))]

theorem follows_congr {l : Loop} {ms : List Move} {p : List Nat} {s t : Values}
    (h : ∀ m ∈ ms, ∀ x ∈ allTests l, holds (moved m s) x = holds (moved m t) x) : follows l ms p s = follows l ms p t := by
  unfold follows
  apply all_congr
  intro z hz
  rw [chosen_congr (h z.1 (List.of_mem_zip hz).1)]

/-- what is asked of remainders -/
def RemOk (l : Loop) (ms : List Move) (d : Values) : Prop :=
  ∀ t ∈ allTests l, ∀ x m r, t = Test.rem x m r → ∀ mv ∈ ms, (m : Int) ∣ valueAt (lin mv d) x

theorem turnsIn_mem {l : Loop} {ms : List Move} {p : List Nat} {a d : Values} (hl : a.length = d.length) (hr : RemOk l ms d) {k : Nat}
    (h : follows l ms p (evenAt a d (k + 1)) ≠ follows l ms p (evenAt a d k)) : k + 1 ∈ turnsIn l ms a d := by
  apply Classical.byContradiction
  intro hn
  apply h
  apply follows_congr
  intro m hm x hx
  apply Classical.byContradiction
  intro hne
  apply hn
  unfold turnsIn
  refine List.mem_cons_of_mem _ (List.mem_flatMap.2 ⟨m, hm, List.mem_flatMap.2 ⟨x, hx, ?_⟩⟩)
  have hul : (moved m a).length = (lin m d).length := by rw [moved_length, lin_length]
  apply turnsOf_mem (w := lin m d) hul
  · intro i
    rw [evenAt_plus, moved_plus hl, valueAt_minus (by rw [plus_length hul]), valueAt_plus hul]
    simp only [Int.natCast_one, Int.one_mul]
    omega
  · intro y mm r e
    exact hr x hx y mm r e m hm
  · rw [← moved_plus hl, ← moved_plus hl]
    exact hne

theorem lesser_none (n : Nat) : lesser none n = some n := rfl
theorem lesser_some (a n : Nat) : lesser (some a) n = some (Nat.min a n) := rfl

/-- the least of a row's numbers of which something is not so -/
theorem fold_least (F : Nat → Bool) : ∀ (qs : List Nat) (o : Option Nat),
    (match qs.foldl (fun o q => if F q then o else lesser o q) o with
     | none => o = none ∧ ∀ q ∈ qs, F q = true
     | some x => ((o = some x) ∨ (x ∈ qs ∧ F x = false)) ∧ (∀ y, o = some y → x ≤ y) ∧ ∀ q ∈ qs, F q = false → x ≤ q)
  | [], o => by
    cases o with
    | none => exact ⟨rfl, fun q hq => absurd hq List.not_mem_nil⟩
    | some y => exact ⟨.inl rfl, fun z hz => by cases hz; exact Nat.le_refl _, fun q hq => absurd hq List.not_mem_nil⟩
  | q :: qs, o => by
    rw [List.foldl_cons]
    have ih := fold_least F qs (if F q then o else lesser o q)
    cases hF : F q with
    | true =>
      rw [hF] at ih
      rw [if_pos rfl] at ih ⊢
      revert ih
      cases List.foldl (fun o q => if F q = true then o else lesser o q) o qs with
      | none =>
        intro ih
        exact ⟨ih.1, fun z hz => by
          rcases List.mem_cons.1 hz with rfl | hz
          · exact hF
          · exact ih.2 z hz⟩
      | some x =>
        intro ih
        refine ⟨ih.1.imp id (fun h => ⟨List.mem_cons_of_mem _ h.1, h.2⟩), ih.2.1, fun z hz hf => ?_⟩
        rcases List.mem_cons.1 hz with rfl | hz
        · rw [hF] at hf; cases hf
        · exact ih.2.2 z hz hf
    | false =>
      rw [hF] at ih
      rw [if_neg (by decide)] at ih ⊢
      revert ih
      cases List.foldl (fun o q => if F q = true then o else lesser o q) (lesser o q) qs with
      | none =>
        intro ih
        have := ih.1
        cases o <;> cases this
      | some x =>
        intro ih
        cases o with
        | none =>
          have hxq : x ≤ q := ih.2.1 q rfl
          refine ⟨.inr ?_, fun y hy => (nomatch hy), fun z hz hf => ?_⟩
          · rcases ih.1 with h | h
            · have : q = x := Option.some.inj h
              subst this
              exact ⟨List.mem_cons_self, hF⟩
            · exact ⟨List.mem_cons_of_mem _ h.1, h.2⟩
          · rcases List.mem_cons.1 hz with rfl | hz
            · exact hxq
            · exact ih.2.2 z hz hf
        | some y =>
          have hm : x ≤ Nat.min y q := ih.2.1 _ rfl
          have hxy : x ≤ y := Nat.le_trans hm (Nat.min_le_left _ _)
          have hxq : x ≤ q := Nat.le_trans hm (Nat.min_le_right _ _)
          refine ⟨?_, fun z hz => by cases hz; exact hxy, fun z hz hf => ?_⟩
          · rcases ih.1 with h | h
            · have e : Nat.min y q = x := Option.some.inj h
              by_cases c : y ≤ q
              · left; rw [← e, Nat.min_eq_min, Nat.min_eq_left c]
              · right
                have : x = q := by rw [← e, Nat.min_eq_min, Nat.min_eq_right (by omega)]
                subst this
                exact ⟨List.mem_cons_self, hF⟩
            · exact .inr ⟨List.mem_cons_of_mem _ h.1, h.2⟩
          · rcases List.mem_cons.1 hz with rfl | hz
            · exact hxq
            · exact ih.2.2 z hz hf

/-- where something is not so there is a least such number, which is 0 or where it changes -/
theorem least_change (F : Nat → Bool) (k : Nat) (h : F k = false) :
    ∃ j, j ≤ k ∧ F j = false ∧ (∀ i, i < j → F i = true) ∧ (j = 0 ∨ ∃ i, j = i + 1 ∧ F (i + 1) ≠ F i) := by
  induction k using Nat.strongRecOn with
  | ind k ih =>
    by_cases hx : ∃ i, i < k ∧ F i = false
    · obtain ⟨i, hi, hf⟩ := hx
      obtain ⟨j, hj, h1, h2, h3⟩ := ih i hi hf
      exact ⟨j, by omega, h1, h2, h3⟩
    · have all : ∀ i, i < k → F i = true := fun i hi => by
        cases hfi : F i with
        | true => rfl
        | false => exact absurd ⟨i, hi, hfi⟩ hx
      refine ⟨k, Nat.le_refl _, h, all, ?_⟩
      cases k with
      | zero => exact .inl rfl
      | succ i => exact .inr ⟨i, rfl, by rw [h, all i (Nat.lt_succ_self i)]; decide⟩

theorem breakIn_least {l : Loop} {ms : List Move} {p : List Nat} {a d : Values} (hl : a.length = d.length) (hr : RemOk l ms d) :
    LeastNot (fun q => follows l ms p (evenAt a d q) = true) (breakIn l ms p a d) := by
  have h := fold_least (fun q => follows l ms p (evenAt a d q)) (turnsIn l ms a d) none
  have h0 : 0 ∈ turnsIn l ms a d := List.mem_cons_self
  have key : ∀ k, follows l ms p (evenAt a d k) = false → ∃ j, j ∈ turnsIn l ms a d ∧ j ≤ k ∧ follows l ms p (evenAt a d j) = false ∧
      (∀ i, i < j → follows l ms p (evenAt a d i) = true) := by
    intro k hk
    obtain ⟨j, h1, h2, h3, h4⟩ := least_change (fun q => follows l ms p (evenAt a d q)) k hk
    refine ⟨j, ?_, h1, h2, h3⟩
    rcases h4 with rfl | ⟨i, rfl, hne⟩
    · exact h0
    · exact turnsIn_mem hl hr hne
  show LeastNot _ (List.foldl _ none (turnsIn l ms a d))
  revert h
  cases List.foldl (fun o q => if follows l ms p (evenAt a d q) = true then o else lesser o q) none (turnsIn l ms a d) with
  | none =>
    intro h k
    cases hk : follows l ms p (evenAt a d k) with
    | true => rfl
    | false =>
      obtain ⟨j, hj, _, hf, _⟩ := key k hk
      rw [h.2 j hj] at hf
      cases hf
  | some x =>
    intro h
    have hx : x ∈ turnsIn l ms a d ∧ follows l ms p (evenAt a d x) = false := by
      rcases h.1 with e | e
      · cases e
      · exact e
    refine ⟨fun e => by rw [show follows l ms p (evenAt a d x) = true from e] at hx; exact absurd hx.2 (by decide), fun j hj => ?_⟩
    cases hk : follows l ms p (evenAt a d j) with
    | true => exact hk
    | false =>
      obtain ⟨i, hi, hij, hf, _⟩ := key j hk
      have := h.2.2 i hi hf
      omega

/-! ### A loop of n counters -/
structure OkBranch (n : Nat) (b : Branch) : Prop where
  tests : ∀ t ∈ b.guard, okTest n t = true
  few : b.guard.length ≤ 3
  move : OkMove n b.move
  adds : ∀ g ∈ b.move, -99 ≤ g.add ∧ g.add ≤ 99

structure OkLoop (n : Nat) (l : Loop) : Prop where
  low : 1 ≤ n
  high : n ≤ 4
  all : ∀ b ∈ l, OkBranch n b
  some : 1 ≤ l.length
  few : l.length ≤ 3

theorem branchAt_mem {l : Loop} {k : Nat} (h : k < l.length) : branchAt l k ∈ l := by
  unfold branchAt
  rw [List.getElem?_eq_getElem h, Option.getD_some]
  exact List.getElem_mem h

theorem OkMove.andThen {n : Nat} {m k : Move} (hm : OkMove n m) (hk : OkMove n k) : OkMove n (andThen m k) := by
  refine ⟨by rw [andThen_length, hk.len], ?_⟩
  intro g hg i e
  obtain ⟨x, hx, rfl⟩ := List.mem_map.1 hg
  cases hs : x.source with
  | none => simp [hs] at e
  | some j =>
    simp only [hs] at e
    cases hj : m[j]? with
    | none => simp [hj] at e
    | some y =>
      simp only [hj, Option.getD_some] at e
      exact hm.src y (List.mem_of_getElem? hj) i e

theorem OkMove.still (n : Nat) : OkMove n (still n) := by
  refine ⟨by simp [VaaclBase.still], ?_⟩
  intro g hg i e
  obtain ⟨x, hx, rfl⟩ := List.mem_map.1 hg
  cases e
  exact List.mem_range.1 hx

theorem OkMove.fold {n : Nat} {l : Loop} (hl : OkLoop n l) : ∀ (p : List Nat) (m : Move), (∀ b ∈ p, b < l.length) → OkMove n m →
    OkMove n (p.foldl (fun m b => Vaacld.andThen m (moveOf l b)) m)
  | [], _, _, h => h
  | b :: p, m, hp, h => by
    rw [List.foldl_cons]
    exact OkMove.fold hl p _ (fun c hc => hp c (List.mem_cons_of_mem _ hc))
      (h.andThen (hl.all _ (branchAt_mem (hp b List.mem_cons_self))).move)

theorem OkMove.whole {n : Nat} {l : Loop} (hl : OkLoop n l) {p : List Nat} (hp : ∀ b ∈ p, b < l.length) : OkMove n (wholeMove l n p) :=
  OkMove.fold hl p _ hp (OkMove.still n)

theorem beginnings_ok {n : Nat} {l : Loop} (hl : OkLoop n l) {p : List Nat} (hp : ∀ b ∈ p, b < l.length) :
    ∀ m ∈ beginnings l n p, OkMove n m := by
  intro m hm
  obtain ⟨i, _, rfl⟩ := List.mem_map.1 hm
  exact OkMove.fold hl _ _ (fun b hb => hp b (List.mem_of_mem_take hb)) (OkMove.still n)

theorem ring_dvd (n : Nat) : ring n ∣ 12 := by
  unfold ring
  split
  · exact ⟨12, rfl⟩
  · split
    · exact ⟨6, rfl⟩
    · split
      · exact ⟨2, rfl⟩
      · exact ⟨1, rfl⟩

theorem ring_pos (n : Nat) : 0 < ring n := Nat.pos_of_dvd_of_pos (ring_dvd n) (by decide)

theorem strideOf_eq (l : Loop) : (strideOf l = 12 ∧ ∀ t ∈ allTests l, isRem t = false) ∨ strideOf l = 144 := by
  unfold strideOf
  cases h : l.any fun b => b.guard.any isRem with
  | true => exact .inr rfl
  | false =>
    refine .inl ⟨rfl, ?_⟩
    intro t ht
    obtain ⟨b, hb, htb⟩ := List.mem_flatMap.1 ht
    have := List.any_eq_false.1 h b hb
    simp only [Bool.not_eq_true] at this
    have := List.any_eq_false.1 this t htb
    simpa using this

theorem it_stride {n : Nat} {m : Move} (h1 : 1 ≤ n) (h4 : n ≤ 4) (hm : OkMove n m) {s : Values} (hs : s.length = n) {c : Nat} {j : Nat} (hj : n ≤ j) (q : Nat) :
    it m (j + q * (c * ring n)) s = plus (it m j s) (growth n m) ((q * c : Nat) : Int) := by
  rw [← Nat.mul_assoc, it_rings h1 h4 hm hs hj]

/-- plus by many -/
def times (c : Int) (d : Values) : Values := d.map fun x => c * x
theorem times_length (c : Int) (d : Values) : (times c d).length = d.length := by simp [times]
theorem valueAt_times (c : Int) (d : Values) (i : Nat) : valueAt (times c d) i = c * valueAt d i := by
  unfold valueAt times
  rw [List.getElem?_map]
  cases d[i]? with
  | none => simp
  | some x => rfl

theorem minus_plus {a d : Values} (h : a.length = d.length) (c : Int) : minus (plus a d c) a = times c d := by
  apply ext_valueAt
  · rw [minus_length (by rw [plus_length h]), plus_length h, times_length, h]
  · intro i _
    rw [valueAt_minus (by rw [plus_length h]), valueAt_plus h, valueAt_times]
    omega

theorem plus_times {a d : Values} (h : a.length = d.length) (c q : Int) : plus a (times c d) q = plus a d (q * c) := by
  have h2 : a.length = (times c d).length := by rw [times_length, h]
  apply ext_valueAt
  · rw [plus_length h2, plus_length h]
  · intro i _
    rw [valueAt_plus h2, valueAt_plus h, valueAt_times, Int.mul_assoc]

theorem lin_dvd {d : Values} {z : Int} (h : ∀ i, z ∣ valueAt d i) (m : Move) (i : Nat) : z ∣ valueAt (lin m d) i := by
  by_cases hi : i < m.length
  · have e : valueAt (lin m d) i = ((m[i]).source.map (valueAt d)).getD 0 := by
      simp [lin, valueAt, hi]
    rw [e]
    cases (m[i]).source with
    | none => exact Int.dvd_zero z
    | some j => exact h j
  · rw [valueAt_ge (by rw [lin_length]; omega)]
    exact Int.dvd_zero z

theorem okTest_rem {n x m r : Nat} (h : okTest n (.rem x m r) = true) : (m : Int) ∣ 12 := by
  have : MODULI.contains m = true := by
    simp only [okTest, Bool.and_eq_true] at h
    exact h.2.1
  have hm : m ∈ MODULI := by simpa using this
  simp only [MODULI, List.mem_cons, List.not_mem_nil, or_false] at hm
  rcases hm with rfl | rfl | rfl | rfl
  · exact ⟨6, rfl⟩
  · exact ⟨4, rfl⟩
  · exact ⟨3, rfl⟩
  · exact ⟨2, rfl⟩

theorem allTests_ok {n : Nat} {l : Loop} (hl : OkLoop n l) {t : Test} (ht : t ∈ allTests l) : okTest n t = true := by
  obtain ⟨b, hb, h⟩ := List.mem_flatMap.1 ht
  exact (hl.all b hb).tests t h

/-- the stride, as so many rings -/
theorem stride_rings (n : Nat) (l : Loop) : ∃ c : Nat, strideOf l = c * ring n ∧ ((∀ t ∈ allTests l, isRem t = false) ∨ 12 ∣ c) := by
  obtain ⟨k, hk⟩ := ring_dvd n
  rcases strideOf_eq l with ⟨h, hr⟩ | h
  · exact ⟨k, by rw [h, hk, Nat.mul_comm], .inl hr⟩
  · refine ⟨12 * k, ?_, .inr ⟨k, rfl⟩⟩
    rw [h]
    have : 12 * k * ring n = 12 * (ring n * k) := by rw [Nat.mul_assoc, Nat.mul_comm k]
    rw [this, ← hk]

theorem find_range (F : Nat → Bool) (n : Nat) : match (List.range n).find? (fun k => !F k) with
    | none => ∀ k, k < n → F k = true
    | some k => k < n ∧ F k = false ∧ ∀ j, j < k → F j = true := by
  cases h : (List.range n).find? (fun k => !F k) with
  | none =>
    intro k hk
    have := List.find?_eq_none.1 h k (List.mem_range.2 hk)
    simpa using this
  | some k =>
    have h1 := List.find?_some h
    have h2 := List.mem_range.1 (List.mem_of_find?_eq_some h)
    refine ⟨h2, by simpa using h1, ?_⟩
    intro j hj
    obtain ⟨_, as, bs, e, hall⟩ := List.find?_eq_some_iff_append.1 h
    have hlen : as.length = k := by
      have e2 := congrArg (fun x => x[as.length]?) e
      have hlt : as.length < n := by
        have := congrArg List.length e
        simp at this
        omega
      simp only [List.getElem?_append_right (Nat.le_refl _), Nat.sub_self, List.getElem?_cons_zero] at e2
      rw [List.getElem?_eq_getElem (by simpa using hlt), List.getElem_range] at e2
      exact Option.some.inj e2
    have hm : j ∈ as := by
      have e3 := congrArg (fun x => x[j]?) e
      rw [List.getElem?_append_left (by omega)] at e3
      rw [List.getElem?_eq_getElem (by simp; omega), List.getElem_range] at e3
      exact List.mem_of_getElem? e3.symm
    have := hall j hm
    simpa using this
end Mth
/-! MthC -/
namespace Mth
open VaaclBase Vaacld

/-- one item of the row taken in -/
def stepMin (g : Nat → Option Nat) (o : Option Nat) (k : Nat) : Option Nat := match g k with
  | none => o
  | some x => lesser o x

/-- the least of what a row's items give -/
theorem fold_min (g : Nat → Option Nat) : ∀ (ks : List Nat) (o : Option Nat),
    (match ks.foldl (stepMin g) o with
     | none => o = none ∧ ∀ k ∈ ks, g k = none
     | some x => ((o = some x) ∨ (∃ k ∈ ks, g k = some x)) ∧ (∀ y, o = some y → x ≤ y) ∧ ∀ k ∈ ks, ∀ y, g k = some y → x ≤ y)
  | [], o => by
    cases o with
    | none => exact ⟨rfl, fun q hq => absurd hq List.not_mem_nil⟩
    | some y => exact ⟨.inl rfl, fun z hz => by cases hz; exact Nat.le_refl _, fun q hq => absurd hq List.not_mem_nil⟩
  | q :: ks, o => by
    rw [List.foldl_cons]
    cases hg : g q with
    | none =>
      have ih := fold_min g ks o
      have e : stepMin g o q = o := by unfold stepMin; rw [hg]
      rw [e]
      revert ih
      cases List.foldl (stepMin g) o ks with
      | none =>
        intro ih
        exact ⟨ih.1, fun z hz => by
          rcases List.mem_cons.1 hz with rfl | hz
          · exact hg
          · exact ih.2 z hz⟩
      | some x =>
        intro ih
        refine ⟨ih.1.imp id (fun ⟨k, hk, e⟩ => ⟨k, List.mem_cons_of_mem _ hk, e⟩), ih.2.1, fun z hz y hy => ?_⟩
        rcases List.mem_cons.1 hz with rfl | hz
        · rw [hg] at hy; cases hy
        · exact ih.2.2 z hz y hy
    | some w =>
      have ih := fold_min g ks (lesser o w)
      have e : stepMin g o q = lesser o w := by unfold stepMin; rw [hg]
      rw [e]
      revert ih
      cases List.foldl (stepMin g) (lesser o w) ks with
      | none =>
        intro ih
        have := ih.1
        cases o <;> cases this
      | some x =>
        intro ih
        cases o with
        | none =>
          have hxq : x ≤ w := ih.2.1 w rfl
          refine ⟨.inr ?_, fun y hy => (nomatch hy), fun z hz y hy => ?_⟩
          · rcases ih.1 with h | ⟨k, hk, e⟩
            · have : w = x := Option.some.inj h
              subst this
              exact ⟨q, List.mem_cons_self, hg⟩
            · exact ⟨k, List.mem_cons_of_mem _ hk, e⟩
          · rcases List.mem_cons.1 hz with rfl | hz
            · rw [hg] at hy; cases hy; exact hxq
            · exact ih.2.2 z hz y hy
        | some v =>
          have hm : x ≤ Nat.min v w := ih.2.1 _ rfl
          have hxv : x ≤ v := Nat.le_trans hm (Nat.min_le_left _ _)
          have hxw : x ≤ w := Nat.le_trans hm (Nat.min_le_right _ _)
          refine ⟨?_, fun z hz => by cases hz; exact hxv, fun z hz y hy => ?_⟩
          · rcases ih.1 with h | ⟨k, hk, e⟩
            · have e : Nat.min v w = x := Option.some.inj h
              by_cases c : v ≤ w
              · left; rw [← e, Nat.min_eq_min, Nat.min_eq_left c]
              · right
                have : x = w := by rw [← e, Nat.min_eq_min, Nat.min_eq_right (by omega)]
                subst this
                exact ⟨q, List.mem_cons_self, hg⟩
            · exact .inr ⟨k, List.mem_cons_of_mem _ hk, e⟩
          · rcases List.mem_cons.1 hz with rfl | hz
            · rw [hg] at hy; cases hy; exact hxw
            · exact ih.2.2 z hz y hy

theorem find_congr {A : Type} {f g : A → Bool} : ∀ (l : List A), (∀ b ∈ l, f b = g b) → l.find? f = l.find? g
  | [], _ => rfl
  | b :: l, h => by
    rw [List.find?_cons, List.find?_cons, h b List.mem_cons_self, find_congr l (fun c hc => h c (List.mem_cons_of_mem _ hc))]

theorem foldl_congr {A B : Type} {f g : B → A → B} : ∀ (l : List A) (o : B), (∀ o, ∀ k ∈ l, f o k = g o k) → l.foldl f o = l.foldl g o
  | [], _, _ => rfl
  | a :: l, o, h => by
    rw [List.foldl_cons, List.foldl_cons, h o a List.mem_cons_self, foldl_congr l _ (fun o k hk => h o k (List.mem_cons_of_mem _ hk))]

/-- the pattern is followed in a pass -/
def Fol (l : Loop) (n : Nat) (p : List Nat) (s : Values) (k : Nat) : Prop :=
  follows l (beginnings l n p) p (it (wholeMove l n p) k s) = true

theorem timesOf_least {n : Nat} {l : Loop} (hl : OkLoop n l) {p : List Nat} (hp : ∀ b ∈ p, b < l.length) {s : Values} (hs : s.length = n) :
    LeastNot (Fol l n p s) (timesOf l p s) := by
  have hW := OkMove.whole hl hp
  obtain ⟨c, hc, hrem⟩ := stride_rings n l
  have h4 := hl.high
  have hlen : ∀ k, (it (wholeMove l n p) k s).length = n := fun k => by rw [it_length (by rw [hW.len, hs]), hs]
  have hgl : (growth n (wholeMove l n p)).length = n := growth_length hW.len
  have hr0 : 0 < strideOf l := by
    rcases strideOf_eq l with h | h
    · rw [h.1]; decide
    · rw [h]; decide
  -- what a class of passes is
  have hcls : ∀ k q, it (wholeMove l n p) (FIRST + k + q * strideOf l) s =
      evenAt (it (wholeMove l n p) (FIRST + k) s) (times (c : Int) (growth n (wholeMove l n p))) q := by
    intro k q
    have h4' : n ≤ FIRST + k := by show n ≤ 4 + k; omega
    rw [hc, it_stride hl.low hl.high hW hs h4' q, evenAt_plus, plus_times (by rw [hlen, hgl]), Int.natCast_mul]
  have hmin : ∀ k, minus (it (wholeMove l n p) (FIRST + k + strideOf l) s) (it (wholeMove l n p) (FIRST + k) s) =
      times (c : Int) (growth n (wholeMove l n p)) := by
    intro k
    have h := hcls k 1
    rw [Nat.one_mul] at h
    rw [h, evenAt_plus, plus_times (by rw [hlen, hgl]), minus_plus (by rw [hlen, hgl])]
    congr 1
    simp
  have hro : RemOk l (beginnings l n p) (times (c : Int) (growth n (wholeMove l n p))) := by
    intro t ht x m r e mv _
    subst e
    rcases hrem with h | h
    · have := h _ ht
      cases this
    · apply lin_dvd
      intro i
      rw [valueAt_times]
      have h12 : (m : Int) ∣ 12 := okTest_rem (allTests_ok hl ht)
      have hc12 : (12 : Int) ∣ (c : Int) := by
        obtain ⟨z, hz⟩ := h
        exact ⟨(z : Int), by rw [hz]; simp⟩
      exact Int.dvd_trans h12 (Int.dvd_trans hc12 (Int.dvd_mul_right _ _))
  have hbr : ∀ k, LeastNot (fun q => Fol l n p s (FIRST + k + q * strideOf l))
      (breakIn l (beginnings l n p) p (it (wholeMove l n p) (FIRST + k) s) (minus (it (wholeMove l n p) (FIRST + k + strideOf l) s) (it (wholeMove l n p) (FIRST + k) s))) := by
    intro k
    rw [hmin]
    have h := breakIn_least (l := l) (ms := beginnings l n p) (p := p) (a := it (wholeMove l n p) (FIRST + k) s)
      (d := times (c : Int) (growth n (wholeMove l n p))) (by rw [hlen, times_length, hgl]) hro
    have e : (fun q => follows l (beginnings l n p) p (evenAt (it (wholeMove l n p) (FIRST + k) s) (times (c : Int) (growth n (wholeMove l n p))) q) = true) =
        (fun q => Fol l n p s (FIRST + k + q * strideOf l)) := by
      funext q
      unfold Fol
      rw [hcls]
    rwa [e] at h
  have hrow : ∀ k, k ≤ FIRST + 2 * strideOf l → (rowsFrom (wholeMove l n p) (FIRST + 2 * strideOf l) s)[k]? = some (it (wholeMove l n p) k s) :=
    fun k hk => rowsFrom_get _ _ _ _ hk
  -- the first passes
  have hfirst := find_range (fun k => follows l (beginnings l n p) p (it (wholeMove l n p) k s)) FIRST
  have hfe : (List.range FIRST).find? (fun k => ((rowsFrom (wholeMove l n p) (FIRST + 2 * strideOf l) s)[k]?).any fun x => !follows l (beginnings l n p) p x) =
      (List.range FIRST).find? (fun k => !follows l (beginnings l n p) p (it (wholeMove l n p) k s)) := by
    apply find_congr
    intro k hk
    have : k < FIRST := List.mem_range.1 hk
    rw [hrow k (by omega)]
    rfl
  -- the fold
  let g : Nat → Option Nat := fun k => (breakIn l (beginnings l n p) p (it (wholeMove l n p) (FIRST + k) s) (minus (it (wholeMove l n p) (FIRST + k + strideOf l) s) (it (wholeMove l n p) (FIRST + k) s))).map fun q => FIRST + k + q * strideOf l
  have hfold : (List.range (strideOf l)).foldl (fun o k => match (rowsFrom (wholeMove l n p) (FIRST + 2 * strideOf l) s)[FIRST + k]?, (rowsFrom (wholeMove l n p) (FIRST + 2 * strideOf l) s)[FIRST + k + strideOf l]? with
      | some a, some b => (match breakIn l (beginnings l n p) p a (minus b a) with
        | none => o
        | some q => lesser o (FIRST + k + q * strideOf l))
      | _, _ => o) none = (List.range (strideOf l)).foldl (stepMin g) none := by
    apply foldl_congr
    intro o k hk
    have hk' : k < strideOf l := List.mem_range.1 hk
    rw [hrow _ (by omega), hrow _ (by omega)]
    simp only [g, stepMin]
    cases breakIn l (beginnings l n p) p (it (wholeMove l n p) (FIRST + k) s) (minus (it (wholeMove l n p) (FIRST + k + strideOf l) s) (it (wholeMove l n p) (FIRST + k) s)) <;> rfl
  have hmf := fold_min g (List.range (strideOf l)) none
  have hgoal : timesOf l p s = (match (List.range FIRST).find? (fun k => !follows l (beginnings l n p) p (it (wholeMove l n p) k s)) with
      | some k => some k
      | none => (List.range (strideOf l)).foldl (stepMin g) none) := by
    unfold timesOf
    simp only [hs]
    rw [hfe]
    cases (List.range FIRST).find? (fun k => !follows l (beginnings l n p) p (it (wholeMove l n p) k s)) with
    | some k => rfl
    | none => exact hfold
  rw [hgoal]
  revert hfirst
  cases (List.range FIRST).find? (fun k => !follows l (beginnings l n p) p (it (wholeMove l n p) k s)) with
  | some k =>
    intro h
    refine ⟨fun e => ?_, h.2.2⟩
    have h1 := h.2.1
    rw [show follows l (beginnings l n p) p (it (wholeMove l n p) k s) = true from e] at h1
    cases h1
  | none =>
    intro hF
    show LeastNot _ (List.foldl _ none _)
    -- every pass is among the first, or in a class
    have split : ∀ j, ¬ Fol l n p s j → ∃ k q, k < strideOf l ∧ j = FIRST + k + q * strideOf l ∧ ∃ q', q' ≤ q ∧ g k = some (FIRST + k + q' * strideOf l) ∧ ¬ Fol l n p s (FIRST + k + q' * strideOf l) := by
      intro j hj
      have hj4 : FIRST ≤ j := by
        apply Classical.byContradiction
        intro h
        exact hj (hF j (by omega))
      refine ⟨(j - FIRST) % strideOf l, (j - FIRST) / strideOf l, Nat.mod_lt _ hr0, ?_, ?_⟩
      · have := Nat.mod_add_div (j - FIRST) (strideOf l)
        rw [Nat.mul_comm] at this
        omega
      · have e : j = FIRST + (j - FIRST) % strideOf l + (j - FIRST) / strideOf l * strideOf l := by
          have := Nat.mod_add_div (j - FIRST) (strideOf l)
          rw [Nat.mul_comm] at this
          omega
        have hb := hbr ((j - FIRST) % strideOf l)
        simp only [g]
        revert hb
        cases breakIn l (beginnings l n p) p (it (wholeMove l n p) (FIRST + (j - FIRST) % strideOf l) s) (minus (it (wholeMove l n p) (FIRST + (j - FIRST) % strideOf l + strideOf l) s) (it (wholeMove l n p) (FIRST + (j - FIRST) % strideOf l) s)) with
        | none =>
          intro hb
          exfalso
          apply hj
          rw [e]
          exact hb _
        | some q' =>
          intro hb
          refine ⟨q', ?_, rfl, hb.1⟩
          apply Classical.byContradiction
          intro hlt
          apply hj
          rw [e]
          exact hb.2 _ (by omega)
    revert hmf
    cases List.foldl (stepMin g) none (List.range (strideOf l)) with
    | none =>
      intro hmf j
      apply Classical.byContradiction
      intro hj
      obtain ⟨k, q, hk, _, q', _, hg, _⟩ := split j hj
      rw [hmf.2 k (List.mem_range.2 hk)] at hg
      cases hg
    | some x =>
      intro hmf
      constructor
      · rcases hmf.1 with e | ⟨k, hk, hg⟩
        · cases e
        · have hb := hbr k
          simp only [g] at hg
          revert hb hg
          cases breakIn l (beginnings l n p) p (it (wholeMove l n p) (FIRST + k) s) (minus (it (wholeMove l n p) (FIRST + k + strideOf l) s) (it (wholeMove l n p) (FIRST + k) s)) with
          | none => intro hg _; cases hg
          | some q =>
            intro hg hb
            have : FIRST + k + q * strideOf l = x := Option.some.inj hg
            rw [← this]
            exact hb.1
      · intro j hjx
        apply Classical.byContradiction
        intro hj
        obtain ⟨k, q, hk, ej, q', hq', hg, _⟩ := split j hj
        have := hmf.2.2 k (List.mem_range.2 hk) _ hg
        have h2 : q' * strideOf l ≤ q * strideOf l := Nat.mul_le_mul_right _ hq'
        omega
end Mth
/-! MthD -/
namespace Mth
open VaaclBase Vaacld

theorem it_double (m : Move) : ∀ (k : Nat) (s : Values), it (Vaacld.andThen m m) k s = it m (2 * k) s
  | 0, _ => rfl
  | k + 1, s => by
    show it (Vaacld.andThen m m) k (moved (Vaacld.andThen m m) s) = _
    rw [moved_andThen, it_double m k]
    show _ = it m (2 * k + 2) s
    rw [Nat.add_comm, it_add]
    rfl

theorem manyFrom_it : ∀ (f : Nat) (m : Move) (n : Nat) (s : Values), n < 2 ^ f → manyFrom f m n s = it m n s
  | 0, m, n, s, h => by
    have : n = 0 := by simpa using h
    subst this
    rfl
  | f + 1, m, n, s, h => by
    unfold manyFrom
    by_cases h0 : n = 0
    · subst h0; rfl
    · rw [if_neg h0, manyFrom_it f _ _ _ (by rw [Nat.pow_succ] at h; omega), it_double]
      have hd := Nat.div_add_mod n 2
      by_cases h1 : n % 2 = 1
      · rw [if_pos h1]
        have e : n = (2 * (n / 2)) + 1 := by omega
        show it m (2 * (n / 2) + 1) s = it m n s
        rw [← e]
      · rw [if_neg h1]
        have e : n = 2 * (n / 2) := by omega
        rw [← e]

/-! ### How great values and times can be -/
def Bd (B : Int) (s : Values) : Prop := ∀ i, -B ≤ valueAt s i ∧ valueAt s i ≤ B

theorem Bd.mono {B C : Int} {s : Values} (h : Bd B s) (hc : B ≤ C) : Bd C s := fun i => by
  have := h i
  omega

theorem Bd.nonneg {B : Int} {s : Values} (h : Bd B s) : 0 ≤ B := by
  have := h 0
  omega

theorem Bd.moved {B : Int} {s : Values} (h : Bd B s) {m : Move} (hm : ∀ g ∈ m, -99 ≤ g.add ∧ g.add ≤ 99) : Bd (B + 99) (moved m s) := by
  intro i
  rw [valueAt_moved]
  have hB := h.nonneg
  cases hg : m[i]? with
  | none => simp [given]; omega
  | some g =>
    have := hm g (List.mem_of_getElem? hg)
    simp only [Option.getD_some, given]
    cases g.source with
    | none => simp; omega
    | some j =>
      have := h j
      simp only [Option.map_some, Option.getD_some]
      omega

theorem Bd.runs {n : Nat} {l : Loop} (hl : OkLoop n l) : ∀ (p : List Nat), (∀ b ∈ p, b < l.length) → ∀ {B : Int} {s : Values}, Bd B s →
    Bd (B + 99 * (p.length : Int)) (runs l p s)
  | [], _, B, s, h => h.mono (by simp)
  | b :: p, hp, B, s, h => by
    have h1 := h.moved (hl.all _ (branchAt_mem (hp b List.mem_cons_self))).adds
    have h2 := Bd.runs hl p (fun c hc => hp c (List.mem_cons_of_mem _ hc)) h1
    refine Bd.mono h2 ?_
    rw [List.length_cons, Int.natCast_succ]
    omega

theorem Bd.it {n : Nat} {l : Loop} (hl : OkLoop n l) {p : List Nat} (hp : ∀ b ∈ p, b < l.length) (h3 : p.length ≤ 3) :
    ∀ (k : Nat) {B : Int} {s : Values}, s.length = n → Bd B s → Bd (B + 297 * (k : Int)) (it (wholeMove l n p) k s)
  | 0, B, s, _, h => h.mono (by simp)
  | k + 1, B, s, hs, h => by
    show Bd _ (Mth.it (wholeMove l n p) k (VaaclBase.moved (wholeMove l n p) s))
    have hW := OkMove.whole hl hp
    have h1 : Bd (B + 297) (VaaclBase.moved (wholeMove l n p) s) := by
      have e : VaaclBase.moved (wholeMove l n p) s = Mth.runs l p s := by rw [← hs]; exact moved_wholeMove l p s
      rw [e]
      exact (Bd.runs hl p hp h).mono (by omega)
    refine (Bd.it hl hp h3 k (by rw [moved_length, hW.len]) h1).mono ?_
    rw [Int.natCast_succ]
    omega

theorem moved_beginnings {l : Loop} {n : Nat} {p : List Nat} {s : Values} (hs : s.length = n) {m : Move} (hm : m ∈ beginnings l n p) :
    ∃ i, i < p.length ∧ moved m s = runs l (p.take i) s := by
  obtain ⟨i, hi, rfl⟩ := List.mem_map.1 hm
  refine ⟨i, List.mem_range.1 hi, ?_⟩
  rw [moved_fold, ← hs, moved_still]

theorem turnsAt_le {a d c : Int} {q : Nat} (h : q ∈ turnsAt a d c) {B : Int} (ha : -B ≤ a ∧ a ≤ B) (hc : -B ≤ c ∧ c ≤ B) : (q : Int) ≤ 2 * B + 1 := by
  unfold turnsAt at h
  have hB : 0 ≤ B := by omega
  split at h
  · exact absurd h List.not_mem_nil
  · split at h
    · rename_i hd
      split at h
      · rename_i hac
        rw [List.mem_singleton] at h
        have h1 : (c - a) / d ≤ c - a := Int.ediv_le_self _ (by omega)
        have h2 : 0 ≤ (c - a) / d := Int.ediv_nonneg (by omega) (by omega)
        omega
      · exact absurd h List.not_mem_nil
    · split at h
      · rename_i h0 hd hac
        rw [List.mem_singleton] at h
        have e : (a - c + (0 - d) - 1) / (0 - d) = (a - c - 1) / (0 - d) + 1 := by
          have : a - c + (0 - d) - 1 = (a - c - 1) + 1 * (0 - d) := by omega
          rw [this, Int.add_mul_ediv_right _ _ (by omega)]
        have h1 : (a - c - 1) / (0 - d) ≤ a - c - 1 := Int.ediv_le_self _ (by omega)
        have h2 : 0 ≤ (a - c - 1) / (0 - d) := Int.ediv_nonneg (by omega) (by omega)
        omega
      · exact absurd h List.not_mem_nil

theorem turnsOf_le {u v : Values} {n : Nat} {t : Test} (ht : okTest n t = true) {B : Int} (hu : Bd B u) (h1 : 1000000 ≤ B) {q : Nat}
    (h : q ∈ turnsOf u v t) : (q : Int) ≤ 4 * B + 1 := by
  cases t with
  | atMost x c =>
    simp only [okTest, Bool.and_eq_true, decide_eq_true_eq] at ht
    unfold LIMIT at ht
    have := turnsAt_le h (hu x) (by omega)
    omega
  | atLeast x c =>
    simp only [okTest, Bool.and_eq_true, decide_eq_true_eq] at ht
    unfold LIMIT at ht
    have := turnsAt_le h (hu x) (by omega)
    omega
  | below x y c =>
    simp only [okTest, Bool.and_eq_true, decide_eq_true_eq] at ht
    unfold LIMIT at ht
    have hx := hu x
    have hy := hu y
    have := turnsAt_le (B := 2 * B) h (by omega) (by omega)
    omega
  | rem x m r => exact absurd h List.not_mem_nil

theorem breakIn_mem {l : Loop} {ms : List Move} {p : List Nat} {a d : Values} {q : Nat} (h : breakIn l ms p a d = some q) : q ∈ turnsIn l ms a d := by
  have hf := fold_least (fun q => follows l ms p (evenAt a d q)) (turnsIn l ms a d) none
  have e : List.foldl (fun o q => if follows l ms p (evenAt a d q) = true then o else lesser o q) none (turnsIn l ms a d) = some q := h
  rw [e] at hf
  rcases hf.1 with h | h
  · cases h
  · exact h.1

/-- a leap's values aren't beyond -/
def FAR : Int := 1000000000000

theorem timesOf_lt {n : Nat} {l : Loop} (hl : OkLoop n l) {p : List Nat} (hp : ∀ b ∈ p, b < l.length) (h3 : p.length ≤ 3) {s : Values} (hs : s.length = n)
    (hB : Bd FAR s) {x : Nat} (h : timesOf l p s = some x) : x < 2 ^ 60 := by
  have hstr : strideOf l ≤ 144 ∧ 0 < strideOf l := by
    rcases strideOf_eq l with h | h
    · rw [h.1]; decide
    · rw [h]; decide
  have hrow : ∀ k, k ≤ FIRST + 2 * strideOf l → (rowsFrom (wholeMove l n p) (FIRST + 2 * strideOf l) s)[k]? = some (it (wholeMove l n p) k s) :=
    fun k hk => rowsFrom_get _ _ _ _ hk
  unfold timesOf at h
  simp only [hs] at h
  split at h
  · rename_i k hk
    have := List.mem_range.1 (List.mem_of_find?_eq_some hk)
    have hx : k = x := Option.some.inj h
    have : FIRST = 4 := rfl
    omega
  · -- the fold
    let g : Nat → Option Nat := fun k => (breakIn l (beginnings l n p) p (it (wholeMove l n p) (FIRST + k) s) (minus (it (wholeMove l n p) (FIRST + k + strideOf l) s) (it (wholeMove l n p) (FIRST + k) s))).map fun q => FIRST + k + q * strideOf l
    have hfold : (List.range (strideOf l)).foldl (fun o k => match (rowsFrom (wholeMove l n p) (FIRST + 2 * strideOf l) s)[FIRST + k]?, (rowsFrom (wholeMove l n p) (FIRST + 2 * strideOf l) s)[FIRST + k + strideOf l]? with
        | some a, some b => (match breakIn l (beginnings l n p) p a (minus b a) with
          | none => o
          | some q => lesser o (FIRST + k + q * strideOf l))
        | _, _ => o) none = (List.range (strideOf l)).foldl (stepMin g) none := by
      apply foldl_congr
      intro o k hk
      have hk' : k < strideOf l := List.mem_range.1 hk
      rw [hrow _ (by omega), hrow _ (by omega)]
      simp only [g, stepMin]
      cases breakIn l (beginnings l n p) p (it (wholeMove l n p) (FIRST + k) s) (minus (it (wholeMove l n p) (FIRST + k + strideOf l) s) (it (wholeMove l n p) (FIRST + k) s)) <;> rfl
    have h2 : (List.range (strideOf l)).foldl (stepMin g) none = some x := by
      rw [← hfold]
      exact h
    have hm := fold_min g (List.range (strideOf l)) none
    rw [h2] at hm
    rcases hm.1 with e | ⟨k, hk, hg⟩
    · cases e
    · have hk' : k < strideOf l := List.mem_range.1 hk
      simp only [g] at hg
      cases hb : breakIn l (beginnings l n p) p (it (wholeMove l n p) (FIRST + k) s) (minus (it (wholeMove l n p) (FIRST + k + strideOf l) s) (it (wholeMove l n p) (FIRST + k) s)) with
      | none => rw [hb] at hg; cases hg
      | some q =>
        rw [hb] at hg
        have hx : FIRST + k + q * strideOf l = x := Option.some.inj hg
        have hq : (q : Int) ≤ 4 * (FAR + 50000) + 1 := by
          have hmem := breakIn_mem hb
          unfold turnsIn at hmem
          rcases List.mem_cons.1 hmem with e | hmem
          · subst e; decide
          · obtain ⟨m, hm, hmem⟩ := List.mem_flatMap.1 hmem
            obtain ⟨t, ht, hmem⟩ := List.mem_flatMap.1 hmem
            have hlen : (it (wholeMove l n p) (FIRST + k) s).length = n := by
              rw [it_length (by rw [(OkMove.whole hl hp).len, hs]), hs]
            obtain ⟨i, hi, e⟩ := moved_beginnings hlen hm
            have hb1 := Bd.it hl hp h3 (FIRST + k) hs hB
            have hb2 := Bd.runs hl (p.take i) (fun b hb => hp b (List.mem_of_mem_take hb)) hb1
            rw [← e] at hb2
            have hi3 : ((p.take i).length : Int) ≤ 3 := by rw [List.length_take]; omega
            have hkk : ((FIRST + k : Nat) : Int) ≤ 148 := by
              have : FIRST = 4 := rfl
              omega
            have hb3 : Bd (FAR + 50000) (moved m (it (wholeMove l n p) (FIRST + k) s)) := hb2.mono (by omega)
            exact turnsOf_le (allTests_ok hl ht) hb3 (by decide) hmem
        have hqn : q ≤ 4000000200001 := by
          have : FAR = 1000000000000 := rfl
          omega
        have h5 : q * strideOf l ≤ 4000000200001 * 144 := Nat.mul_le_mul hqn hstr.1
        have : FIRST = 4 := rfl
        have h60 : (2 : Nat) ^ 60 = 1152921504606846976 := by decide
        omega

/-- the values behind a leap -/
theorem many_it {n : Nat} {l : Loop} (hl : OkLoop n l) {p : List Nat} (hp : ∀ b ∈ p, b < l.length) (h3 : p.length ≤ 3) {s : Values} (hs : s.length = n)
    (hB : Bd FAR s) {x : Nat} (h : timesOf l p s = some x) : manyFrom DIGITS (wholeMove l s.length p) x s = it (wholeMove l n p) x s := by
  rw [hs]
  apply manyFrom_it
  exact Nat.lt_of_lt_of_le (timesOf_lt hl hp h3 hs hB h) (Nat.pow_le_pow_right (by decide) (by decide))
end Mth
/-! MthE -/
namespace Mth
open VaaclBase Vaacld

/-- the values ahead of each round, while a pattern is done -/
def ahead (l : Loop) (p : List Nat) (s : Values) : Nat → Values
  | 0 => s
  | i + 1 => moved (moveOf l (p.getD (i % p.length) 0)) (ahead l p s i)

/-- the pattern's branch is chosen by a round -/
def Gr (l : Loop) (p : List Nat) (s : Values) (i : Nat) : Prop := chosen l (ahead l p s i) = some (p.getD (i % p.length) 0)

theorem ahead_length {n : Nat} {l : Loop} (hl : OkLoop n l) {p : List Nat} (hp : ∀ b ∈ p, b < l.length) (h0 : p ≠ []) {s : Values} (hs : s.length = n) :
    ∀ i, (ahead l p s i).length = n
  | 0 => hs
  | i + 1 => by
    have hpos : 0 < p.length := List.length_pos_iff.2 h0
    have hi : i % p.length < p.length := Nat.mod_lt _ hpos
    show (moved _ _).length = n
    rw [moved_length]
    refine (hl.all _ (branchAt_mem (hp _ ?_))).move.len
    rw [List.getD_eq_getElem?_getD, List.getElem?_eq_getElem hi, Option.getD_some]
    exact List.getElem_mem hi

theorem ahead_pass {n : Nat} {l : Loop} (hl : OkLoop n l) {p : List Nat} (hp : ∀ b ∈ p, b < l.length) (h0 : p ≠ []) {s : Values} (hs : s.length = n) :
    ∀ (k i : Nat), i ≤ p.length → ahead l p s (k * p.length + i) = runs l (p.take i) (it (wholeMove l n p) k s)
  | k, i + 1, h => by
    have ih := ahead_pass hl hp h0 hs k i (by omega)
    have e : (k * p.length + i) % p.length = i := by
      rw [Nat.mul_comm, Nat.mul_add_mod, Nat.mod_eq_of_lt (by omega)]
    show moved (moveOf l (p.getD ((k * p.length + i) % p.length) 0)) (ahead l p s (k * p.length + i)) = _
    rw [ih, e, List.take_succ_eq_append_getElem (by omega), runs_append]
    rw [List.getD_eq_getElem?_getD, List.getElem?_eq_getElem (by omega), Option.getD_some]
    rfl
  | 0, 0, _ => by rw [Nat.zero_mul]; rfl
  | k + 1, 0, _ => by
    have ih := ahead_pass hl hp h0 hs k p.length (Nat.le_refl _)
    rw [Nat.succ_mul, Nat.add_zero, ih, List.take_length, it_succ]
    have hW := OkMove.whole hl hp
    have hlen : (it (wholeMove l n p) k s).length = n := by rw [it_length (by rw [hW.len, hs]), hs]
    have := moved_wholeMove l p (it (wholeMove l n p) k s)
    rw [hlen] at this
    rw [this]
    rfl
termination_by k i => (k, i)

theorem zip_all {A B : Type} (f : A × B → Bool) : ∀ (a : List A) (b : List B), a.length = b.length →
    ((a.zip b).all f = true ↔ ∀ i (h : i < a.length) (h2 : i < b.length), f (a[i], b[i]) = true)
  | [], [], _ => by simp
  | x :: a, y :: b, h => by
    have hl : a.length = b.length := by simpa using h
    rw [List.zip_cons_cons, List.all_cons, Bool.and_eq_true, zip_all f a b hl]
    constructor
    · rintro ⟨h1, h2⟩ i hi hj
      cases i with
      | zero => exact h1
      | succ i => exact h2 i (by simpa using hi) (by simpa using hj)
    · intro g
      refine ⟨g 0 (by simp) (by simp), fun i hi hj => ?_⟩
      exact g (i + 1) (by simpa using hi) (by simpa using hj)

theorem fol_iff {n : Nat} {l : Loop} (hl : OkLoop n l) {p : List Nat} (hp : ∀ b ∈ p, b < l.length) (h0 : p ≠ []) {s : Values} (hs : s.length = n) (k : Nat) :
    Fol l n p s k ↔ ∀ i, i < p.length → Gr l p s (k * p.length + i) := by
  have hW := OkMove.whole hl hp
  have hlen : (it (wholeMove l n p) k s).length = n := by rw [it_length (by rw [hW.len, hs]), hs]
  unfold Fol follows
  have hbl : (beginnings l n p).length = p.length := by simp [beginnings]
  rw [zip_all _ _ _ hbl]
  have hm : ∀ i (h : i < (beginnings l n p).length), moved ((beginnings l n p)[i]) (it (wholeMove l n p) k s) = runs l (p.take i) (it (wholeMove l n p) k s) := by
    intro i h
    have e : (beginnings l n p)[i] = (p.take i).foldl (fun m b => Vaacld.andThen m (moveOf l b)) (still n) := by
      simp [beginnings]
    rw [e, moved_fold]
    have hst := moved_still (it (wholeMove l n p) k s)
    rw [hlen] at hst
    rw [hst]
  constructor
  · intro h i hi
    have := h i (by omega) hi
    rw [hm] at this
    have e := eq_of_beq this
    unfold Gr
    rw [ahead_pass hl hp h0 hs k i (by omega), e, Nat.mul_comm, Nat.mul_add_mod, Nat.mod_eq_of_lt hi,
      List.getD_eq_getElem?_getD, List.getElem?_eq_getElem hi, Option.getD_some]
  · intro h i h1 hi
    have := h i hi
    unfold Gr at this
    rw [ahead_pass hl hp h0 hs k i (by omega), Nat.mul_comm, Nat.mul_add_mod, Nat.mod_eq_of_lt hi,
      List.getD_eq_getElem?_getD, List.getElem?_eq_getElem hi, Option.getD_some] at this
    simp only
    rw [hm, this]
    exact beq_self_eq_true _

/-- rounds and passes -/
theorem leastNot_pass {n : Nat} {l : Loop} (hl : OkLoop n l) {p : List Nat} (hp : ∀ b ∈ p, b < l.length) (h0 : p ≠ []) {s : Values} (hs : s.length = n) {r : Nat}
    (h : LeastNot (Gr l p s) (some r)) : LeastNot (Fol l n p s) (some (r / p.length)) := by
  have hpos : 0 < p.length := List.length_pos_iff.2 h0
  constructor
  · intro hf
    have := (fol_iff hl hp h0 hs _).1 hf (r % p.length) (Nat.mod_lt _ hpos)
    rw [Nat.mul_comm, Nat.div_add_mod] at this
    exact h.1 this
  · intro j hj
    refine (fol_iff hl hp h0 hs _).2 (fun i hi => h.2 _ ?_)
    have h1 : (j + 1) * p.length ≤ r / p.length * p.length := Nat.mul_le_mul_right _ hj
    have h2 := Nat.div_mul_le_self r p.length
    rw [Nat.succ_mul] at h1
    omega

/-! ### Spans -/
/-- how far a test is from failing -/
def room (t : Test) (s : Values) : Int := match t with
  | .atMost x c => c - valueAt s x
  | .atLeast x c => valueAt s x - c
  | .below x y c => valueAt s y + c - valueAt s x
  | .rem _ _ _ => 0

theorem holds_room {t : Test} (h : isRem t = false) (s : Values) : holds s t = decide (0 ≤ room t s) := by
  cases t with
  | atMost x c => simp only [holds, room]; congr 1; apply propext; omega
  | atLeast x c => simp only [holds, room]; congr 1; apply propext; omega
  | below x y c => simp only [holds, room]; congr 1; apply propext; omega
  | rem x m r => cases h

def soonerN : Option Nat → Option Nat → Option Nat
  | none, b => b
  | a, none => a
  | some a, some b => some (min a b)

def spanT (t : Test) (h l : Values) : Nat × Option Nat :=
  if isRem t then (0, if holds h t then none else some 0) else
  let r := room t h
  let g := room t l - r
  if g < 0 then (0, some (max 0 (r / (-g) + 1)).toNat)
  else if 0 ≤ r then (0, none)
  else if g = 0 then (0, some 0) else ((-(r / g)).toNat, none)

def inSpan (s : Nat × Option Nat) (q : Nat) : Prop := s.1 ≤ q ∧ ∀ e, s.2 = some e → q < e

theorem room_plus {a d : Values} (h : a.length = d.length) (t : Test) (ht : isRem t = false) (q : Nat) :
    room t (plus a d q) = room t a + q * (room t (plus a d 1) - room t a) := by
  have e1 : ∀ i, valueAt (plus a d q) i = valueAt a i + (q : Int) * valueAt d i := fun i => valueAt_plus h i
  have e2 : ∀ i, valueAt (plus a d 1) i = valueAt a i + valueAt d i := fun i => by rw [valueAt_plus h]; omega
  cases t with
  | atMost x c =>
    simp only [room, e1, e2]
    have : (c - (valueAt a x + valueAt d x) - (c - valueAt a x)) = -valueAt d x := by omega
    rw [this, Int.mul_neg]; omega
  | atLeast x c =>
    simp only [room, e1, e2]
    have : ((valueAt a x + valueAt d x) - c - (valueAt a x - c)) = valueAt d x := by omega
    rw [this]; omega
  | below x y c =>
    simp only [room, e1, e2]
    have : (valueAt a y + valueAt d y + c - (valueAt a x + valueAt d x) - (valueAt a y + c - valueAt a x)) = valueAt d y - valueAt d x := by omega
    rw [this, Int.mul_sub]; omega
  | rem x m r => cases ht

theorem spanT_iff {a d : Values} (h : a.length = d.length) (t : Test) (hr : ∀ x m r, t = .rem x m r → (m : Int) ∣ valueAt d x) (q : Nat) :
    holds (plus a d q) t = true ↔ inSpan (spanT t a (plus a d 1)) q := by
  cases hi : isRem t with
  | true =>
    unfold spanT inSpan
    rw [if_pos hi]
    cases t with
    | rem x m r =>
      have hd := hr x m r rfl
      have e : holds (plus a d q) (.rem x m r) = holds a (.rem x m r) := by
        simp only [holds]
        rw [valueAt_plus h, Int.add_emod, Int.emod_eq_zero_of_dvd (Int.dvd_trans hd (Int.dvd_mul_left _ _)), Int.add_zero, Int.emod_emod]
      rw [e]
      cases hh : holds a (.rem x m r) with
      | true => simp
      | false => simp
    | _ => cases hi
  | false =>
    rw [holds_room hi, decide_eq_true_eq, room_plus h t hi]
    unfold spanT inSpan
    rw [if_neg (by rw [hi]; decide)]
    simp only
    generalize room t a = r
    generalize room t (plus a d 1) - r = g
    have hq : (0 : Int) ≤ (q : Int) := Int.natCast_nonneg q
    by_cases h1 : g < 0
    · rw [if_pos h1]
      simp only [Nat.zero_le, true_and, Option.some.injEq, forall_eq']
      have hm : (q : Int) * g = - ((q : Int) * (-g)) := by rw [Int.mul_neg]; omega
      have hle : 0 ≤ r + (q : Int) * g ↔ (q : Int) * (-g) ≤ r := by omega
      rw [hle, ← Int.le_ediv_iff_mul_le (by omega)]
      omega
    · rw [if_neg h1]
      by_cases h2 : 0 ≤ r
      · rw [if_pos h2]
        have : 0 ≤ (q : Int) * g := Int.mul_nonneg hq (by omega)
        simp
        omega
      · rw [if_neg h2]
        by_cases h3 : g = 0
        · rw [if_pos h3]
          subst h3
          simp
          omega
        · rw [if_neg h3]
          simp only [reduceCtorEq, false_implies, implies_true, and_true]
          have hle : 0 ≤ r + (q : Int) * g ↔ (-(q : Int)) * g ≤ r := by rw [Int.neg_mul]; omega
          rw [hle, ← Int.le_ediv_iff_mul_le (by omega)]
          omega

/-- a branch's tests one after the other -/
def spanG : List Test → Nat × Option Nat → Values → Values → Nat × Option Nat
  | [], o, _, _ => o
  | t :: r, o, h, l => spanG r (max o.1 (spanT t h l).1, soonerN o.2 (spanT t h l).2) h l

def spanB (b : Branch) (h l : Values) : Nat × Option Nat := spanG b.guard (0, none) h l

theorem inSpan_meet (a b : Nat × Option Nat) (q : Nat) : inSpan (max a.1 b.1, soonerN a.2 b.2) q ↔ inSpan a q ∧ inSpan b q := by
  obtain ⟨s, e⟩ := a
  obtain ⟨s', e'⟩ := b
  unfold inSpan soonerN
  cases e <;> cases e' <;> simp <;> omega

theorem spanG_iff {a d : Values} (h : a.length = d.length) (q : Nat) : ∀ (g : List Test) (o : Nat × Option Nat), (∀ t ∈ g, ∀ x m r, t = Test.rem x m r → (m : Int) ∣ valueAt d x) →
    (inSpan (spanG g o a (plus a d 1)) q ↔ inSpan o q ∧ ∀ t ∈ g, holds (plus a d q) t = true)
  | [], o, _ => by simp [spanG]
  | t :: g, o, hr => by
    show inSpan (spanG g _ a (plus a d 1)) q ↔ _
    rw [spanG_iff h q g _ (fun t' ht' => hr t' (List.mem_cons_of_mem _ ht')), inSpan_meet, ← spanT_iff h t (hr t List.mem_cons_self)]
    simp only [List.mem_cons, forall_eq_or_imp]
    constructor
    · rintro ⟨⟨a, b⟩, c⟩; exact ⟨a, b, c⟩
    · rintro ⟨a, b, c⟩; exact ⟨⟨a, b⟩, c⟩

theorem spanB_iff {a d : Values} (h : a.length = d.length) (b : Branch) (hr : ∀ t ∈ b.guard, ∀ x m r, t = Test.rem x m r → (m : Int) ∣ valueAt d x) (q : Nat) :
    allHold (plus a d q) b.guard = true ↔ inSpan (spanB b a (plus a d 1)) q := by
  unfold spanB
  rw [spanG_iff h q _ _ hr]
  unfold allHold
  rw [List.all_eq_true]
  simp [inSpan]

/-- a branch ahead of the chosen one taken in -/
def missStep (h l : Values) (o : Option Nat) (b : Branch) : Option Nat :=
  match (spanB b h l).2 with
  | none => soonerN o (some (spanB b h l).1)
  | some e => if (spanB b h l).1 < e then soonerN o (some (spanB b h l).1) else o

def missOf (l : Loop) (k : Nat) (h t : Values) : Option Nat :=
  (l.take k).foldl (missStep h t) (spanB (branchAt l k) h t).2

/-- the first time at which one of some spans is met -/
theorem miss_least (here later : Values) : ∀ (bs : List Branch) (o : Option Nat) (F : Nat → Prop), LeastNot F o →
    (∀ q q', q ≤ q' → F q' → F q) →
    LeastNot (fun q => F q ∧ ∀ b ∈ bs, ∀ q', q' ≤ q → ¬ inSpan (spanB b here later) q') (bs.foldl (missStep here later) o)
  | [], o, F, h, _ => by
    have : (fun q => F q ∧ ∀ b ∈ ([] : List Branch), ∀ q', q' ≤ q → ¬ inSpan (spanB b here later) q') = F := by
      funext q; simp
    rw [this]; exact h
  | b :: bs, o, F, h, hm => by
    rw [List.foldl_cons]
    have h2 : LeastNot (fun q => F q ∧ ∀ q', q' ≤ q → ¬ inSpan (spanB b here later) q') (missStep here later o b) := by
      unfold missStep
      generalize spanB b here later = sp
      obtain ⟨st, e⟩ := sp
      have key : (e = none ∨ ∃ x, e = some x ∧ st < x) → LeastNot (fun q => F q ∧ ∀ q', q' ≤ q → ¬ inSpan (st, e) q') (soonerN o (some st)) := by
        intro he
        have hst : inSpan (st, e) st := by
          refine ⟨Nat.le_refl _, fun x hx => ?_⟩
          rcases he with he | ⟨y, hy, hlt⟩
          · rw [he] at hx; cases hx
          · have hx' : e = some x := hx
            rw [hy] at hx'; cases hx'; exact hlt
        have hlt : ∀ q, q < st → ∀ q', q' ≤ q → ¬ inSpan (st, e) q' := fun q hq q' hq' hin => by
          have := hin.1
          simp only at this
          omega
        cases o with
        | none =>
          exact ⟨fun hf => hf.2 st (Nat.le_refl _) hst, fun j hj => ⟨h j, hlt j hj⟩⟩
        | some y =>
          refine ⟨fun hf => ?_, fun j hj => ?_⟩
          · by_cases c : y ≤ st
            · exact h.1 (by have := hf.1; rwa [Nat.min_eq_left c] at this)
            · refine hf.2 st ?_ hst
              rw [Nat.min_eq_right (by omega)]; exact Nat.le_refl _
          · have h1 := Nat.lt_of_lt_of_le hj (Nat.min_le_left _ _)
            have h2 := Nat.lt_of_lt_of_le hj (Nat.min_le_right _ _)
            exact ⟨h.2 j h1, hlt j h2⟩
      have key2 : (∃ x, e = some x ∧ ¬ st < x) → LeastNot (fun q => F q ∧ ∀ q', q' ≤ q → ¬ inSpan (st, e) q') o := by
        rintro ⟨x, hx, hlt⟩
        have hno : ∀ q', ¬ inSpan (st, e) q' := fun q' hin => by
          have h1 := hin.1
          have h2 := hin.2 x hx
          simp only at h1
          omega
        have : (fun q => F q ∧ ∀ q', q' ≤ q → ¬ inSpan (st, e) q') = F := by
          funext q
          apply propext
          exact ⟨fun h => h.1, fun h => ⟨h, fun q' _ => hno q'⟩⟩
        rw [this]; exact h
      cases e with
      | none => exact key (.inl rfl)
      | some x =>
        simp only
        by_cases c : st < x
        · rw [if_pos c]; exact key (.inr ⟨x, rfl, c⟩)
        · rw [if_neg c]; exact key2 ⟨x, rfl, c⟩
    have ih := miss_least here later bs _ _ h2 (fun q q' hq hf => ⟨hm q q' hq hf.1, fun r hr => hf.2 r (by omega)⟩)
    have e : (fun q => (F q ∧ ∀ q', q' ≤ q → ¬ inSpan (spanB b here later) q') ∧ ∀ b ∈ bs, ∀ q', q' ≤ q → ¬ inSpan (spanB b here later) q') =
        (fun q => F q ∧ ∀ b' ∈ b :: bs, ∀ q', q' ≤ q → ¬ inSpan (spanB b' here later) q') := by
      funext q
      apply propext
      simp only [List.mem_cons, forall_eq_or_imp]
      constructor
      · rintro ⟨⟨x, y⟩, z⟩; exact ⟨x, y, z⟩
      · rintro ⟨x, y, z⟩; exact ⟨⟨x, y⟩, z⟩
    rw [← e]; exact ih

theorem chosen_iff (l : Loop) (s : Values) (k : Nat) (hk : k < l.length) :
    chosen l s = some k ↔ allHold s (branchAt l k).guard = true ∧ ∀ b ∈ l.take k, allHold s b.guard = false := by
  unfold chosen
  rw [List.findIdx?_eq_some_iff_getElem]
  have e : branchAt l k = l[k] := by simp [branchAt, hk]
  constructor
  · rintro ⟨_, h1, h2⟩
    refine ⟨by rw [e]; exact h1, ?_⟩
    intro b hb
    obtain ⟨i, hi, rfl⟩ := List.mem_take_iff_getElem.1 hb
    have := h2 i (by omega)
    simpa using this
  · rintro ⟨h1, h2⟩
    refine ⟨hk, by rw [← e]; exact h1, ?_⟩
    intro j hj
    have := h2 (l[j]) (List.mem_take_iff_getElem.2 ⟨j, by omega, rfl⟩)
    simp [this]

/-- **the first turn at which a branch, chosen at turn 0, is not chosen** -/
theorem missOf_least {l : Loop} {k : Nat} (hk : k < l.length) {a d : Values} (h : a.length = d.length)
    (hr : ∀ b ∈ l, ∀ t ∈ b.guard, ∀ x m r, t = Test.rem x m r → (m : Int) ∣ valueAt d x) (h0 : chosen l a = some k) :
    LeastNot (fun q => chosen l (plus a d (q : Int)) = some k) (missOf l k a (plus a d 1)) := by
  have hb := branchAt_mem hk
  have h00 := (chosen_iff l a k hk).1 h0
  have hz : plus a d ((0 : Nat) : Int) = a := plus_zero h
  have hin0 : inSpan (spanB (branchAt l k) a (plus a d 1)) 0 := by
    rw [← spanB_iff h _ (hr _ hb), hz]
    exact h00.1
  have hs0 : (spanB (branchAt l k) a (plus a d 1)).1 = 0 := Nat.le_zero.1 hin0.1
  -- the branch itself
  have hF : LeastNot (fun q => ∀ q', q' ≤ q → inSpan (spanB (branchAt l k) a (plus a d 1)) q') (spanB (branchAt l k) a (plus a d 1)).2 := by
    generalize hsp : spanB (branchAt l k) a (plus a d 1) = sp at *
    obtain ⟨st, e⟩ := sp
    simp only at hs0
    subst hs0
    cases e with
    | none => exact fun q q' _ => ⟨Nat.zero_le _, fun e he => nomatch he⟩
    | some e =>
      refine ⟨fun hf => Nat.lt_irrefl _ ((hf e (Nat.le_refl _)).2 e rfl), fun j hj q' hq' => ⟨Nat.zero_le _, fun e' he' => ?_⟩⟩
      have he2 : some e = some e' := he'
      cases he2
      omega
  have hm := miss_least a (plus a d 1) (l.take k) _ _ hF (fun q q' hq hf r hr => hf r (by omega))
  have hiff : ∀ q, chosen l (plus a d ((q : Nat) : Int)) = some k ↔ inSpan (spanB (branchAt l k) a (plus a d 1)) q ∧ ∀ b ∈ l.take k, ¬ inSpan (spanB b a (plus a d 1)) q := by
    intro q
    rw [chosen_iff l _ k hk, spanB_iff h _ (hr _ hb)]
    constructor
    · rintro ⟨h1, h2⟩
      refine ⟨h1, fun b hb' => ?_⟩
      rw [← spanB_iff h _ (hr _ (List.mem_of_mem_take hb')), h2 b hb']
      decide
    · rintro ⟨h1, h2⟩
      refine ⟨h1, fun b hb' => ?_⟩
      have := h2 b hb'
      rw [← spanB_iff h _ (hr _ (List.mem_of_mem_take hb'))] at this
      simpa using this
  show LeastNot _ (List.foldl _ _ _)
  revert hm
  cases List.foldl (missStep a (plus a d 1)) (spanB (branchAt l k) a (plus a d 1)).2 (l.take k) with
  | none =>
    intro hm q
    exact (hiff q).2 ⟨(hm q).1 q (Nat.le_refl _), fun b hb' => (hm q).2 b hb' q (Nat.le_refl _)⟩
  | some x =>
    intro hm
    refine ⟨fun hx => hm.1 ⟨fun q' hq' => ?_, fun b hb' q' hq' => ?_⟩, fun j hj => ?_⟩
    · by_cases c : q' = x
      · rw [c]; exact ((hiff x).1 hx).1
      · exact (hm.2 q' (by omega)).1 q' (Nat.le_refl _)
    · by_cases c : q' = x
      · rw [c]; exact ((hiff x).1 hx).2 b hb'
      · exact (hm.2 q' (by omega)).2 b hb' q' (Nat.le_refl _)
    · exact (hiff j).2 ⟨(hm.2 j hj).1 j (Nat.le_refl _), fun b hb' => (hm.2 j hj).2 b hb' j (Nat.le_refl _)⟩
end Mth
/-! MthF -/
namespace Mth
open VaaclBase Vaacld

/-! ### How often, as the program finds it -/
def turnOf (n : Nat) : Nat := ring n * 12

/-- what is added to each value in a turn, at a place of the pattern -/
def growAt (l : Loop) (p : List Nat) (s : Values) (n i : Nat) : Values :=
  ((ahead l p s (n * p.length + i)).zip (ahead l p s (n * p.length + i + ring n * p.length))).map fun x => (x.2 - x.1) * 12

def sumOf (a b : Values) : Values := (a.zip b).map fun x => x.1 + x.2

theorem sumOf_plus (a b : Values) : sumOf a b = plus a b 1 := by
  unfold sumOf plus
  simp only [Int.one_mul]

/-- the pass at which a class of rounds has its first miss -/
def tOf (l : Loop) (p : List Nat) (s : Values) (n place : Nat) : Option Nat :=
  (missOf l (p.getD (place % p.length) 0) (ahead l p s place) (sumOf (ahead l p s place) (growAt l p s n (place % p.length)))).map
    fun t => place / p.length + turnOf n * t

/-- so many classes looked at -/
def oftenTo (l : Loop) (p : List Nat) (s : Values) (n i : Nat) : Option Nat :=
  (List.range i).foldl (stepMin fun k => tOf l p s n (n * p.length + k)) none

theorem oftenTo_succ (l : Loop) (p : List Nat) (s : Values) (n i : Nat) :
    oftenTo l p s n (i + 1) = stepMin (fun k => tOf l p s n (n * p.length + k)) (oftenTo l p s n i) i := by
  unfold oftenTo
  rw [List.range_succ, List.foldl_append]
  rfl

theorem stepMin_sooner (g : Nat → Option Nat) (o : Option Nat) (k : Nat) : stepMin g o k = match g k with
    | none => o
    | some x => soonerN o (some x) := by
  unfold stepMin
  cases g k with
  | none => rfl
  | some x => cases o <;> rfl

theorem turnOf_pos (n : Nat) : 0 < turnOf n := Nat.mul_pos (ring_pos n) (by decide)

section
variable {n : Nat} {l : Loop} {p : List Nat} {s : Values}

theorem ahead_class (hl : OkLoop n l) (hp : ∀ b ∈ p, b < l.length) (h0 : p ≠ []) (hs : s.length = n) {i j : Nat} (hi : i < p.length) (hj : n ≤ j) (q : Nat) :
    ahead l p s ((j + q * ring n) * p.length + i) =
      plus (ahead l p s (j * p.length + i)) (lin (wholeMove l n (p.take i)) (growth n (wholeMove l n p))) (q : Int) := by
  have hW := OkMove.whole hl hp
  have hlen : ∀ k, (it (wholeMove l n p) k s).length = n := fun k => by rw [it_length (by rw [hW.len, hs]), hs]
  rw [ahead_pass hl hp h0 hs _ _ (by omega), ahead_pass hl hp h0 hs _ _ (by omega), it_rings hl.low hl.high hW hs hj]
  have hgl : (growth n (wholeMove l n p)).length = n := growth_length hW.len
  have e1 := moved_wholeMove l (p.take i) (plus (it (wholeMove l n p) j s) (growth n (wholeMove l n p)) (q : Int))
  rw [plus_length (by rw [hlen, hgl]), hlen] at e1
  have e2 := moved_wholeMove l (p.take i) (it (wholeMove l n p) j s)
  rw [hlen] at e2
  rw [← e1, ← e2, moved_plus (by rw [hlen, hgl])]

theorem growAt_eq (hl : OkLoop n l) (hp : ∀ b ∈ p, b < l.length) (h0 : p ≠ []) (hs : s.length = n) {i : Nat} (hi : i < p.length) :
    growAt l p s n i = times 12 (lin (wholeMove l n (p.take i)) (growth n (wholeMove l n p))) := by
  have h1 := ahead_class hl hp h0 hs hi (Nat.le_refl n) 1
  have e : (n + 1 * ring n) * p.length + i = n * p.length + i + ring n * p.length := by
    rw [Nat.one_mul, Nat.add_mul]; omega
  rw [e] at h1
  unfold growAt
  rw [h1]
  have hal := ahead_length hl hp h0 hs (n * p.length + i)
  have hll : (ahead l p s (n * p.length + i)).length = (lin (wholeMove l n (p.take i)) (growth n (wholeMove l n p))).length := by
    rw [hal, lin_length, (OkMove.whole hl (fun b hb => hp b (List.mem_of_mem_take hb))).len]
  have hz := minus_plus hll ((1 : Nat) : Int)
  generalize ahead l p s (n * p.length + i) = a at *
  generalize lin (wholeMove l n (p.take i)) (growth n (wholeMove l n p)) = d at *
  apply ext_valueAt
  · simp [plus, times]; omega
  · intro k hk
    have hk1 : k < a.length := by
      simp only [List.length_map, List.length_zip] at hk
      omega
    have hk2 : k < d.length := by omega
    have hv := congrArg (fun x => valueAt x k) hz
    have hv : valueAt (minus (plus a d ((1 : Nat) : Int)) a) k = valueAt (times ((1 : Nat) : Int) d) k := hv
    rw [valueAt_minus (by rw [plus_length hll]), valueAt_plus hll, valueAt_times] at hv
    rw [valueAt_times]
    have hkz : k < ((a.zip (plus a d ((1 : Nat) : Int))).map fun x => (x.2 - x.1) * 12).length := hk
    rw [valueAt_lt hkz]
    simp only [List.getElem_map, List.getElem_zip]
    have hkp : k < (plus a d ((1 : Nat) : Int)).length := by rw [plus_length hll]; exact hk1
    have e1 := valueAt_lt hkp
    have e2 := valueAt_lt hk1
    rw [← e1, ← e2, valueAt_plus hll]
    have h1 : ((1 : Nat) : Int) = 1 := rfl
    rw [h1, Int.one_mul]
    omega

/-- the class of a round -/
theorem class_miss (hl : OkLoop n l) (hp : ∀ b ∈ p, b < l.length) (h0 : p ≠ []) (hs : s.length = n) {place : Nat} (hn : n * p.length ≤ place)
    (h00 : Gr l p s place) :
    LeastNot (fun q => Gr l p s (place + q * (turnOf n * p.length)))
      (missOf l (p.getD (place % p.length) 0) (ahead l p s place) (sumOf (ahead l p s place) (growAt l p s n (place % p.length)))) := by
  have hpos : 0 < p.length := List.length_pos_iff.2 h0
  have hi : place % p.length < p.length := Nat.mod_lt _ hpos
  have hj : n ≤ place / p.length := by
    rw [Nat.le_div_iff_mul_le hpos]; exact hn
  have hpl : place / p.length * p.length + place % p.length = place := by rw [Nat.mul_comm]; exact Nat.div_add_mod _ _
  have hW := OkMove.whole hl hp
  have hb : p.getD (place % p.length) 0 < l.length := by
    apply hp
    rw [List.getD_eq_getElem?_getD, List.getElem?_eq_getElem hi, Option.getD_some]
    exact List.getElem_mem hi
  rw [sumOf_plus, growAt_eq hl hp h0 hs hi]
  have hll : (ahead l p s place).length = (times 12 (lin (wholeMove l n (p.take (place % p.length))) (growth n (wholeMove l n p)))).length := by
    rw [ahead_length hl hp h0 hs, times_length, lin_length, (OkMove.whole hl (fun b hb => hp b (List.mem_of_mem_take hb))).len]
  have hll' : (ahead l p s place).length = (lin (wholeMove l n (p.take (place % p.length))) (growth n (wholeMove l n p))).length := by
    rw [hll, times_length]
  have hm := missOf_least hb hll (by
    intro b hb t ht x m r e
    rw [valueAt_times]
    subst e
    have h12 : (m : Int) ∣ 12 := okTest_rem ((hl.all b hb).tests _ ht)
    exact Int.dvd_trans h12 (Int.dvd_mul_right _ _)) h00
  have e : (fun q => Gr l p s (place + q * (turnOf n * p.length))) = (fun q : Nat => chosen l (plus (ahead l p s place) (times 12 (lin (wholeMove l n (p.take (place % p.length))) (growth n (wholeMove l n p)))) (q : Int)) = some (p.getD (place % p.length) 0)) := by
    funext q
    unfold Gr
    have e1 : (place + q * (turnOf n * p.length)) % p.length = place % p.length := by
      rw [← Nat.mul_assoc, Nat.add_mul_mod_self_right]
    have e2 := ahead_class hl hp h0 hs hi hj (q * 12)
    have e3 : (place / p.length + q * 12 * ring n) * p.length + place % p.length = place + q * (turnOf n * p.length) := by
      rw [Nat.add_mul, turnOf]
      have : q * 12 * ring n * p.length = q * (ring n * 12 * p.length) := by
        rw [Nat.mul_assoc q, Nat.mul_comm 12, Nat.mul_assoc q]
      omega
    rw [e3, hpl] at e2
    rw [e1, e2, plus_times hll']
    congr 3
  rw [e]
  exact hm

/-- **all rounds of the first passes followed: how often is what the classes say** -/
theorem oftenTo_least (hl : OkLoop n l) (hp : ∀ b ∈ p, b < l.length) (h0 : p ≠ []) (hs : s.length = n)
    (hall : ∀ i, i < (n + turnOf n) * p.length → Gr l p s i) :
    LeastNot (Fol l n p s) (oftenTo l p s n (turnOf n * p.length)) := by
  have hpos : 0 < p.length := List.length_pos_iff.2 h0
  have htl : 0 < turnOf n * p.length := Nat.mul_pos (turnOf_pos n) hpos
  have htot : (n + turnOf n) * p.length = n * p.length + turnOf n * p.length := Nat.add_mul _ _ _
  have hcl : ∀ k, k < turnOf n * p.length → LeastNot (fun q => Gr l p s (n * p.length + k + q * (turnOf n * p.length)))
      (missOf l (p.getD ((n * p.length + k) % p.length) 0) (ahead l p s (n * p.length + k)) (sumOf (ahead l p s (n * p.length + k)) (growAt l p s n ((n * p.length + k) % p.length)))) := by
    intro k hk
    exact class_miss hl hp h0 hs (by omega) (hall _ (by omega))
  -- a round of a class in its pass
  have hdiv : ∀ place q, (place + q * (turnOf n * p.length)) / p.length = place / p.length + turnOf n * q := by
    intro place q
    rw [← Nat.mul_assoc, Nat.add_mul_div_right _ _ hpos, Nat.mul_comm q]
  have hnot : ∀ r, ¬ Gr l p s r → ¬ Fol l n p s (r / p.length) := by
    intro r hr hf
    have := (fol_iff hl hp h0 hs _).1 hf (r % p.length) (Nat.mod_lt _ hpos)
    rw [Nat.mul_comm, Nat.div_add_mod] at this
    exact hr this
  have hsplit : ∀ j, ¬ Fol l n p s j → ∃ k, k < turnOf n * p.length ∧ ∃ x, tOf l p s n (n * p.length + k) = some x ∧ x ≤ j := by
    intro j hj
    have hex : ∃ i, i < p.length ∧ ¬ Gr l p s (j * p.length + i) := by
      apply Classical.byContradiction
      intro hno
      apply hj
      refine (fol_iff hl hp h0 hs _).2 (fun i hi => ?_)
      apply Classical.byContradiction
      intro hg
      exact hno ⟨i, hi, hg⟩
    obtain ⟨i, hi, hg⟩ := hex
    have hge : n * p.length ≤ j * p.length + i := by
      apply Classical.byContradiction
      intro hlt
      exact hg (hall _ (by omega))
    let r := j * p.length + i - n * p.length
    have hr : n * p.length + r % (turnOf n * p.length) + r / (turnOf n * p.length) * (turnOf n * p.length) = j * p.length + i := by
      have h1 := Nat.mod_add_div r (turnOf n * p.length)
      rw [Nat.mul_comm (turnOf n * p.length) (r / _)] at h1
      have h2 : r = j * p.length + i - n * p.length := rfl
      omega
    have hk : r % (turnOf n * p.length) < turnOf n * p.length := Nat.mod_lt _ htl
    refine ⟨r % (turnOf n * p.length), hk, ?_⟩
    have hc := hcl _ hk
    unfold tOf
    revert hc
    cases missOf l (p.getD ((n * p.length + r % (turnOf n * p.length)) % p.length) 0) (ahead l p s (n * p.length + r % (turnOf n * p.length))) (sumOf (ahead l p s (n * p.length + r % (turnOf n * p.length))) (growAt l p s n ((n * p.length + r % (turnOf n * p.length)) % p.length))) with
    | none =>
      intro hc
      exfalso
      apply hg
      have : Gr l p s (n * p.length + r % (turnOf n * p.length) + r / (turnOf n * p.length) * (turnOf n * p.length)) := hc (r / (turnOf n * p.length))
      rwa [hr] at this
    | some t =>
      intro hc
      refine ⟨_, rfl, ?_⟩
      have htq : t ≤ r / (turnOf n * p.length) := by
        apply Classical.byContradiction
        intro hlt
        have : Gr l p s (n * p.length + r % (turnOf n * p.length) + r / (turnOf n * p.length) * (turnOf n * p.length)) := hc.2 (r / (turnOf n * p.length)) (by omega)
        rw [hr] at this
        exact hg this
      have h3 := hdiv (n * p.length + r % (turnOf n * p.length)) (r / (turnOf n * p.length))
      rw [hr] at h3
      have h4 : (j * p.length + i) / p.length = j := by
        rw [Nat.add_comm, Nat.add_mul_div_right _ _ hpos, Nat.div_eq_of_lt hi, Nat.zero_add]
      rw [h4] at h3
      have h5 := Nat.mul_le_mul_left (turnOf n) htq
      show (n * p.length + r % (turnOf n * p.length)) / p.length + turnOf n * t ≤ j
      omega
  have hmf := fold_min (fun k => tOf l p s n (n * p.length + k)) (List.range (turnOf n * p.length)) none
  show LeastNot _ (List.foldl _ _ _)
  revert hmf
  cases List.foldl (stepMin fun k => tOf l p s n (n * p.length + k)) none (List.range (turnOf n * p.length)) with
  | none =>
    intro hmf j
    apply Classical.byContradiction
    intro hj
    obtain ⟨k, hk, x, hx, _⟩ := hsplit j hj
    have := hmf.2 k (List.mem_range.2 hk)
    rw [hx] at this
    cases this
  | some x =>
    intro hmf
    constructor
    · rcases hmf.1 with e | ⟨k, hk, hg⟩
      · cases e
      · have hk' := List.mem_range.1 hk
        have hc := hcl k hk'
        unfold tOf at hg
        revert hg hc
        cases missOf l (p.getD ((n * p.length + k) % p.length) 0) (ahead l p s (n * p.length + k)) (sumOf (ahead l p s (n * p.length + k)) (growAt l p s n ((n * p.length + k) % p.length))) with
        | none => intro hg _; cases hg
        | some t =>
          intro hg hc
          have hx : (n * p.length + k) / p.length + turnOf n * t = x := Option.some.inj hg
          have := hnot _ hc.1
          rw [hdiv, hx] at this
          exact this
    · intro j hj
      apply Classical.byContradiction
      intro hf
      obtain ⟨k, hk, y, hy, hle⟩ := hsplit j hf
      have := hmf.2.2 k (List.mem_range.2 hk) y hy
      omega

/-- how often, as the program tells it -/
theorem times_all (hl : OkLoop n l) (hp : ∀ b ∈ p, b < l.length) (h0 : p ≠ []) (hs : s.length = n)
    (hall : ∀ i, i < (n + turnOf n) * p.length → Gr l p s i) : oftenTo l p s n (turnOf n * p.length) = timesOf l p s :=
  LeastNot.uniq (oftenTo_least hl hp h0 hs hall) (timesOf_least hl hp hs)

theorem times_short (hl : OkLoop n l) (hp : ∀ b ∈ p, b < l.length) (h0 : p ≠ []) (hs : s.length = n) {k : Nat}
    (hall : ∀ i, i < k → Gr l p s i) (hk : ¬ Gr l p s k) : some (k / p.length) = timesOf l p s :=
  LeastNot.uniq (leastNot_pass hl hp h0 hs ⟨hk, hall⟩) (timesOf_least hl hp hs)

/-! ### The values behind -/
theorem runs_rep (hl : OkLoop n l) (hp : ∀ b ∈ p, b < l.length) : ∀ (k : Nat) (s : Values), s.length = n →
    runs l (List.replicate k p).flatten s = it (wholeMove l n p) k s
  | 0, s, _ => rfl
  | k + 1, s, hs => by
    rw [List.replicate_succ, List.flatten_cons, runs_append]
    have e := moved_wholeMove l p s
    rw [hs] at e
    rw [← e]
    exact runs_rep hl hp k _ (by rw [moved_length, (OkMove.whole hl hp).len])

/-- evenly from two rows of values -/
def evenTo (near far : Values) (q : Int) : Values := (near.zip far).map fun x => x.1 + (x.2 - x.1) * q

theorem behind_even (hl : OkLoop n l) (hp : ∀ b ∈ p, b < l.length) (hs : s.length = n) {k : Nat} (hk : n < k) :
    evenTo (it (wholeMove l n p) (n + (k - n) % ring n) s) (it (wholeMove l n p) (ring n) (it (wholeMove l n p) (n + (k - n) % ring n) s)) (((k - n) / ring n : Nat) : Int) =
      it (wholeMove l n p) k s := by
  have hW := OkMove.whole hl hp
  have hlen : ∀ k, (it (wholeMove l n p) k s).length = n := fun k => by rw [it_length (by rw [hW.len, hs]), hs]
  have hgl : (growth n (wholeMove l n p)).length = n := growth_length hW.len
  have h1 := it_rings hl.low hl.high hW hs (j := n + (k - n) % ring n) (by omega) 1
  have h2 := it_rings hl.low hl.high hW hs (j := n + (k - n) % ring n) (by omega) ((k - n) / ring n)
  rw [Nat.one_mul, it_add] at h1
  have ek : n + (k - n) % ring n + (k - n) / ring n * ring n = k := by
    have := Nat.mod_add_div (k - n) (ring n)
    rw [Nat.mul_comm (ring n)] at this
    omega
  rw [ek] at h2
  rw [h1, h2]
  have hll : (it (wholeMove l n p) (n + (k - n) % ring n) s).length = (growth n (wholeMove l n p)).length := by rw [hlen, hgl]
  generalize it (wholeMove l n p) (n + (k - n) % ring n) s = a at *
  generalize growth n (wholeMove l n p) = d at *
  apply ext_valueAt
  · rw [plus_length hll]
    simp [evenTo, plus]; omega
  · intro i hi
    rw [valueAt_plus hll]
    have hi1 : i < a.length := by simp [evenTo, plus] at hi; omega
    rw [valueAt_lt hi]
    have hip : i < (plus a d ((1 : Nat) : Int)).length := by rw [plus_length hll]; exact hi1
    simp only [evenTo, List.getElem_map, List.getElem_zip]
    rw [← valueAt_lt hi1, ← valueAt_lt hip, valueAt_plus hll]
    simp only [Int.natCast_one, Int.one_mul]
    have : valueAt a i + valueAt d i - valueAt a i = valueAt d i := by omega
    rw [this, Int.mul_comm]
end

/-! ### The pattern -/
def patL (l : Loop) (s : Values) : List Nat := (patternAt l s).getD []

theorem branchesFrom_length (l : Loop) : ∀ (n : Nat) (s : Values), (branchesFrom l n s).length ≤ n
  | 0, _ => by simp [branchesFrom]
  | n + 1, s => by
    unfold branchesFrom
    split
    · simp
    · have := branchesFrom_length l n (moved (moveOf l ‹_›) s)
      simp only [List.length_cons]
      omega

theorem chosen_lt {l : Loop} {s : Values} {b : Nat} (h : chosen l s = some b) : b < l.length := by
  unfold chosen at h
  rw [List.findIdx?_eq_some_iff_getElem] at h
  exact h.1

theorem branchesFrom_lt (l : Loop) : ∀ (n : Nat) (s : Values), ∀ b ∈ branchesFrom l n s, b < l.length
  | 0, _ => by simp [branchesFrom]
  | n + 1, s => by
    unfold branchesFrom
    split
    · simp
    · intro b hb
      rcases List.mem_cons.1 hb with rfl | hb
      · exact chosen_lt ‹_›
      · exact branchesFrom_lt l n _ b hb

theorem patL_some {l : Loop} {s : Values} {k : Nat} (h1 : 1 ≤ k) (h2 : 2 * k ≤ (branchesFrom l 6 s).length)
    (hk : (branchesFrom l 6 s).take k = ((branchesFrom l 6 s).drop k).take k)
    (hno : ∀ j, 1 ≤ j → j < k → ¬ (branchesFrom l 6 s).take j = ((branchesFrom l 6 s).drop j).take j) : patL l s = (branchesFrom l 6 s).take k := by
  have h6 := branchesFrom_length l 6 s
  have hne : (branchesFrom l 6 s).isEmpty = false := by
    cases h : branchesFrom l 6 s with
    | nil => rw [h] at h2; simp at h2; omega
    | cons a r => rfl
  unfold patL patternAt
  simp only
  rw [show 2 * PATTERN = 6 from rfl, hne]
  have hf : ((List.range PATTERN).map fun i => i + 1).find? (fun k => decide (2 * k ≤ (branchesFrom l 6 s).length) && ((branchesFrom l 6 s).take k == ((branchesFrom l 6 s).drop k).take k)) = some k := by
    have hr : ((List.range PATTERN).map fun i => i + 1) = [1, 2, 3] := rfl
    rw [hr]
    have good : (decide (2 * k ≤ (branchesFrom l 6 s).length) && ((branchesFrom l 6 s).take k == ((branchesFrom l 6 s).drop k).take k)) = true := by
      rw [Bool.and_eq_true]; exact ⟨decide_eq_true h2, beq_iff_eq.2 hk⟩
    have bad : ∀ j, 1 ≤ j → j < k → (decide (2 * j ≤ (branchesFrom l 6 s).length) && ((branchesFrom l 6 s).take j == ((branchesFrom l 6 s).drop j).take j)) = false := by
      intro j hj hjk
      rw [beq_eq_false_iff_ne.2 (hno j hj hjk), Bool.and_false]
    have hk3 : k = 1 ∨ k = 2 ∨ k = 3 := by omega
    rcases hk3 with rfl | rfl | rfl
    · rw [List.find?_cons, good]
    · rw [List.find?_cons, bad 1 (by omega) (by omega), List.find?_cons, good]
    · rw [List.find?_cons, bad 1 (by omega) (by omega), List.find?_cons, bad 2 (by omega) (by omega), List.find?_cons, good]
  rw [hf]
  rfl

theorem patL_none {l : Loop} {s : Values} (hno : ∀ j, 1 ≤ j → 2 * j ≤ (branchesFrom l 6 s).length → ¬ (branchesFrom l 6 s).take j = ((branchesFrom l 6 s).drop j).take j) :
    patL l s = (branchesFrom l 6 s).take 1 := by
  unfold patL patternAt
  simp only
  rw [show 2 * PATTERN = 6 from rfl]
  cases h : (branchesFrom l 6 s).isEmpty with
  | true =>
    have := List.isEmpty_iff.1 h
    rw [this]
    rfl
  | false =>
    have hf : ((List.range PATTERN).map fun i => i + 1).find? (fun k => decide (2 * k ≤ (branchesFrom l 6 s).length) && ((branchesFrom l 6 s).take k == ((branchesFrom l 6 s).drop k).take k)) = none := by
      have hr : ((List.range PATTERN).map fun i => i + 1) = [1, 2, 3] := rfl
      rw [hr, List.find?_eq_none]
      intro j hj
      have h1 : 1 ≤ j := by
        rcases List.mem_cons.1 hj with rfl | hj
        · omega
        · rcases List.mem_cons.1 hj with rfl | hj
          · omega
          · rcases List.mem_cons.1 hj with rfl | hj
            · omega
            · cases hj
      rw [Bool.and_eq_true, decide_eq_true_eq, beq_iff_eq]
      rintro ⟨h2, h3⟩
      exact hno j h1 h2 h3
    rw [hf]
    rfl

theorem patL_mem {l : Loop} {s : Values} : ∀ b ∈ patL l s, b < l.length := by
  intro b hb
  unfold patL patternAt at hb
  simp only at hb
  split at hb
  · cases hb
  · simp only [Option.getD_some] at hb
    split at hb
    · exact branchesFrom_lt l _ s b (List.mem_of_mem_take hb)
    · exact branchesFrom_lt l _ s b (List.mem_of_mem_take hb)

theorem patL_len {l : Loop} {s : Values} : (patL l s).length ≤ 3 := by
  unfold patL patternAt
  simp only
  split
  · simp
  · simp only [Option.getD_some]
    split
    · rename_i k hk
      have := List.mem_of_find?_eq_some hk
      have hr : ((List.range PATTERN).map fun i => i + 1) = [1, 2, 3] := rfl
      rw [hr] at this
      rw [List.length_take]
      simp at this
      omega
    · rw [List.length_take]; omega

theorem branchesFrom_nil {l : Loop} {s : Values} {n : Nat} : branchesFrom l (n + 1) s = [] ↔ chosen l s = none := by
  unfold branchesFrom
  cases chosen l s <;> simp

theorem pattern_none {l : Loop} {s : Values} : patternAt l s = none ↔ chosen l s = none := by
  rw [← branchesFrom_nil (n := 5)]
  unfold patternAt
  simp only
  rw [show 2 * PATTERN = 6 from rfl]
  rw [← List.isEmpty_iff]
  split <;> simp_all

theorem patL_nil {l : Loop} {s : Values} : patL l s = [] ↔ patternAt l s = none := by
  constructor
  · intro h
    cases hp : patternAt l s with
    | none => rfl
    | some p =>
      exfalso
      have e : patL l s = p := by unfold patL; rw [hp]; rfl
      rw [e] at h
      subst h
      have hc : ¬ branchesFrom l 6 s = [] := by
        intro hb
        have := pattern_none.2 ((branchesFrom_nil (n := 5)).1 hb)
        rw [hp] at this
        cases this
      unfold patternAt at hp
      simp only at hp
      rw [show 2 * PATTERN = 6 from rfl] at hp
      have hne : (branchesFrom l 6 s).isEmpty = false := by
        cases h : branchesFrom l 6 s with
        | nil => exact absurd h hc
        | cons a r => rfl
      rw [hne] at hp
      simp only [Bool.false_eq_true, if_false] at hp
      have h2 := Option.some.inj hp
      split at h2
      · rename_i k hk
        have := List.mem_of_find?_eq_some hk
        have hr : ((List.range PATTERN).map fun i => i + 1) = [1, 2, 3] := rfl
        rw [hr] at this
        have hk1 : 1 ≤ k := by simp at this; omega
        rcases List.take_eq_nil_iff.1 h2 with h3 | h3
        · omega
        · exact hc h3
      · rcases List.take_eq_nil_iff.1 h2 with h3 | h3
        · omega
        · exact hc h3
  · intro h
    unfold patL
    rw [h]
    rfl

theorem patL_some_of {l : Loop} {s : Values} (h : patL l s ≠ []) : patternAt l s = some (patL l s) := by
  cases hp : patternAt l s with
  | none => exact absurd (patL_nil.2 hp) h
  | some p => unfold patL; rw [hp]; rfl

/-! ### Leaps -/
/-- a leap's values -/
theorem leap_eq {n : Nat} {l : Loop} (hl : OkLoop n l) {s : Values} (hs : s.length = n) (hB : Bd FAR s) (h : patL l s ≠ []) :
    leap l s = match timesOf l (patL l s) s with
      | none => .never (patL l s)
      | some q => .phase ⟨patL l s, q⟩ (it (wholeMove l n (patL l s)) q s) := by
  unfold leap
  rw [patL_some_of h]
  simp only
  cases ht : timesOf l (patL l s) s with
  | none => rfl
  | some q =>
    simp only
    rw [many_it hl (fun b hb => patL_mem b hb) patL_len hs hB ht]

theorem isBeyond_Bd {s : Values} (h : isBeyond s = false) : Bd FAR s := by
  intro i
  unfold isBeyond at h
  rw [List.any_eq_false] at h
  by_cases hi : i < s.length
  · rw [valueAt_lt hi]
    have := h s[i] (List.getElem_mem hi)
    simp only [Bool.or_eq_true, decide_eq_true_eq] at this
    have : NUMBER = FAR := rfl
    omega
  · rw [valueAt_ge (by omega)]
    have : FAR = 1000000000000 := rfl
    omega

/-- what the program's loop of leaps stands before: so many phases done -/
def leapsTo (l : Loop) (s : Values) (ps : List Phase) : Leapt :=
  if isBeyond s then ⟨.far, s, ps⟩ else leapsFrom l (8 - ps.length) s ps

theorem leapsTo_far {l : Loop} {s : Values} {ps : List Phase} (h : isBeyond s = true) : leapsTo l s ps = ⟨.far, s, ps⟩ := by
  unfold leapsTo; rw [h]; rfl

theorem leapsTo_over {l : Loop} {s : Values} {ps : List Phase} (h : isBeyond s = false) (hp : patL l s = []) : leapsTo l s ps = ⟨.over, s, ps⟩ := by
  unfold leapsTo
  rw [h]
  simp only [Bool.false_eq_true, if_false]
  have hn := patL_nil.1 hp
  cases hk : 8 - ps.length with
  | zero => unfold leapsFrom; rw [pattern_none.1 hn]
  | succ k => unfold leapsFrom leap; rw [hn]

theorem leapsTo_many {l : Loop} {s : Values} {ps : List Phase} (h : isBeyond s = false) (hp : patL l s ≠ []) (h8 : ps.length = 8) : leapsTo l s ps = ⟨.many, s, ps⟩ := by
  unfold leapsTo
  rw [h, h8]
  simp only [Bool.false_eq_true, if_false, Nat.sub_self]
  unfold leapsFrom
  cases hc : chosen l s with
  | none => exact absurd (patL_nil.2 (pattern_none.2 hc)) hp
  | some b => rfl

theorem leapsTo_never {n : Nat} {l : Loop} (hl : OkLoop n l) {s : Values} (hs : s.length = n) {ps : List Phase} (h : isBeyond s = false) (hp : patL l s ≠ []) (h8 : ps.length < 8)
    (ht : timesOf l (patL l s) s = none) : leapsTo l s ps = ⟨.never, s, ps⟩ := by
  unfold leapsTo
  rw [h]
  simp only [Bool.false_eq_true, if_false]
  cases hk : 8 - ps.length with
  | zero => omega
  | succ k =>
    unfold leapsFrom
    rw [leap_eq hl hs (isBeyond_Bd h) hp, ht]

theorem leapsTo_phase {n : Nat} {l : Loop} (hl : OkLoop n l) {s : Values} (hs : s.length = n) {ps : List Phase} (h : isBeyond s = false) (hp : patL l s ≠ []) (h8 : ps.length < 8)
    {q : Nat} (ht : timesOf l (patL l s) s = some q) : leapsTo l s ps = leapsTo l (it (wholeMove l n (patL l s)) q s) (ps ++ [⟨patL l s, q⟩]) := by
  have e : leapsTo l s ps = (if isBeyond (it (wholeMove l n (patL l s)) q s) then (⟨.far, it (wholeMove l n (patL l s)) q s, ps ++ [⟨patL l s, q⟩]⟩ : Leapt)
      else leapsFrom l (8 - ps.length - 1) (it (wholeMove l n (patL l s)) q s) (ps ++ [⟨patL l s, q⟩])) := by
    conv => lhs; unfold leapsTo
    rw [h]
    simp only [Bool.false_eq_true, if_false]
    cases hk : 8 - ps.length with
    | zero => omega
    | succ k =>
      show leapsFrom l (k + 1) s ps = _
      have hst : leapsFrom l (k + 1) s ps = match leap l s with
        | .over => ⟨.over, s, ps⟩
        | .never _ => ⟨.never, s, ps⟩
        | .phase p t => if isBeyond t then ⟨.far, t, ps ++ [p]⟩ else leapsFrom l k t (ps ++ [p]) := rfl
      rw [hst, leap_eq hl hs (isBeyond_Bd h) hp, ht]
      rfl
  rw [e]
  conv => rhs; unfold leapsTo
  have : (ps ++ [(⟨patL l s, q⟩ : Phase)]).length = ps.length + 1 := by simp
  rw [this]
  rfl

theorem leaps_eq {l : Loop} {s : Values} (h : isBeyond s = false) : leaps l s = leapsTo l s [] := by
  unfold leapsTo
  rw [h]
  rfl
end Mth
/-! MthG -/
namespace Mth
open VaaclBase Vaacld

/-! ### What is read is a loop as told -/
theorem readTimes_all {A : Type} {a : Reader A} : ∀ (k : Nat) {x : List Int} {us : List A} {r : List Int}, readTimes a k x = some (us, r) →
    us.length = k ∧ ∀ u ∈ us, ∃ y z, a y = some (u, z)
  | 0, x, us, r, h => by
    cases h
    exact ⟨rfl, fun u hu => absurd hu List.not_mem_nil⟩
  | k + 1, x, us, r, h => by
    unfold readTimes at h
    cases ha : a x with
    | none => rw [ha] at h; cases h
    | some u =>
      rw [ha, Option.bind_some] at h
      cases hb : readTimes a k u.2 with
      | none => rw [hb] at h; cases h
      | some v =>
        rw [hb] at h
        cases h
        obtain ⟨h1, h2⟩ := readTimes_all k hb
        refine ⟨by simp [h1], fun w hw => ?_⟩
        rcases List.mem_cons.1 hw with rfl | hw
        · exact ⟨_, _, ha⟩
        · exact h2 w hw

theorem readInt_some {lo hi : Int} {x : List Int} {z : Int} {r : List Int} (h : readInt lo hi x = some (z, r)) : x = z :: r ∧ lo ≤ z ∧ z ≤ hi := by
  unfold readInt at h
  cases x with
  | nil => cases h
  | cons w y =>
    simp only at h
    split at h
    · cases h
      exact ⟨rfl, ‹_ ∧ _›⟩
    · cases h

theorem readNat_some {lo hi : Nat} {x : List Int} {z : Nat} {r : List Int} (h : readNat lo hi x = some (z, r)) : x = (z : Int) :: r ∧ lo ≤ z ∧ z ≤ hi := by
  unfold readNat at h
  cases hi' : readInt (VaaclBase.int lo) (VaaclBase.int hi) x with
  | none => rw [hi'] at h; cases h
  | some u =>
    obtain ⟨w, y⟩ := u
    rw [hi'] at h
    have hh := readInt_some hi'
    obtain ⟨h1, h2, h3⟩ := hh
    simp only [Option.map_some, Option.some.injEq, Prod.mk.injEq] at h
    obtain ⟨e1, e2⟩ := h
    subst e2
    unfold VaaclBase.int at h2 h3
    refine ⟨?_, by omega, by omega⟩
    rw [h1]
    congr 1
    omega

theorem readListed_all {A : Type} {lo hi : Nat} {a : Reader A} {x : List Int} {us : List A} {r : List Int} (h : readListed lo hi a x = some (us, r)) :
    lo ≤ us.length ∧ us.length ≤ hi ∧ ∀ u ∈ us, ∃ y z, a y = some (u, z) := by
  unfold readListed at h
  cases hn : readNat lo hi x with
  | none => rw [hn] at h; cases h
  | some m =>
    obtain ⟨m, y⟩ := m
    rw [hn, Option.bind_some] at h
    obtain ⟨h1, h2, h3⟩ := readNat_some hn
    obtain ⟨h4, h5⟩ := readTimes_all _ h
    simp only at h4
    rw [h4]
    exact ⟨h2, h3, h5⟩

theorem readTest_ok {n : Nat} {x : List Int} {t : Test} {r : List Int} (h : readTest n x = some (t, r)) : okTest n t = true := by
  have key : ∀ o : Option (Test × List Int), (o.bind fun u => if okTest n u.1 = true then some u else none) = some (t, r) → okTest n t = true := by
    intro o ho
    cases o with
    | none => cases ho
    | some u =>
      rw [Option.bind_some] at ho
      by_cases c : okTest n u.1 = true
      · rw [if_pos c] at ho
        cases ho
        exact c
      · rw [if_neg c] at ho
        cases ho
  unfold readTest at h
  simp only at h
  split at h
  · exact key _ h
  · exact key _ h
  · exact key _ h
  · exact key _ h
  · cases h

theorem readGiven_ok {n : Nat} (h1 : 1 ≤ n) {x : List Int} {g : Given} {r : List Int} (h : readGiven n x = some (g, r)) :
    (∀ i, g.source = some i → i < n) ∧ -99 ≤ g.add ∧ g.add ≤ 99 := by
  unfold readGiven at h
  split at h
  · cases hi : readInt (-ADD) ADD ‹_› with
    | none => rw [hi] at h; cases h
    | some u =>
      obtain ⟨z, y⟩ := u
      rw [hi] at h
      cases h
      obtain ⟨_, h2, h3⟩ := readInt_some hi
      exact ⟨fun i hi => (by cases hi), h2, h3⟩
  · rename_i rest
    unfold readPair at h
    cases hi : readNat 0 (n - 1) rest with
    | none => rw [hi] at h; cases h
    | some u =>
      obtain ⟨c, y⟩ := u
      rw [hi] at h
      simp only [Option.bind_some] at h
      cases hj : readInt (-ADD) ADD y with
      | none => rw [hj] at h; cases h
      | some v =>
        obtain ⟨z, w⟩ := v
        rw [hj] at h
        cases h
        obtain ⟨_, h2, h3⟩ := readInt_some hj
        obtain ⟨_, _, h5⟩ := readNat_some hi
        refine ⟨fun i hi => ?_, h2, h3⟩
        have : c = i := Option.some.inj hi
        omega
  · cases h

theorem readBranch_ok {n : Nat} (h1 : 1 ≤ n) {x : List Int} {b : Branch} {r : List Int} (h : readBranch n x = some (b, r)) : OkBranch n b := by
  unfold readBranch readPair at h
  cases hg : readGuard n x with
  | none => rw [hg] at h; cases h
  | some u =>
    obtain ⟨g, y⟩ := u
    rw [hg] at h
    simp only [Option.bind_some] at h
    cases hm : readMove n y with
    | none => rw [hm] at h; cases h
    | some v =>
      obtain ⟨m, w⟩ := v
      rw [hm] at h
      cases h
      obtain ⟨_, h3, h4⟩ := readListed_all hg
      obtain ⟨h5, h6⟩ := readTimes_all _ hm
      refine ⟨fun t ht => ?_, h3, ⟨h5, fun g hg i hi => ?_⟩, fun g hg => ?_⟩
      · obtain ⟨_, _, e⟩ := h4 t ht
        exact readTest_ok e
      · obtain ⟨_, _, e⟩ := h6 g hg
        exact (readGiven_ok h1 e).1 i hi
      · obtain ⟨_, _, e⟩ := h6 g hg
        exact (readGiven_ok h1 e).2

theorem readLoop_ok {n : Nat} (h1 : 1 ≤ n) (h4 : n ≤ 4) {x : List Int} {l : Loop} {r : List Int} (h : readLoop n x = some (l, r)) : OkLoop n l := by
  obtain ⟨h2, h3, h5⟩ := readListed_all h
  refine ⟨h1, h4, fun b hb => ?_, h2, h3⟩
  obtain ⟨_, _, e⟩ := h5 b hb
  exact readBranch_ok h1 e

theorem whole_some {A : Type} {a : Reader A} {x : List Int} {u : A} (h : whole a x = some u) : a x = some (u, []) := by
  unfold whole at h
  split at h
  · cases h
    assumption
  · cases h

theorem readBegin_ok {n : Nat} {x : List Int} {v : Values} {r : List Int} (h : readBegin n x = some (v, r)) : v.length = n ∧ isBeyond v = false := by
  obtain ⟨h1, h2⟩ := readTimes_all _ h
  refine ⟨h1, ?_⟩
  unfold isBeyond
  rw [List.any_eq_false]
  intro z hz
  obtain ⟨_, _, e⟩ := h2 z hz
  obtain ⟨_, h3, h4⟩ := readInt_some e
  have : BEGIN = 1000000 := rfl
  have : NUMBER = 1000000000000 := rfl
  simp only [Bool.or_eq_true, decide_eq_true_eq]
  omega

/-! ### What stands between the calls -/
structure OkSt (s : State) : Prop where
  loop : OkLoop s.values.length s.loop
  near : isBeyond s.values = false

theorem start_ok : OkSt start := by
  refine ⟨⟨by decide, by decide, ?_, by decide, by decide⟩, by decide⟩
  intro b hb
  have e : b = ⟨[.atMost 0 (-1), .atLeast 0 0], still 1⟩ := by simpa [start] using hb
  subst e
  refine ⟨by decide, by decide, ⟨by decide, ?_⟩, by decide⟩
  intro g hg i hi
  have e : g = ⟨some 0, 0⟩ := by simpa [still] using hg
  subst e
  cases hi
  decide

theorem zeros_near (n : Nat) : isBeyond (List.replicate n 0) = false := by
  unfold isBeyond
  rw [List.any_eq_false]
  intro z hz
  have : z = 0 := List.eq_of_mem_replicate hz
  subst this
  decide

theorem leapsTo_values {n : Nat} {l : Loop} (hl : OkLoop n l) : ∀ (k : Nat) (s : Values) (ps : List Phase), s.length = n → isBeyond s = false →
    (leapsFrom l k s ps).values.length = n ∧ ((leapsFrom l k s ps).how = .over → isBeyond (leapsFrom l k s ps).values = false)
  | 0, s, ps, hs, hb => by
    unfold leapsFrom
    exact ⟨hs, fun _ => hb⟩
  | k + 1, s, ps, hs, hb => by
    have hst : leapsFrom l (k + 1) s ps = match leap l s with
        | .over => ⟨.over, s, ps⟩
        | .never _ => ⟨.never, s, ps⟩
        | .phase p t => if isBeyond t then ⟨.far, t, ps ++ [p]⟩ else leapsFrom l k t (ps ++ [p]) := rfl
    rw [hst]
    cases hp : patL l s with
    | nil =>
      have : leap l s = .over := by unfold leap; rw [patL_nil.1 hp]
      rw [this]
      exact ⟨hs, fun _ => hb⟩
    | cons a r =>
      have hne : patL l s ≠ [] := by rw [hp]; exact List.cons_ne_nil _ _
      rw [leap_eq hl hs (isBeyond_Bd hb) hne]
      cases ht : timesOf l (patL l s) s with
      | none => exact ⟨hs, fun _ => hb⟩
      | some q =>
        simp only
        have hlen : (it (wholeMove l n (patL l s)) q s).length = n := by
          rw [it_length (by rw [(OkMove.whole hl (fun b hb => patL_mem b hb)).len, hs]), hs]
        cases hbe : isBeyond (it (wholeMove l n (patL l s)) q s) with
        | true => exact ⟨hlen, fun h => nomatch h⟩
        | false =>
          simp only [Bool.false_eq_true, if_false]
          exact leapsTo_values hl k _ _ hlen hbe

theorem leaps_ok {s : State} (h : OkSt s) : (leaps s.loop s.values).values.length = s.values.length ∧
    ((leaps s.loop s.values).how = .over → isBeyond (leaps s.loop s.values).values = false) :=
  leapsTo_values h.loop _ _ _ rfl h.near

theorem step_ok {s : State} (h : OkSt s) (c : Call) : OkSt (step s c).1 := by
  cases c with
  | loop n l =>
    unfold step
    simp only
    by_cases c : n < 1 ∨ Vaacld.int COUNTERS < n
    · rw [if_pos c]; exact h
    · rw [if_neg c]
      cases hw : whole (readLoop n.toNat) l with
      | none => exact h
      | some x =>
        simp only
        have : Vaacld.int COUNTERS = 4 := rfl
        refine ⟨?_, zeros_near _⟩
        simp only [List.length_replicate]
        exact readLoop_ok (by omega) (by omega) (whole_some hw)
  | values l =>
    unfold step
    simp only
    cases hw : whole (readBegin s.values.length) l with
    | none => exact h
    | some v =>
      obtain ⟨h1, h2⟩ := readBegin_ok (whole_some hw)
      refine ⟨?_, h2⟩
      simp only
      rw [h1]
      exact h.loop
  | leap =>
    unfold step
    simp only
    cases hp : patL s.loop s.values with
    | nil =>
      have : leap s.loop s.values = .over := by unfold leap; rw [patL_nil.1 hp]
      rw [this]
      exact h
    | cons a r =>
      have hne : patL s.loop s.values ≠ [] := by rw [hp]; exact List.cons_ne_nil _ _
      rw [leap_eq h.loop rfl (isBeyond_Bd h.near) hne]
      cases ht : timesOf s.loop (patL s.loop s.values) s.values with
      | none => exact h
      | some q =>
        simp only
        cases hbe : isBeyond (it (wholeMove s.loop s.values.length (patL s.loop s.values)) q s.values) with
        | true => exact h
        | false =>
          simp only [Bool.false_eq_true, if_false]
          refine ⟨?_, hbe⟩
          simp only
          rw [it_length (by rw [(OkMove.whole h.loop (fun b hb => patL_mem b hb)).len])]
          exact h.loop
  | go =>
    unfold step
    simp only
    by_cases c : (leaps s.loop s.values).how = .over
    · rw [if_pos c]
      obtain ⟨h1, h2⟩ := leaps_ok h
      refine ⟨?_, h2 c⟩
      simp only
      rw [h1]
      exact h.loop
    · rw [if_neg c]; exact h
  | run n =>
    unfold step
    simp only
    split
    · exact h
    · exact h
  | _ => exact h
end Mth
/-! MthH -/
namespace Mth
open VaaclBase Vaacld

/-! ### The readers in the program's order -/
theorem int_pred {n : Nat} (h : 1 ≤ n) : VaaclBase.int (n - 1) = (n : Int) - 1 := by
  unfold VaaclBase.int; omega

theorem readInt_nil (a b : Int) : readInt a b [] = none := rfl
theorem readInt_in {a b z : Int} (r : List Int) (h : a ≤ z ∧ z ≤ b) : readInt a b (z :: r) = some (z, r) := if_pos h
theorem readInt_out {a b z : Int} (r : List Int) (h : ¬ (a ≤ z ∧ z ≤ b)) : readInt a b (z :: r) = none := if_neg h

def pGiven (n : Nat) (x : List Int) : Option (Given × List Int) :=
  match readInt 0 1 x with
  | none => none
  | some (k, x1) => if k = 0 then (match readInt (-99) 99 x1 with
      | none => none
      | some (z, x2) => some (⟨none, z⟩, x2))
    else match readInt 0 ((n : Int) - 1) x1 with
      | none => none
      | some (c, x2) => match readInt (-99) 99 x2 with
        | none => none
        | some (z, x3) => some (⟨some c.toNat, z⟩, x3)

theorem pGiven_eq {n : Nat} (h1 : 1 ≤ n) (x : List Int) : readGiven n x = pGiven n x := by
  unfold pGiven
  cases x with
  | nil => rfl
  | cons k r =>
    by_cases h0 : k = 0
    · subst h0
      rw [readInt_in r (by decide)]
      simp only [if_true]
      show (readInt (-99) 99 r).map _ = _
      cases readInt (-99) 99 r with
      | none => rfl
      | some u => rfl
    · by_cases hk : k = 1
      · subst hk
        rw [readInt_in r (by decide)]
        simp only [show ¬ ((1 : Int) = 0) by decide, if_false]
        show (readPair (readNat 0 (n - 1)) (readInt (-99) 99) r).map _ = _
        unfold readPair readNat
        rw [int_pred h1]
        show Option.map _ ((Option.map _ (readInt 0 ((n : Int) - 1) r)).bind _) = _
        cases readInt 0 ((n : Int) - 1) r with
        | none => rfl
        | some u =>
          obtain ⟨c, y⟩ := u
          simp only [Option.map_some, Option.bind_some]
          cases readInt (-99) 99 y with
          | none => rfl
          | some v => rfl
      · rw [readInt_out r (by omega)]
        unfold readGiven
        split
        · exact absurd (by assumption) (by simp_all)
        · exact absurd (by assumption) (by simp_all)
        · rfl

def pTest (n : Nat) (x : List Int) : Option (Test × List Int) :=
  match readInt 0 3 x with
  | none => none
  | some (k, x1) => match readInt 0 ((n : Int) - 1) x1 with
    | none => none
    | some (c, x2) => if k = 3 then (match x2 with
        | [] => none
        | d :: x3 => if d ∈ ([2, 3, 4, 6] : List Int) then (match readInt 0 (d - 1) x3 with
            | none => none
            | some (m, x4) => some (.rem c.toNat d.toNat m.toNat, x4)) else none)
      else if k = 2 then (match readInt 0 ((n : Int) - 1) x2 with
        | none => none
        | some (o, x3) => match readInt (-999999) 999999 x3 with
          | none => none
          | some (z, x4) => some (.below c.toNat o.toNat z, x4))
      else match readInt (-999999) 999999 x2 with
        | none => none
        | some (z, x3) => some (if k = 0 then .atMost c.toNat z else .atLeast c.toNat z, x3)

theorem readNat_eq (n : Nat) (h1 : 1 ≤ n) (x : List Int) : readNat 0 (n - 1) x = (readInt 0 ((n : Int) - 1) x).map fun u => (u.1.toNat, u.2) := by
  unfold readNat
  rw [int_pred h1]
  rfl

theorem pTest_eq {n : Nat} (h1 : 1 ≤ n) (x : List Int) : readTest n x = pTest n x := by
  unfold pTest
  cases x with
  | nil => rfl
  | cons k r =>
    by_cases hk : 0 ≤ k ∧ k ≤ 3
    · rw [readInt_in r hk]
      simp only
      have hk4 : k = 0 ∨ k = 1 ∨ k = 2 ∨ k = 3 := by omega
      rcases hk4 with rfl | rfl | rfl | rfl
      · show Option.bind (Option.map _ (readPair (readNat 0 (n - 1)) (readInt (-LIMIT) LIMIT) r)) _ = _
        unfold readPair
        rw [readNat_eq n h1]
        cases hc : readInt 0 ((n : Int) - 1) r with
        | none => rfl
        | some u =>
          obtain ⟨c, y⟩ := u
          have hcc := readInt_some hc
          simp only [Option.map_some, Option.bind_some]
          rw [show -LIMIT = -999999 from rfl, show LIMIT = 999999 from rfl]
          cases hz : readInt (-999999) 999999 y with
          | none => rfl
          | some v =>
            obtain ⟨z, y2⟩ := v
            have hzz := readInt_some hz
            simp only [Option.map_some, Option.bind_some]
            rw [if_pos]
            · rfl
            · simp only [okTest, Bool.and_eq_true, decide_eq_true_eq]
              have : LIMIT = 999999 := rfl
              omega
      · show Option.bind (Option.map _ (readPair (readNat 0 (n - 1)) (readInt (-LIMIT) LIMIT) r)) _ = _
        unfold readPair
        rw [readNat_eq n h1]
        cases hc : readInt 0 ((n : Int) - 1) r with
        | none => rfl
        | some u =>
          obtain ⟨c, y⟩ := u
          have hcc := readInt_some hc
          simp only [Option.map_some, Option.bind_some]
          rw [show -LIMIT = -999999 from rfl, show LIMIT = 999999 from rfl]
          cases hz : readInt (-999999) 999999 y with
          | none => rfl
          | some v =>
            obtain ⟨z, y2⟩ := v
            have hzz := readInt_some hz
            simp only [Option.map_some, Option.bind_some]
            rw [if_pos]
            · rfl
            · simp only [okTest, Bool.and_eq_true, decide_eq_true_eq]
              have : LIMIT = 999999 := rfl
              omega
      · show Option.bind (Option.map _ (readPair (readNat 0 (n - 1)) (readPair (readNat 0 (n - 1)) (readInt (-LIMIT) LIMIT)) r)) _ = _
        unfold readPair
        rw [readNat_eq n h1]
        cases hc : readInt 0 ((n : Int) - 1) r with
        | none => rfl
        | some u =>
          obtain ⟨c, y⟩ := u
          have hcc := readInt_some hc
          simp only [Option.map_some, Option.bind_some]
          rw [readNat_eq n h1]
          cases ho : readInt 0 ((n : Int) - 1) y with
          | none => rfl
          | some w =>
            obtain ⟨o, y1⟩ := w
            have hoo := readInt_some ho
            simp only [Option.map_some, Option.bind_some]
            rw [show -LIMIT = -999999 from rfl, show LIMIT = 999999 from rfl]
            cases hz : readInt (-999999) 999999 y1 with
            | none => rfl
            | some v =>
              obtain ⟨z, y2⟩ := v
              have hzz := readInt_some hz
              simp only [Option.map_some, Option.bind_some]
              rw [if_pos]
              · rfl
              · simp only [okTest, Bool.and_eq_true, decide_eq_true_eq]
                have : LIMIT = 999999 := rfl
                omega
      · show Option.bind (Option.map _ (readPair (readNat 0 (n - 1)) (readPair (readNat 2 6) (readNat 0 5)) r)) _ = _
        unfold readPair
        rw [readNat_eq n h1]
        cases hc : readInt 0 ((n : Int) - 1) r with
        | none => rfl
        | some u =>
          obtain ⟨c, y⟩ := u
          have hcc := readInt_some hc
          simp only [Option.map_some, Option.bind_some, if_true]
          cases y with
          | nil => rfl
          | cons d y1 =>
            simp only
            by_cases hd : d ∈ ([2, 3, 4, 6] : List Int)
            · rw [if_pos hd]
              have hd4 : d = 2 ∨ d = 3 ∨ d = 4 ∨ d = 6 := by simpa using hd
              have hr : readNat 2 6 (d :: y1) = some (d.toNat, y1) := by
                unfold readNat
                rw [readInt_in y1 (by unfold VaaclBase.int; omega)]
                rfl
              rw [hr]
              simp only [Option.bind_some]
              cases y1 with
              | nil => rfl
              | cons m y2 =>
                by_cases hm : 0 ≤ m ∧ m ≤ d - 1
                · rw [readInt_in y2 hm]
                  have hr2 : readNat 0 5 (m :: y2) = some (m.toNat, y2) := by
                    unfold readNat
                    rw [readInt_in y2 (by unfold VaaclBase.int; omega)]
                    rfl
                  rw [hr2]
                  simp only [Option.map_some, Option.bind_some]
                  rw [if_pos]
                  simp only [okTest, Bool.and_eq_true, decide_eq_true_eq]
                  refine ⟨by omega, ?_, by omega⟩
                  rcases hd4 with rfl | rfl | rfl | rfl <;> rfl
                · rw [readInt_out y2 hm]
                  simp only
                  by_cases h5 : 0 ≤ m ∧ m ≤ 5
                  · have hr2 : readNat 0 5 (m :: y2) = some (m.toNat, y2) := by
                      unfold readNat
                      rw [readInt_in y2 (by unfold VaaclBase.int; omega)]
                      rfl
                    rw [hr2]
                    simp only [Option.map_some, Option.bind_some]
                    rw [if_neg]
                    simp only [okTest, Bool.and_eq_true, decide_eq_true_eq]
                    omega
                  · have hr2 : readNat 0 5 (m :: y2) = none := by
                      unfold readNat
                      rw [readInt_out y2 (by unfold VaaclBase.int; omega)]
                      rfl
                    rw [hr2]
                    rfl
            · rw [if_neg hd]
              by_cases h6 : 2 ≤ d ∧ d ≤ 6
              · have hr : readNat 2 6 (d :: y1) = some (d.toNat, y1) := by
                  unfold readNat
                  rw [readInt_in y1 (by unfold VaaclBase.int; omega)]
                  rfl
                rw [hr]
                simp only [Option.bind_some]
                cases readNat 0 5 y1 with
                | none => rfl
                | some v =>
                  obtain ⟨m, y2⟩ := v
                  simp only [Option.map_some, Option.bind_some]
                  rw [if_neg]
                  simp only [okTest, Bool.and_eq_true, decide_eq_true_eq]
                  rintro ⟨_, h7, _⟩
                  have h7 : d.toNat ∈ MODULI := by simpa using h7
                  simp only [MODULI, List.mem_cons, List.not_mem_nil, or_false] at h7
                  apply hd
                  simp only [List.mem_cons, List.not_mem_nil, or_false]
                  omega
              · have hr : readNat 2 6 (d :: y1) = none := by
                  unfold readNat
                  rw [readInt_out y1 (by unfold VaaclBase.int; omega)]
                  rfl
                rw [hr]
                rfl
    · rw [readInt_out r hk]
      unfold readTest
      simp only
      split
      · simp_all
      · simp_all
      · simp_all
      · simp_all
      · rfl
end Mth
/-! LcX -/
/-! name = [elt for target in iter], where the element may raise: what is raised leaves the block, then the def. -/
namespace LcX
open PySem PySem.Spec PyProof.Rows L2

/-- noting a frame asks its frame alone -/
theorem note_same {a b : Env} (h : a.frame = b.frame) (x : Value) : noteFrame x a = noteFrame x b := by
  unfold noteFrame PySem.frameOf
  rw [h]

section
variable {M : Model} {A : Around} {E : Value → Shared → Prop} {s : Shared} {Z : Obj → Prop} {base : Heap} {env : Env} {outer : List Env} {L e : Addr}
/-- noted, though another place has its flight -/
theorem look_far {fl : Value} {Q : Unit → Shared → Prop} (hZ : HandSPX.Steady Z) (hfr : A.frames = some (env :: outer)) (hf : env.frame = some L)
    (kb : base.StaysIn s.heap) (en : base.get? e = none) (ff : s.heap.FunFrames base (env :: outer)) (ht : HandSPX.TracedZ s.heap base e Z fl) (hne : (fl == rawInt L) = false)
    (hQ : ∀ h1, HandSPX.HeldZ base (env :: outer) e Z L h1 → s.heap.UpToSlots h1 → Q () { s with heap := h1 }) : wpAny M A (noteFrame (.ref e) env) Q E s := by
  obtain ⟨oe, vs, T, oT, ts, he, hz, hd, h1, hnT, hTe, hT, hdT, h3⟩ := ht
  have far : ∀ b, b ≠ T → (s.heap.update T (Obj.mapFields (·.setIfInBounds 3 Value.none))).get? b = s.heap.get? b :=
    fun b hb => Heap.get?_update_other _ _ (Ne.symm hb)
  have noT : ∀ b o, s.heap.get? b = some o → (∀ vs, o.data ≠ .fields vs) → b ≠ T := by
    intro b o hb hnf q
    rw [q, hT] at hb
    cases hb
    exact hnf ts hdT
  unfold noteFrame
  simp only [hf]
  refine wpAny_bind ?_
  refine wpAny_field he hd h1 ?_
  rw [if_pos (by simp : (Value.ref T != Value.none) = true)]
  refine wpAny_bind ?_
  refine wpAny_field hT hdT h3 ?_
  rw [hne, if_neg Bool.false_ne_true]
  refine wpAny_bind ?_
  refine wpAny_setField hT hdT (Array.getElem?_eq_some_iff.mp h3).1 ?_
  refine HandSPX.wpAny_entryZ hZ hfr (ff.of_keeps fun b o hb hnf => ⟨o, (far b (noT b o hb hnf)).trans hb, rfl⟩) hf ((far e (Ne.symm hTe)).trans he) ?_ en hd (Array.getElem?_eq_some_iff.mp h1).1 hz ?_
  · intro b o hbo
    refine (far b ?_).trans (kb b o hbo)
    intro q
    rw [q, hnT] at hbo
    cases hbo
  · rintro h' ⟨x1, x2, x3, x4⟩
    refine hQ h' ⟨x1, en, x2, x3⟩ ?_
    intro b o hb hnf
    exact x4 b o ((far b (noT b o hb hnf)).trans hb) hnf
end

/-- frames over a smaller ground, in a heap that differs at C alone -/
theorem frames_but {B B' h h' : Heap} {C : Addr} (hn : ∀ b, B.get? b = none → B'.get? b = none) (hs : ∀ b, b ≠ C → h'.get? b = h.get? b) :
    ∀ {l : List Env}, h.FunFrames B l → (∀ b ∈ frs l, b ≠ C) → h'.FunFrames B' l
  | [], _, _ => trivial
  | env :: l, h0, hc => by
    obtain ⟨hk, ⟨L, o, hf, hb, ho, hd⟩, hr⟩ := h0
    have hL : L ≠ C := hc L (List.mem_filterMap.mpr ⟨env, List.mem_cons_self, hf⟩)
    refine ⟨hk, ⟨L, o, hf, hn L hb, (hs L hL).trans ho, hd⟩, frames_but hn hs hr ?_⟩
    intro b hb
    obtain ⟨e, he, q⟩ := List.mem_filterMap.mp hb
    exact hc b (List.mem_filterMap.mpr ⟨e, List.mem_cons_of_mem _ he, q⟩)

theorem rawInt_ne {a b : Addr} (h : a ≠ b) : (rawInt a == rawInt b) = false := by
  unfold rawInt
  refine beq_eq_false_iff_ne.mpr fun q => h ?_
  injection q with q1
  exact Int.ofNat.inj q1

/-- what is raised in the block is taken outside -/
theorem takes_blk {X : Cx} {W : WX} {pins : List (Addr × Obj)} {σ : L2.St} {H3 : Hp} {s3 : Shared} {scope : Scope} {ce : Env} {fp : List Addr} (I3 : Inv X pins σ H3 s3) (tk : Takes X W)
    (hst : X.stack = X.env :: X.outer) (hfX : X.env.frame = some X.env.locals) (hcf : ce.frame = X.env.frame) (cL : ce.locals = s3.heap.objs.size) (f3 : ∀ b ∈ fp, FpOk X pins H3 b) :
    Takes ((X.blk s3 H3 scope ce fp).wish (notedBy (model X.prog X.w) X.A ce (CompFails (model X.prog X.w) X.A X.xe ce))) (fun cls d _ H => W cls d σ H) := by
  rintro u s' ⟨a, B, sI, pinsB, σB, H', cls, d, rfl, IB', nb, up, sky, na, os, ag, w⟩
  have IB : Inv (X.blk s3 H3 scope ce fp) pinsB σB H' sI := IB'.unwish
  obtain ⟨C, hC⟩ : ∃ C, C = ce.locals := ⟨_, rfl⟩
  have hCs : C = s3.heap.objs.size := hC.trans cL
  have hfr : X.A.frames = some (X.env :: X.outer) := by rw [I3.ok.frames, hst]
  have nfr : ∀ b ∈ frs X.stack, b ≠ C := by
    intro b hb q
    rcases List.mem_cons.mp (I3.stkSub b hb) with z | z
    · have := I3.lt
      rw [← z, q, hCs] at this
      exact Nat.lt_irrefl _ this
    · exact I3.nofs (a := b) (by rw [q, hCs]; exact Nat.le_refl _) z
  have HC : H' C = none := by
    have z : H' ce.locals = none := IB.free
    rw [hC]
    exact z
  obtain ⟨mC, hnC, _⟩ := IB.loc
  have hnC : sI.heap.Ns C mC := by
    rw [hC]
    exact hnC
  -- behind the note
  have fin : ∀ h1, HandSPX.HeldZ B (X.env :: X.outer) a (Zc cls d) X.env.locals h1 → s'.heap.UpToSlots h1 →
      CompFails (model X.prog X.w) X.A X.xe ce (.ref a) { s' with heap := h1 } := by
    rintro h1 ⟨k1, k2, k3, oe, vs, T, oT, ts, he, hz, hd, hv1, hnT, hTe, hT, hdT, hv3⟩ up1
    have hn1 : h1.Ns C mC := (up.trans up1).ns hnC
    refine ⟨mC, by rw [← hC]; exact hn1, fun h2 m2 _ sb => ?_⟩
    rw [← hC] at sb
    have sb : Heap.SameBut C h1 h2 := sb
    obtain ⟨oC, es, ep, hoC, hdC, _⟩ := hn1
    have haC : a ≠ C := by
      rintro rfl
      rw [he] at hoC
      cases hoC
      rw [hd] at hdC
      cases hdC
    have hTC : T ≠ C := by
      rintro rfl
      rw [hT] at hoC
      cases hoC
      rw [hdT] at hdC
      cases hdC
    obtain ⟨B', b1, b2⟩ := restrict B fun b => decide (b ≠ C)
    have b1' : ∀ b, b ≠ C → B'.get? b = B.get? b := fun b hb => b1 b (decide_eq_true hb)
    have b2' : B'.get? C = none := b2 C (by simp)
    have bne : ∀ b o, B'.get? b = some o → b ≠ C := by
      rintro b o e rfl
      rw [b2'] at e
      cases e
    have bno : ∀ b, B.get? b = none → B'.get? b = none := by
      intro b hb
      by_cases q : b = C
      · rw [q]; exact b2'
      · rw [b1' b q]; exact hb
    have held2 : HandSPX.HeldZ B' (X.env :: X.outer) a (Zc cls d) X.env.locals h2 := by
      refine ⟨fun b o e => ?_, bno a k2, frames_but bno sb.2 k3 (by rw [← hst]; exact nfr), oe, vs, T, oT, ts, (sb.2 a haC).trans he, hz, hd, hv1, bno T hnT, hTe, (sb.2 T hTC).trans hT, hdT, hv3⟩
      have hb := bne b o e
      rw [b1' b hb] at e
      exact (sb.2 b hb).trans (k1 b o e)
    unfold PySem.passOn
    refine wpAny_bind ?_
    refine wpAny_field ((sb.2 a haC).trans he) hd hv1 ?_
    rw [if_neg (by simp : ¬ ((Value.ref T == Value.none) = true))]
    have go : wpAny (model X.prog X.w) X.A (setFlight (.ref a) ce.frame) (fun _ s4 => wpAny (model X.prog X.w) X.A (throw (.ref a) : Sem Value) (fun _ _ => False) X.xe s4) X.xe { s' with heap := h2 } := by
      rw [hcf, hfX]
      refine HandSPX.setFlight_onZ held2 fun h4 held4 up4 => wpAny_throw (tk _ _ ?_)
      obtain ⟨G, g1, g2⟩ := restrict sI.heap fun b => decide (b ≠ C)
      have g1' : ∀ b, b ≠ C → G.get? b = sI.heap.get? b := fun b hb => g1 b (decide_eq_true hb)
      have gne : ∀ b o, G.get? b = some o → b ≠ C := by
        rintro b o e rfl
        rw [g2 b (by simp)] at e
        cases e
      have lt3 : ∀ b o, s3.heap.get? b = some o → b ≠ C := by
        rintro b o e rfl
        have := Heap.lt_size e
        rw [hCs] at this
        exact Nat.lt_irrefl _ this
      refine ⟨a, B', { sI with heap := G }, pins, σ, H', cls, d, rfl, ?_, ?_, ?_, .inr (.inr (by rw [hst]; exact held4)), na, os, ag, w⟩
      · have u := IB.base
        refine I3.call' (s' := { sI with heap := G }) (ch := fp) IB.os (H' := H') ⟨?_, ?_, u.free, ?_, u.tups, u.frzs, u.tbls⟩ ?_ IB.bare ?_
        · intro b o e n hb hx
          exact (g1' b (lt3 b o e)).trans (u.keep b o e n hb hx)
        · intro b o e n hb hx
          obtain ⟨sl, q⟩ := u.slot b o e n hb hx
          exact ⟨sl, (g1' b (lt3 b o e)).trans q⟩
        · intro b o e hx
          obtain ⟨o', q⟩ := u.there b o e hx
          exact ⟨o', (g1' b (lt3 b o e)).trans q⟩
        · intro b o e
          have nC : ∀ c v, H' c = some v → c ≠ C := by
            rintro c v q rfl
            rw [HC] at q
            cases q
          refine (IB.hok b o e).stay (fun c v hc q => (g1' c ?_).trans q) (fun _ q => q) fun _ _ q => q
          rcases hc with hc | hc
          · rw [hc]; exact nC b o e
          · exact nC c _ hc
        · intro b hb
          have z := f3 b hb
          exact ⟨z.2.2.2.1, z.2.1, z.2.2.2.2.1, z.2.2.2.2.2⟩
      · intro b o e hb
        have hbC := gne b o e
        have e' : sI.heap.get? b = some o := by rw [← g1' b hbC]; exact e
        exact (b1' b hbC).trans (nb b o e' hb)
      · intro b o e hnf
        have hbC := gne b o e
        have e' : sI.heap.get? b = some o := by rw [← g1' b hbC]; exact e
        obtain ⟨sl, q⟩ := (up.trans up1) b o e' hnf
        obtain ⟨sl4, q4⟩ := up4 b _ ((sb.2 b hbC).trans q) hnf
        exact ⟨sl4, q4⟩
    first
      | exact wpAny_bind (wpAny_pure (wpAny_bind go))
      | exact wpAny_bind go
  show wpAny (model X.prog X.w) X.A (noteFrame (.ref a) ce) (fun _ s'' => CompFails (model X.prog X.w) X.A X.xe ce (.ref a) s'') (CompFails (model X.prog X.w) X.A X.xe ce) s'
  rw [note_same hcf]
  have sky' : Sky B (X.env :: X.outer) a (Zc cls d) C s'.heap := by
    rw [← hst, hC]
    exact sky
  rcases sky' with ⟨hB, hn, hl, oe, vs, he, hz, hd, h1⟩ | fl | hh
  · exact HandSPX.look_newZ Zc.steady hfr hl hfX he hB hn hd h1 hz fin
  · exact HandSPX.looks_onZ Zc.steady hfr hfX fl fin
  · refine look_far Zc.steady hfr hfX hh.1 hh.2.1 hh.2.2.1 hh.2.2.2 (rawInt_ne ?_) fin
    intro q
    have := I3.lt
    rw [← q, hCs] at this
    exact Nat.lt_irrefl _ this

section
variable {X : Cx}
/-- the reading: as that of a comprehension without tests; the element's wish is the def's, at the slots that stand around -/
def tLcX (W : WX) (wi : TI) (g : TG) (te : WX → TE) (vs : List Nat) : TE := fun σ H Q => tLc wi g tYes (te fun cls d _ H' => W cls d σ H') vs σ H Q

theorem core {pins : List (Addr × Obj)} {s : Shared} {σ : L2.St} {H : Hp} {Q : VK} {W : WX} {elt tg iter : Expr} {scope : Scope} {own : List (Str × Nat)} {pos pos' : Pos} {wi : TI} {g : TG} {te : WX → TE} {use : Option (Value → Sem Unit)} {Qf : Value → Shared → Prop}
    (hc : X.calm = true) (hN : X.N.Nodup) (I : Inv X pins σ H s) (tk : Takes X W) (hst : X.stack = X.env :: X.outer) (hfX : X.env.frame = some X.env.locals)
    (hi : PI X tg iter wi) (ok : BlkOk X.N X.env.scope scope own)
    (hg : ∀ (s1 : Shared) (H1 : Hp) (C : Addr) (cl : List (Str × Addr)) (fp : List Addr), PG (X.blk s1 H1 scope (compEnvC scope cl C X.env) fp) tg g)
    (he : ∀ (s1 : Shared) (H1 : Hp) (C : Addr) (cl : List (Str × Addr)) (fp : List Addr) (WB : WX) (xe : Value → Shared → Prop), Takes ((X.blk s1 H1 scope (compEnvC scope cl C X.env) fp).wish xe) WB →
      PE ((X.blk s1 H1 scope (compEnvC scope cl C X.env) fp).wish xe) elt (te WB))
    (hs : ∀ x, foldedSetIterable iter X.env x = pure x) (h : tLcX W wi g te (own.map (·.2)) σ H Q)
    (hRR : ∀ D (cenv : Env) s' m H', Inv X pins σ H' s' → Q (.ref D) H' → s'.heap.Ns cenv.locals m → FpOk X pins H' cenv.locals → compEnds (model X.prog X.w) X.A X.xe use Qf (.ref D) cenv (.ok .next) s') :
    wpAny (model X.prog X.w) X.A (comprehension (.ListComp elt [⟨tg, iter, [], 0⟩] scope pos) scope X.env pos' (newList []) false (eval iter X.env) use) Qf X.xe s := by
  have hfree : ∀ y ∈ scope.names, y.2 = .free → ∃ c, X.env.cells.lookup y.1 = some c := by
    intro y hy e
    exact (ok.free y hy e).elim (fun k => I.ok.has _ (.inl k)) fun k => I.ok.has _ (.inr k)
  refine comprehension_at (use := use) rfl hs (closure_ok hfree) ok.kind (fun y hy e => (ok.uniq y hy).trans (by rw [e])) ?_
  refine thn (hi.run pins s σ H _ I h) fun xv s1 hx => thn hx ?_
  rintro itv s2 ⟨it, fp, tn, J, H2, rfl, I2, T, st2, f2, q⟩
  refine wpAny_newObj_type (newEnv_comp ?_) (by show 0 ≤ sizeLine; decide)
  obtain ⟨D, hD⟩ : ∃ D, D = s2.heap.objs.size := ⟨_, rfl⟩
  rw [← hD]
  obtain ⟨W0, ⟨m0, w0⟩, turn⟩ := q D (I2.hok.fresh (Nat.le_of_eq hD.symm))
  -- the new list stands at D
  generalize hs3 : ({ s2 with heap := s2.heap.push { cls := .type "list", data := .seq ([] : List Value).toArray } } : Shared) = s3
  have e3 : s3.heap = s2.heap.push { cls := .type "list", data := .seq ([] : List Value).toArray } := by rw [← hs3]
  have I3 : Inv X pins σ (upd H2 D (.lst [])) s3 := by
    rw [← hs3]
    refine I2.laid (t' := s2.toks) (fun b o e => Heap.get?_push_of_some _ e) (Nat.le_of_eq hD.symm) ⟨Nat.zero_le _, [], 0, .nil, ?_⟩
    rw [hD]
    exact Heap.get?_push_size _ rfl
  have f3 : ∀ b ∈ fp, FpOk X pins (upd H2 D (.lst [])) b ∧ b < s3.heap.objs.size := by
    intro b hb
    obtain ⟨o, e, _⟩ := T.obj _ _ st2 b hb
    have hlt := Heap.lt_size e
    refine ⟨⟨?_, (f2 b hb).2⟩, ?_⟩
    · rw [upd_ne (by rw [hD]; exact Nat.ne_of_lt hlt)]
      exact (f2 b hb).1
    · rw [e3, Heap.size_push]
      exact Nat.lt_succ_of_lt hlt
  have st3 : tn 0 s3.heap := by
    refine T.keep _ _ _ st2 fun b _ o e => ?_
    rw [e3]
    exact Heap.get?_push_of_some _ e
  have I4 := block_start I3 ok hN f3
  have pg := hg s3 (upd H2 D (.lst [])) s3.heap.objs.size (cellsFrom (s3.heap.objs.size + 1) scope.names (cloFrom X.env.cells scope.names [])) fp
  have pe := he s3 (upd H2 D (.lst [])) s3.heap.objs.size (cellsFrom (s3.heap.objs.size + 1) scope.names (cloFrom X.env.cells scope.names [])) fp
  show codeAny _ _ (.compStart (.ListComp elt [⟨tg, iter, [], 0⟩] scope pos) 0 (.ref it) (.ref D) (compEnvC scope (cellsFrom (s3.heap.objs.size + 1) scope.names (cloFrom X.env.cells scope.names [])) s3.heap.objs.size X.env))
    (compEnds (model X.prog X.w) X.A X.xe use Qf (.ref D) (compEnvC scope (cellsFrom (s3.heap.objs.size + 1) scope.names (cloFrom X.env.cells scope.names [])) s3.heap.objs.size X.env)) { s3 with heap := pushCells (s3.heap.push { cls := .type "dict", data := .dict #[] }) scope.names }
  have nfp : ∀ b ∈ fp, (upd H2 D (.lst [])) b = none := fun b hb => (f3 b hb).1.1
  generalize hce : compEnvC scope (cellsFrom (s3.heap.objs.size + 1) scope.names (cloFrom X.env.cells scope.names [])) s3.heap.objs.size X.env = ce at I4 pg pe ⊢
  have cL : ce.locals = s3.heap.objs.size := by rw [← hce]; rfl
  have cF : ce.frame = X.env.frame := by rw [← hce]; rfl
  generalize hH3 : upd H2 D (.lst []) = H3 at I3 I4 pg pe w0 nfp f3
  generalize hs4 : ({ s3 with heap := pushCells (s3.heap.push { cls := .type "dict", data := .dict #[] }) scope.names } : Shared) = s4 at I4 ⊢
  have tkB := takes_blk (scope := scope) I3 tk hst hfX cF cL fun b hb => (f3 b hb).1
  have pe' := pe _ _ tkB
  have st4 : tn 0 s4.heap := by
    refine T.keep _ _ _ st3 fun b _ o e => ?_
    rw [← hs4]
    exact pushCells_keeps _ _ _ _ (Heap.get?_push_of_some _ e)
  have stat : ∀ {σ' : L2.St} {H' : Hp} {s' : Shared}, Inv (X.blk s3 H3 scope ce fp) [] σ' H' s' → (∀ b ∈ fp, H' b = none) → ∀ b ∈ fp, FpOk (X.blk s3 H3 scope ce fp) [] H' b := by
    intro σ' H' s' I' hn b hb
    refine ⟨hn b hb, (I'.ok.exf b hb).1, I'.ok.exfs b hb, .inl hb, fun x c e => (I'.ok.exf b hb).2 x c e, fun p hp => ?_⟩
    have hp' : p ∈ ([] : List (Addr × Obj)) ++ [] := hp
    simp at hp'
  have loop : codeAny (model X.prog X.w) X.A (.compLoop (.ListComp elt [⟨tg, iter, [], 0⟩] scope pos) 0 (.ref it) (.ref D) ce) (compEnds (model X.prog X.w) X.A X.xe use Qf (.ref D) ce) s4 := by
    refine compLoop_any (fun n s' => ∃ i H', Inv (X.blk s3 H3 scope ce fp) [] (wipe σ (own.map (·.2))) H' s' ∧ tn i s'.heap ∧ (∀ b ∈ fp, H' b = none) ∧ W0 i n H') ?_ m0 ⟨0, H3, I4, st4, nfp, w0⟩
    rintro n s5 ⟨i, H5, I5, st5, n5, w5⟩
    rcases turn i n H5 w5 with ⟨stop, qq⟩ | ⟨go, Nx, hNx, step⟩
    · refine thnF (T.done (X.blk s3 H3 scope ce fp) rfl rfl rfl hc i [] s5 _ H5 (fun _ _ => False) I5 (stat I5 n5) st5 stop) ?_
      rintro r s6 ⟨rfl, I6⟩
      have I7 : Inv X pins σ H5 s6 := by
        refine I3.call' (ch := fp) I6.os I6.base I6.hok I6.bare fun b hb => ?_
        have z := (f3 b hb).1.2
        exact ⟨z.2.2.1, z.1, z.2.2.2.1, z.2.2.2.2⟩
      have nC : H5 ce.locals = none := I6.free
      obtain ⟨m, hn, _⟩ := I6.loc
      have hn : s6.heap.Ns ce.locals m := hn
      exact hRR D ce s6 m H5 I7 qq hn (I3.fpOk (by rw [cL]; exact Nat.le_refl _) nC)
    · refine thnF (T.item (X.blk s3 H3 scope ce fp) rfl rfl rfl hc i [] s5 _ H5 (fun _ _ => False) I5 (stat I5 n5) st5 go) ?_
      rintro r s6 ⟨u, rfl, h6⟩
      refine thnF h6 ?_
      rintro _ s7 ⟨x, H7, I7, r7, y7, st7, n7⟩
      have I7' := I7.pinned (stat I7 n7) (T.obj _ _ st7)
      refine thnF (pg.run _ s7 _ H7 x u _ I7' r7 (step x H7 y7)) ?_
      rintro _ s8 ⟨σ8, H8, I8, hw8, q8⟩
      refine wpAny_tests_nil ?_
      simp only [if_true]
      have q8' : te (fun cls d _ H' => W cls d σ H') σ8 H8 fun y H4 => ∃ acc, H4 D = some (.lst acc) ∧ acc.length < sizeLine ∧ Nx (upd H4 D (.lst (acc ++ [y]))) := q8
      refine thn (pe'.run _ s8 σ8 H8 _ (I8.wish _) q8') ?_
      rintro z s10 ⟨yv, H10, I10w, r10, acc, hD10, hz10, nx⟩
      have I10 : Inv (X.blk s3 H3 scope ce fp) ([] ++ pinsAt fp s7.heap) σ8 H10 s10 := I10w.unwish
      refine app_ok (X := X.blk s3 H3 scope ce fp) I10 hD10 hz10 r10 fun s11 I11 => ?_
      obtain ⟨m', hm, w'⟩ := hNx _ nx
      have held : ∀ b ∈ fp, ∀ o, s7.heap.get? b = some o → s11.heap.get? b = some o ∧ upd H10 D (.lst (acc ++ [yv])) b = none := by
        intro b hb o e
        have z := I11.pin (b, o) (List.mem_append_right _ (List.mem_append_right _ (mem_pinsAt hb e)))
        exact ⟨z.1, z.2.1⟩
      refine ⟨m', hm, i + 1, _, (I11.unpinned (pins := [])).weak (by rw [← hw8, wipe_length]) (fun j v e => ?_), T.keep _ _ _ st7 fun b hb o e => (held b hb o e).1, fun b hb => ?_, w'⟩
      · rw [← hw8] at e
        exact (wipe_some e).1
      · obtain ⟨o, e, _⟩ := T.obj _ _ st7 b hb
        exact (held b hb o e).2
  exact codeAny_compStart_list loop (T.self X.A 0 _ _ _ st4 loop)

/-- name = [elt for target in iter], on one line, the name a local -/
theorem ps_setLcX {i : Nat} {y : Str} {py : Pos} {W : WX} {elt tg iter : Expr} {scope : Scope} {own : List (Str × Nat)} {pos spos : Pos} {wi : TI} {g : TG} {te : WX → TE}
    (hc : X.calm = true) (tk : Takes X W) (hst : X.stack = X.env :: X.outer) (hfX : X.env.frame = some X.env.locals) (hN : X.N.Nodup) (hy : X.N[i]? = some y) (hyl : X.env.scope.names.lookup y = some .local)
    (hsw : swapsWith (.ListComp elt [⟨tg, iter, [], 0⟩] scope pos) (some (.Name y py)) spos.line X.env = pure true) (hi : PI X tg iter wi) (ok : BlkOk X.N X.env.scope scope own)
    (hg : ∀ (s1 : Shared) (H1 : Hp) (C : Addr) (cl : List (Str × Addr)) (fp : List Addr), PG (X.blk s1 H1 scope (compEnvC scope cl C X.env) fp) tg g)
    (he : ∀ (s1 : Shared) (H1 : Hp) (C : Addr) (cl : List (Str × Addr)) (fp : List Addr) (WB : WX) (xe : Value → Shared → Prop), Takes ((X.blk s1 H1 scope (compEnvC scope cl C X.env) fp).wish xe) WB →
      PE ((X.blk s1 H1 scope (compEnvC scope cl C X.env) fp).wish xe) elt (te WB)) (hs : ∀ x, foldedSetIterable iter X.env x = pure x := by intro _; rfl) :
    PS X (.Assign [.Name y py] (.ListComp elt [⟨tg, iter, [], 0⟩] scope pos) spos) (tAsg (tLcX W wi g te (own.map (·.2))) (gName i)) := by
  refine ⟨fun pins s σ H D I h => ?_⟩
  rw [exec_Assign_Name_used _ _ _ _ hsw]
  refine wpAny_bind (wpAny_standAt (wpAny_bind ?_))
  have h : tLcX W wi g te (own.map (·.2)) σ H (fun x H1 => gName i x σ H1 D.nx) := h
  show wpAny _ X.A (do let _ ← comprehension (.ListComp elt [⟨tg, iter, [], 0⟩] scope pos) scope X.env (firstIterPos [⟨tg, iter, [], 0⟩] pos) (newList []) false (eval iter X.env) (some (assign (.Name y py) X.env))) _ _ s
  refine wpAny_bind (thn (core (Qf := fun _ s' => SP X pins D .next s') hc hN I tk hst hfX hi ok hg he hs h fun L cenv s' m H' I' q hn f => ?_) fun _ s' hq => wpAny_pure (wpAny_pure hq))
  show wpAny _ _ (assign (.Name y py) X.env (.ref L)) _ _ _
  obtain ⟨f0, f1, f2, f3, f4, f5⟩ := f
  refine wpAny_assign_Name (store_ok2 (v := V.ref L) I' hN hy (.inl hyl) rfl ?_ (.inr hyl))
  rintro s2 I2 ⟨a, sb, ha⟩
  have haC : cenv.locals ≠ a := by
    rcases ha with z | z
    · rw [z]; exact f1
    · exact fun e => f4 y a z e.symm
  exact ⟨m, hn.sameBut sb haC, fun h3 sb3 => ⟨_, H', I2.turned (t' := s2.toks) (fun b o hb e => (sb3.2 b hb).trans e) f0 f1 f3 f4 f5, q⟩⟩
end
end LcX
/-! EnumT -/
/-! for i, x in enumerate(t), t a tuple. -/
namespace EnumT
open PySem PySem.Spec PyProof.Rows L2

set_option maxHeartbeats 4000000 in
/-- enumerate(v): made -/
theorem meets_one {v : Value} {o : Obj} {G : Heap → Prop} (B : Begins v o G) :
    Meets (Builtin.«enumerate.__new__» ⟨[.type "enumerate", v], []⟩) (fun _ R s => G s.heap ∧
      R (.ok (.ret (.ref (s.heap.push o).objs.size))) { s with heap := (s.heap.push o).push { cls := .type "enumerate", data := .fields #[.none, .bool false, .ref s.heap.objs.size, rawInt 0, .none, .none] } }) :=
  .of_wp fun prog w A R s h => by
    obtain ⟨hp, g, d, tk, os⟩ := s
    obtain ⟨h1, h⟩ := h
    have hsub := sub_enumerate
    have q1 : ∀ {A' : Around} {E : Value → Shared → Prop} {Q : Value → Shared → Prop}, Q (.ref hp.objs.size) ⟨hp.push o, g, d, tk, os⟩ → wpAny (model prog w) A' (pyIter v) Q E ⟨hp, g, d, tk, os⟩ := by
      intro A' E Q q
      exact B.iter prog w _ _ ⟨hp, g, d, tk, os⟩ _ h1 q
    wp_walk using q1
    refine wpAny_stack_any fun st => wpAny_pure ?_
    split
    · rename_i c _ _ _ _ _
      cases (c == Value.type "enumerate") <;> (wp_walk using q1; exact ⟨_, rfl, h⟩)
    · wp_walk using q1
      exact ⟨_, rfl, h⟩

section
variable {prog : Program} {w : World} {A : Around} {E : Value → Shared → Prop} {s : Shared}
theorem begins_one {v : Value} {o : Obj} {G : Heap → Prop} {Q : Value → Shared → Prop} (B : Begins v o G) (h1 : G s.heap)
    (h : ∀ h', IsEnum h' (s.heap.objs.size + 1) s.heap.objs.size 0 .none → h'.get? s.heap.objs.size = some o → (∀ b u, s.heap.get? b = some u → h'.get? b = some u) →
      Q (.ref (s.heap.objs.size + 1)) { s with heap := h' }) : wpAny (model prog w) A (call (.type "enumerate") [v]) Q E s := by
  refine callType_new F.called_enumerate (by decide) (F.typeCall_enumerate_1 _) (F.newCall_enumerate_1 _) (fun obj => F.args_object_init_2 obj _) F.entry_enumerate_new (meets_one B) ⟨h1, ?_⟩
  have hz : (s.heap.push o).objs.size = s.heap.objs.size + 1 := by rw [Heap.size_push]
  show _ ∧ _
  rw [hz]
  have he : IsEnum ((s.heap.push o).push { cls := .type "enumerate", data := .fields #[.none, .bool false, .ref s.heap.objs.size, rawInt 0, .none, .none] }) (s.heap.objs.size + 1) s.heap.objs.size 0 .none := by
    rw [← hz]
    exact Heap.get?_push_size (s.heap.push o) rfl
  refine ⟨⟨_, he, rfl⟩, h _ he (Heap.get?_push_of_some _ (Heap.get?_push_size _ B.free)) fun b u x => ?_⟩
  exact Heap.get?_push_of_some _ (Heap.get?_push_of_some _ x)
end

/-- the tuple at a, each item in a new pair -/
def ItT (K : PySem.W.Frag) (a : Addr) : It :=
  ⟨fun i H => ∃ (xs : List V) (x : V), SqT K H a xs ∧ xs[i]? = some x,
    fun i H v H' => ∃ T x, v = .ref T ∧ H T = none ∧ H' = upd H T (.tup [.int (i : Nat), x]) ∧ ∀ xs, SqT K H a xs → xs[i]? = some x,
    fun i H => ∃ xs : List V, SqT K H a xs ∧ xs.length ≤ i⟩

theorem turn_enumT {P : Program} {w : World} {K : PySem.W.Frag} {elts : List Expr} {kk : Nat} {tpos : Pos} (a e it : Addr) (hae : a ≠ e) (hai : a ≠ it) :
    Turn P w K (.Tuple elts kk tpos) (ItT K a) [e, it] e (fun i h => (∃ old, IsEnum h e it ((i : Nat) : Int) old) ∧ h.IsTupleIter it a i ∧ e ≠ it) where
  mem := by simp
  obj := by
    rintro i h ⟨⟨old, he⟩, ⟨o, ho, hc, hd⟩, _⟩ b hb
    have e' : b = e ∨ b = it := by simpa using hb
    rcases e' with z | z
    · rw [z]
      exact ⟨_, he, fun v q => nomatch q⟩
    · exact ⟨o, by rw [z]; exact ho, fun v q => by rw [hd] at q; cases q⟩
  keep := by
    rintro i h h' ⟨⟨old, he⟩, hi, hne⟩ k
    exact ⟨⟨old, k e (by simp) _ he⟩, hi.at fun o q => k it (by simp) o q, hne⟩
  item := by
    intro X hP hw hK hc i pins s σ H E I hf st hg
    subst hP hw hK
    obtain ⟨⟨old, he⟩, hit, hne⟩ := st
    obtain ⟨xs, x, hq, hx⟩ := hg
    obtain ⟨its, rv, p, hz⟩ := I.tuple hq
    obtain ⟨u, hu, ru⟩ := rv.get hx
    have hel : e < s.heap.objs.size := Heap.lt_size he
    have hil : it < s.heap.objs.size := by
      obtain ⟨_, q, _⟩ := hit
      exact Heap.lt_size q
    have hlt : i < its.toArray.size := by
      obtain ⟨q, _⟩ := List.getElem?_eq_some_iff.mp hu
      simpa using q
    refine wpAny_pyNext_enum_itemD (Draws.tuple (A := X.A.in1) (I.ok.hd hc) it a hai its.toArray) he ⟨hit, p⟩ hlt hne (by simp [hne, Ne.symm hae]) ?_
    intro x' h' tk hP' ho hst' hT hsz hk
    have hxu : x' = u := by
      have q : its.toArray[i]? = some x' := hP'
      have q2 : its.toArray[i]? = some u := by simpa using hu
      rw [q] at q2
      exact Option.some.inj q2
    subst hxu
    refine ⟨_, rfl, wpAny_letOwnedTupleGo_enum (s := { s with heap := h', toks := tk + 1 }) ho fun h'' he' sb => ?_⟩
    have hT2 : h''.get? s.heap.objs.size = some { cls := .type "tuple", data := .seq #[.int i tk, x'] } := (sb.2 _ (Nat.ne_of_gt hel)).trans hT
    have new : ObjOk X.prog X.w (upd H s.heap.objs.size (.tup [.int (i : Nat), x])) h'' s.heap.objs.size (.tup [.int (i : Nat), x]) :=
      ⟨by show 2 ≤ sizeLine; decide, [.int i tk, x'], .cons ⟨_, rfl⟩ (.cons ru .nil), ⟨_, hT2, rfl, _, rfl⟩⟩
    have I1 : Inv X pins σ (upd H s.heap.objs.size (.tup [.int (i : Nat), x])) { s with heap := h'', toks := tk + 1 } := by
      refine I.turnedNew (ch := [e, it]) (fun b ob hb q => ?_) hf (Nat.le_refl _) new
      have n1 : b ≠ e := fun z => hb (by simp [z])
      have n2 : b ≠ it := fun z => hb (by simp [z])
      exact (sb.2 b n1).trans (hk b ob n1 n2 q)
    refine ⟨.ref s.heap.objs.size, _, I1, rfl, ⟨_, x, rfl, I.hok.fresh (Nat.le_refl _), rfl, fun ys hy => by rw [I.tuple_inj hy hq]; exact hx⟩, ⟨⟨x', ?_⟩, hst'.1.at fun o q => (sb.2 it (Ne.symm hne)).trans q, hne⟩, fun b hb => ?_⟩
    · have e1 : ((i + 1 : Nat) : Int) = (i : Int) + 1 := by omega
      rw [e1]; exact he'
    · have hb' : b < s.heap.objs.size := by
        have e' : b = e ∨ b = it := by simpa using hb
        rcases e' with z | z <;> rw [z] <;> assumption
      rw [upd_ne (Nat.ne_of_lt hb')]
      exact (hf b hb).1
  done := by
    intro X hP hw hK hc i pins s σ H E I hf st hg
    subst hP hw hK
    obtain ⟨⟨old, he⟩, hit, hne⟩ := st
    obtain ⟨xs, hq, hx⟩ := hg
    obtain ⟨its, rv, p, hz⟩ := I.tuple hq
    obtain ⟨f0, f1, f2, f3, f4, f5⟩ := hf it (by simp)
    have hT : s.TypeIs (.ref e) "enumerate" := ⟨_, he, rfl⟩
    have hl := rv.length
    unfold pyNext
    refine wpAny_bind (wpAny_attempt (wpAny_callSpecial?_slot (name := Str.ofString "__next__") hT F.slot_enumerate_next (wpAny_call_entry F.slot_enumerate_next hT F.entry_enumerate_next ?_ (F.args_enumerate_next_1 _))))
    show wpAny _ _ (field (.ref e) 2 >>= _) _ _ _
    refine wpAny_bind (wpAny_field he rfl (x := .ref it) rfl ?_)
    refine wpAny_bind (wpAny_nextOf_tuple_end (A := X.A.in1) (I.ok.hd hc) hit p (by simp; omega) fun h' x he' hx' => ?_)
    obtain ⟨o, ho, hcs⟩ := hx'
    refine wpAny_bind (wpAny_isInstance (T := "StopIteration") (b := true) ⟨o, ho, hcs⟩ isSubtype_stop ?_)
    refine wpAny_pure ⟨rfl, ?_⟩
    exact I.turned (t' := s.toks) (fun b o hb q => he' b o hb q) f0 f1 f3 f4 f5
  self := by
    rintro A i s Q E ⟨⟨_, he⟩, _⟩ h
    exact wpAny_pyIter_enum he h

def iEnumT (K : PySem.W.Frag) (ta : TA) : TI := fun σ H R => ta σ H fun vs H1 => ∃ a xs, vs = [.ref a] ∧ SqT K H1 a xs ∧ R (ItT K a) H1
theorem pi_enumT {X : Cx} {e : Expr} {ta : TA} {p pos tpos : Pos} {elts : List Expr} {kk : Nat} (hg : Gl X "enumerate") (hm : X.mg "enumerate" = none) (ha : PA X [e] ta)
    (hs : starEach [e] X.env = [(false, eval e X.env)] := by rfl) : PI X (.Tuple elts kk tpos) (.Call (.Name "enumerate" p) [e] [] pos) (iEnumT X.K ta) := by
  refine ⟨fun pins s σ H R I h => ?_⟩
  refine Call_ (ld_blt I hg hm boot_enumerate (PyProof.Rows.callWith_type1 (thn (ha.run pos pins s σ H _ I h) ?_) hs rfl))
  rintro us s1 ⟨vs, H1, I1, r1, a, xs, rfl, hq, q⟩
  cases r1 with
  | cons r rr =>
    cases rr
    cases r
    obtain ⟨its, rv, p', hz⟩ := I1.tuple hq
    have hal : a < s1.heap.objs.size := by
      obtain ⟨_, z, _⟩ := p'
      exact Heap.lt_size z
    refine begins_one (begins_tuple a its.toArray) p' fun h' he hit hk => wpAny_pyIter_enum he ?_
    have I2 : Inv X pins σ H1 { s1 with heap := h' } := I1.kept (t' := s1.toks) hk
    refine ⟨s1.heap.objs.size + 1, [s1.heap.objs.size + 1, s1.heap.objs.size], _, _, H1, rfl, I2, turn_enumT a (s1.heap.objs.size + 1) s1.heap.objs.size (Nat.ne_of_lt (Nat.lt_succ_of_lt hal)) (Nat.ne_of_lt hal),
      ⟨⟨.none, he⟩, ⟨_, hit, rfl, rfl⟩, Nat.succ_ne_self _⟩, fun b hb => ?_, q⟩
    have hle : s1.heap.objs.size ≤ b := by
      have e' : b = s1.heap.objs.size + 1 ∨ b = s1.heap.objs.size := by simpa using hb
      rcases e' with z | z <;> rw [z]
      · exact Nat.le_add_right _ _
      · exact Nat.le_refl _
    exact I1.fpOk hle (I1.hok.fresh hle)
end EnumT
/-! Bits -/
/-! small rules: an own error without arguments; methods that may raise; a def that may raise, called where it doesn't. -/
namespace Bits
open PySem PySem.Spec PyProof.Rows L2

section
variable {X : Cx} {pos : Pos}
/-- X(), X an own error class without own __init__ -/
theorem pmk_own0 {C : Addr} {bmB : List Value} {B newId initId : String} {x : Str} {p : Pos} (F : ExcBaseFacts B newId initId bmB) (q : PySem.W.excIn X.K C bmB newId = true) (gC : X.mg x = some (.ref C))
    (kC : PySem.W.keepIn X.K (.ref C) = true) (r : Raises X (.ref C)) (hg : Gl X x) (hdb : (x == ("__debug__" : Str)) = false := by decide) :
    PMk X (.Call (.Name x p) [] [] pos) (fun _ H Q => Q (.ref C) none H) := by
  intro pins s σ H Q I h
  refine wpAny_Call_Name_kw (ld_glob I hg gC ?_ hdb)
  refine PySem.W.callWith_K0 (first := []) I.kIn kC ?_
  show wpAny _ _ (call (.ref C) []) _ _ _
  obtain ⟨bm, N, nm, qn, bs, hdct, sn, sub, ab, col, dd, k0, k1, k2, k3, k5, mN, hC, hN, hni, T⟩ := exc_obj I.kIn q
  refine wpAny_call_exc_subT F T hC hN hni (fun h' e hm => ?_) (Nat.zero_le _)
  exact mk_of I hm r h (I.hok.gone hm.new)
end

section
variable {X : Cx} {CX : CXT} {k : Nat} {f C : Addr} {fd : FuncData} {ps : List Str} {sp : Sp} {E : L2.St → XK} {m : Str} {pos apos : Pos} {o : Expr} {ta : TE} {pl : Sem Bool}
/-- o.m(), what it raises is wished for at the slots as they stand -/
def tMethS0 (C : Addr) (m : Str) (sp : Sp) (E : L2.St → XK) (ta : TE) : TE := fun σ H Q => ta σ H fun x H1 => ∃ a dx fs, x = .ref a ∧ H1 a = some (.ins C dx fs) ∧ fs.lookup m = none ∧ sp [x] H1 Q (E σ)
theorem pe_methS0 (he : PE X o ta) (c : Cls X.K C) (hm : Meth X.K C m f) (F : FnOk X.prog X.w X.K X.mg X.base CX k f fd ps sp) (hr : Room k X.A) (hb : Binds X.K fd ps []) (hx : ∀ σ, PassesAt CX X σ (E σ))
    (ht : eval (.Call (.Attribute o m apos) [] [] pos) X.env = (do
      let ov ← eval o X.env
      standAt apos.atName
      let (f, first) ← holding [ov] (getMethod ov m pl)
      callWith pos f first (backTo pos (starEach [] X.env)) (backToKw pos (keywordEach [] X.env))) := by rfl) :
    PE X (.Call (.Attribute o m apos) [] [] pos) (tMethS0 C m sp E ta) := by
  refine ⟨fun pins s σ H Q I h => ?_⟩
  refine PySem.W.methodCall_KW (pl := pl) (thn (he.run pins s σ H _ I h) ?_) ht
  rintro u s1 ⟨x, H1, I1, rx, a, dx, fs, rfl, ea, l, q⟩
  obtain rfl : u = Value.ref a := rx
  refine getmeth_ok I1 ea c hm l ?_
  exact PySem.W.callWith_K0 (first := [.ref a]) I1.kIn hm.kp (run_fnS (us := [.ref a]) (vs := [.ref a]) F hr hb (hx σ) I1 (.cons rfl .nil) q)
end

/-- a def that may raise, called where nothing may leave: its promise's wish is False -/
theorem passNone {X : Cx} (σ : L2.St) : PassesAt (L2.CX X.prog X.w) X σ (fun _ _ _ => False) := by
  rintro _ _ _ _ _ _ ⟨_, _, _, _, _, _, _, _, _, _, _, _, h⟩
  exact h.elim
end Bits
/-! ExtT -/
/-! list.extend by a tuple. -/
namespace ExtT
open PySem PySem.Spec PyProof.Rows L2
theorem ext_lt (l : Addr) (items : Array Value) (n : Nat) (b : Addr) (items2 : Array Value) (n2 : Nat) (dd : Option Addr) (sl : Array (Option Value)) (hs0 : ¬(!items.isEmpty && Builtin.List.listTooLong (items.size + items2.size)) = true) (hs1 : items.size ≤ sizeLine) (hs2 : items.size + items2.size ≤ sizeLine + 1) :
    Meets (Builtin.«list.extend» ⟨[.ref l, .ref b], []⟩) (fun _ R s => s.heap.get? l = some { cls := .type "list", dict := none, data := .seq items n, slots := #[] } ∧ s.heap.get? b = some { cls := .type "tuple", dict := dd, data := .seq items2 n2, slots := sl } ∧ R (.ok (.ret Value.none)) { s with heap := s.heap.update l (Obj.mapSeq fun x => x ++ items2), toks := s.toks }) :=
  .of_wp fun prog w A R s h => by
    obtain ⟨hp, g, d, tk, os⟩ := s; obtain ⟨hl, hb, h⟩ := h; have f1 := AutoSeq1.idx_int; have f2 := AutoSeq1.sub_tuple_tuple; have f3 := AutoSeq1.sub_list_list; have f4 := AutoSeq1.sub_tuple_list; have f5 := AutoSeq1.sub_list_tuple;
    have hz' : (items ++ items2).size ≤ sizeLine + 1 := by rw [Array.size_append]; exact hs2
    wp_walk using (wpAny_updateSeq hl rfl (hz := hs1) (_hz' := hz')), AutoSeq1.wpAny_loadPart' hl, AutoSeq1.wpAny_loadPart' hb; exact ⟨_, rfl, h⟩
/-- xs.extend(t), t a tuple -/
def rExtendT (K : PySem.W.Frag) : V → List V → Hp → VK → Prop := fun x vs H Q => ∃ l b xs zs, x = .ref l ∧ vs = [.ref b] ∧ H l = some (.lst xs) ∧ SqT K H b zs ∧ xs.length + zs.length ≤ sizeLine ∧ Q .non (upd H l (.lst (xs ++ zs)))
theorem mt_extendT {X : Cx} : MtM X "list.extend" (rExtendT X.K) := by
  intro pins s σ H x vs v us Q I rx rv h
  obtain ⟨l, b, xs, zs, rfl, rfl, hH, hB, hz, q⟩ := h
  cases rx
  obtain ⟨u, rfl, ru⟩ := rv.one
  cases ru
  obtain ⟨z, its, n, r, hl, e⟩ := I.lstM hH
  obtain ⟨its2, r2, ht, _⟩ := I.tuple hB
  have hl2 := r2.length
  obtain ⟨⟨cls, dd, data, sl⟩, e2, hc, n2, hd⟩ := id ht
  simp only at hc hd
  subst hc hd
  have hsz : its.toArray.size + its2.toArray.size ≤ sizeLine := by rw [List.size_toArray, List.size_toArray]; omega
  have hlong : ¬ (!its.toArray.isEmpty && Builtin.List.listTooLong (its.toArray.size + its2.toArray.size)) = true := by
    rw [notLongL hsz, Bool.and_false]
    exact Bool.false_ne_true
  refine call_meets F.slot_list_extend ⟨_, e, rfl⟩ F.entry_list_extend (F.args_list_extend_2 _ _)
    (ext_lt l its.toArray n b its2.toArray n2 dd sl hlong (by rw [List.size_toArray]; omega) (by omega)) ⟨e, e2, ?_⟩
  refine ⟨.non, _, I.lset (its' := its ++ its2) hH e (by simp) (r.append r2) ?_, rfl, q⟩
  rw [List.length_append]
  omega
end ExtT
/-! P0 -/
namespace LL
open PySem PySem.Spec PyProof.Rows L2
open VaaclBase hiding Given Move Program Piece run
open Vaacld
abbrev Gvn := VaaclBase.Given
abbrev Mv := VaaclBase.Move

/-! ### the text -/
def top (i : Nat) : Stmt := PySem.Challenge.pw_loopleaps_s01_answers.main.body.getD i (.Pass ⟨0, 0, 0, 0⟩)

abbrev s_room_left : Stmt := top 11
abbrev n_room_left : List Str := ["test", "values", "value"]
abbrev p_room_left : List Str := ["test", "values"]
theorem c_room_left : FnScope n_room_left p_room_left (defScope s_room_left) := ⟨rfl, rfl, rfl, by decide +kernel, rfl, by decide +kernel, by decide +kernel⟩
abbrev s_holds : Stmt := top 12
abbrev n_holds : List Str := ["test", "values"]
abbrev p_holds : List Str := ["test", "values"]
theorem c_holds : FnScope n_holds p_holds (defScope s_holds) := ⟨rfl, rfl, rfl, by decide +kernel, rfl, by decide +kernel, by decide +kernel⟩
abbrev s_chosen_branch : Stmt := top 13
abbrev n_chosen_branch : List Str := ["loop", "values", "number", "branch", "test"]
abbrev p_chosen_branch : List Str := ["loop", "values"]
theorem c_chosen_branch : FnScope n_chosen_branch p_chosen_branch (defScope s_chosen_branch) := ⟨rfl, rfl, rfl, by decide +kernel, rfl, by decide +kernel, by decide +kernel⟩
abbrev s_moved : Stmt := top 14
abbrev n_moved : List Str := ["move", "values", "part"]
abbrev p_moved : List Str := ["move", "values"]
theorem c_moved : FnScope n_moved p_moved (defScope s_moved) := ⟨rfl, rfl, rfl, by decide +kernel, rfl, by decide +kernel, by decide +kernel⟩
abbrev s_is_beyond : Stmt := top 15
abbrev n_is_beyond : List Str := ["values", "value"]
abbrev p_is_beyond : List Str := ["values"]
theorem c_is_beyond : FnScope n_is_beyond p_is_beyond (defScope s_is_beyond) := ⟨rfl, rfl, rfl, by decide +kernel, rfl, by decide +kernel, by decide +kernel⟩
abbrev s_rounds_run : Stmt := top 16
abbrev n_rounds_run : List Str := ["loop", "values", "most", "done", "number"]
abbrev p_rounds_run : List Str := ["loop", "values", "most"]
theorem c_rounds_run : FnScope n_rounds_run p_rounds_run (defScope s_rounds_run) := ⟨rfl, rfl, rfl, by decide +kernel, rfl, by decide +kernel, by decide +kernel⟩
abbrev s_branches_ahead : Stmt := top 21
abbrev n_branches_ahead : List Str := ["loop", "values", "most", "row", "number"]
abbrev p_branches_ahead : List Str := ["loop", "values", "most"]
theorem c_branches_ahead : FnScope n_branches_ahead p_branches_ahead (defScope s_branches_ahead) := ⟨rfl, rfl, rfl, by decide +kernel, rfl, by decide +kernel, by decide +kernel⟩
abbrev s_pattern_at : Stmt := top 22
abbrev n_pattern_at : List Str := ["loop", "values", "row", "length"]
abbrev p_pattern_at : List Str := ["loop", "values"]
theorem c_pattern_at : FnScope n_pattern_at p_pattern_at (defScope s_pattern_at) := ⟨rfl, rfl, rfl, by decide +kernel, rfl, by decide +kernel, by decide +kernel⟩
abbrev s_sooner : Stmt := top 23
abbrev n_sooner : List Str := ["first", "second"]
abbrev p_sooner : List Str := ["first", "second"]
theorem c_sooner : FnScope n_sooner p_sooner (defScope s_sooner) := ⟨rfl, rfl, rfl, by decide +kernel, rfl, by decide +kernel, by decide +kernel⟩
abbrev s_span_of_test : Stmt := top 24
abbrev n_span_of_test : List Str := ["test", "here", "later", "room", "growth"]
abbrev p_span_of_test : List Str := ["test", "here", "later"]
theorem c_span_of_test : FnScope n_span_of_test p_span_of_test (defScope s_span_of_test) := ⟨rfl, rfl, rfl, by decide +kernel, rfl, by decide +kernel, by decide +kernel⟩
abbrev s_span_of_branch : Stmt := top 25
abbrev n_span_of_branch : List Str := ["branch", "here", "later", "start", "end", "test", "span"]
abbrev p_span_of_branch : List Str := ["branch", "here", "later"]
theorem c_span_of_branch : FnScope n_span_of_branch p_span_of_branch (defScope s_span_of_branch) := ⟨rfl, rfl, rfl, by decide +kernel, rfl, by decide +kernel, by decide +kernel⟩
abbrev s_first_miss : Stmt := top 26
abbrev n_first_miss : List Str := ["loop", "number", "here", "later", "miss", "branch", "start", "end"]
abbrev p_first_miss : List Str := ["loop", "number", "here", "later"]
theorem c_first_miss : FnScope n_first_miss p_first_miss (defScope s_first_miss) := ⟨rfl, rfl, rfl, by decide +kernel, rfl, by decide +kernel, by decide +kernel⟩
abbrev s_path_followed : Stmt := top 27
abbrev n_path_followed : List Str := ["loop", "pattern", "values", "rounds", "path", "number"]
abbrev p_path_followed : List Str := ["loop", "pattern", "values", "rounds"]
theorem c_path_followed : FnScope n_path_followed p_path_followed (defScope s_path_followed) := ⟨rfl, rfl, rfl, by decide +kernel, rfl, by decide +kernel, by decide +kernel⟩
abbrev s_turn_growths : Stmt := top 28
abbrev n_turn_growths : List Str := ["path", "length", "counters", "start", "ring", "growths", "place", "ahead", "here", "later"]
abbrev p_turn_growths : List Str := ["path", "length", "counters"]
theorem c_turn_growths : FnScope n_turn_growths p_turn_growths (defScope s_turn_growths) := ⟨rfl, rfl, rfl, by decide +kernel, rfl, by decide +kernel, by decide +kernel⟩
abbrev s_times_done : Stmt := top 29
abbrev n_times_done : List Str := ["loop", "pattern", "values", "length", "counters", "turn", "path", "growths", "often", "place", "here", "later", "turns", "value", "growth"]
abbrev p_times_done : List Str := ["loop", "pattern", "values"]
theorem c_times_done : FnScope n_times_done p_times_done (defScope s_times_done) := ⟨rfl, rfl, rfl, by decide +kernel, rfl, by decide +kernel, by decide +kernel⟩
abbrev s_values_followed : Stmt := top 30
abbrev n_values_followed : List Str := ["loop", "pattern", "values", "often", "number"]
abbrev p_values_followed : List Str := ["loop", "pattern", "values", "often"]
theorem c_values_followed : FnScope n_values_followed p_values_followed (defScope s_values_followed) := ⟨rfl, rfl, rfl, by decide +kernel, rfl, by decide +kernel, by decide +kernel⟩
abbrev s_values_behind : Stmt := top 31
abbrev n_values_behind : List Str := ["loop", "pattern", "values", "often", "counters", "rings", "rest", "near", "ahead", "here", "later"]
abbrev p_values_behind : List Str := ["loop", "pattern", "values", "often"]
theorem c_values_behind : FnScope n_values_behind p_values_behind (defScope s_values_behind) := ⟨rfl, rfl, rfl, by decide +kernel, rfl, by decide +kernel, by decide +kernel⟩
abbrev s_leaps_from : Stmt := top 38
abbrev n_leaps_from : List Str := ["loop", "values", "phases", "pattern", "often"]
abbrev p_leaps_from : List Str := ["loop", "values"]
theorem c_leaps_from : FnScope n_leaps_from p_leaps_from (defScope s_leaps_from) := ⟨rfl, rfl, rfl, by decide +kernel, rfl, by decide +kernel, by decide +kernel⟩
abbrev s_rounds_of : Stmt := top 39
abbrev n_rounds_of : List Str := ["phases", "pattern", "often"]
abbrev p_rounds_of : List Str := ["phases"]
theorem c_rounds_of : FnScope n_rounds_of p_rounds_of (defScope s_rounds_of) := ⟨rfl, rfl, rfl, by decide +kernel, rfl, by decide +kernel, by decide +kernel⟩
abbrev s_branch_done : Stmt := top 40
abbrev n_branch_done : List Str := ["number", "phases", "pattern", "often"]
abbrev p_branch_done : List Str := ["number", "phases"]
theorem c_branch_done : FnScope n_branch_done p_branch_done (defScope s_branch_done) := ⟨rfl, rfl, rfl, by decide +kernel, rfl, by decide +kernel, by decide +kernel⟩
abbrev s_Reader___init__ : Stmt := inClass (top 49) 0
abbrev n_Reader___init__ : List Str := ["self", "numbers"]
abbrev p_Reader___init__ : List Str := ["self", "numbers"]
theorem c_Reader___init__ : FnScope n_Reader___init__ p_Reader___init__ (defScope s_Reader___init__) := ⟨rfl, rfl, rfl, by decide +kernel, rfl, by decide +kernel, by decide +kernel⟩
abbrev s_Reader_at_end : Stmt := inClass (top 49) 1
abbrev n_Reader_at_end : List Str := ["self"]
abbrev p_Reader_at_end : List Str := ["self"]
theorem c_Reader_at_end : FnScope n_Reader_at_end p_Reader_at_end (defScope s_Reader_at_end) := ⟨rfl, rfl, rfl, by decide +kernel, rfl, by decide +kernel, by decide +kernel⟩
abbrev s_Reader_number : Stmt := inClass (top 49) 2
abbrev n_Reader_number : List Str := ["self", "found"]
abbrev p_Reader_number : List Str := ["self"]
theorem c_Reader_number : FnScope n_Reader_number p_Reader_number (defScope s_Reader_number) := ⟨rfl, rfl, rfl, by decide +kernel, rfl, by decide +kernel, by decide +kernel⟩
abbrev s_Reader_number_within : Stmt := inClass (top 49) 3
abbrev n_Reader_number_within : List Str := ["self", "least", "most", "found"]
abbrev p_Reader_number_within : List Str := ["self", "least", "most"]
theorem c_Reader_number_within : FnScope n_Reader_number_within p_Reader_number_within (defScope s_Reader_number_within) := ⟨rfl, rfl, rfl, by decide +kernel, rfl, by decide +kernel, by decide +kernel⟩
abbrev s_Reader_row : Stmt := inClass (top 49) 4
abbrev n_Reader_row : List Str := ["self", "length", "found"]
abbrev p_Reader_row : List Str := ["self"]
theorem c_Reader_row : FnScope n_Reader_row p_Reader_row (defScope s_Reader_row) := ⟨rfl, rfl, rfl, by decide +kernel, rfl, by decide +kernel, by decide +kernel⟩
abbrev s_Reader_finish : Stmt := inClass (top 49) 5
abbrev n_Reader_finish : List Str := ["self"]
abbrev p_Reader_finish : List Str := ["self"]
theorem c_Reader_finish : FnScope n_Reader_finish p_Reader_finish (defScope s_Reader_finish) := ⟨rfl, rfl, rfl, by decide +kernel, rfl, by decide +kernel, by decide +kernel⟩
abbrev s_read_test : Stmt := top 50
abbrev n_read_test : List Str := ["reader", "counters", "kind", "counter", "divisor", "other"]
abbrev p_read_test : List Str := ["reader", "counters"]
theorem c_read_test : FnScope n_read_test p_read_test (defScope s_read_test) := ⟨rfl, rfl, rfl, by decide +kernel, rfl, by decide +kernel, by decide +kernel⟩
abbrev s_read_part : Stmt := top 51
abbrev n_read_part : List Str := ["reader", "counters", "kind", "counter"]
abbrev p_read_part : List Str := ["reader", "counters"]
theorem c_read_part : FnScope n_read_part p_read_part (defScope s_read_part) := ⟨rfl, rfl, rfl, by decide +kernel, rfl, by decide +kernel, by decide +kernel⟩
abbrev s_read_branch : Stmt := top 52
abbrev n_read_branch : List Str := ["reader", "counters", "length", "tests", "move", "place", "counter"]
abbrev p_read_branch : List Str := ["reader", "counters"]
theorem c_read_branch : FnScope n_read_branch p_read_branch (defScope s_read_branch) := ⟨rfl, rfl, rfl, by decide +kernel, rfl, by decide +kernel, by decide +kernel⟩
abbrev s_read_loop : Stmt := top 53
abbrev n_read_loop : List Str := ["numbers", "counters", "reader", "length", "branches", "place"]
abbrev p_read_loop : List Str := ["numbers", "counters"]
theorem c_read_loop : FnScope n_read_loop p_read_loop (defScope s_read_loop) := ⟨rfl, rfl, rfl, by decide +kernel, rfl, by decide +kernel, by decide +kernel⟩
abbrev s_read_values : Stmt := top 54
abbrev n_read_values : List Str := ["numbers", "counters", "reader", "values", "counter"]
abbrev p_read_values : List Str := ["numbers", "counters"]
theorem c_read_values : FnScope n_read_values p_read_values (defScope s_read_values) := ⟨rfl, rfl, rfl, by decide +kernel, rfl, by decide +kernel, by decide +kernel⟩
abbrev s_loop_numbers : Stmt := top 56
abbrev n_loop_numbers : List Str := ["loop", "told", "tests", "move", "part"]
abbrev p_loop_numbers : List Str := ["loop"]
theorem c_loop_numbers : FnScope n_loop_numbers p_loop_numbers (defScope s_loop_numbers) := ⟨rfl, rfl, rfl, by decide +kernel, rfl, by decide +kernel, by decide +kernel⟩
abbrev s_phase_numbers : Stmt := top 57
abbrev n_phase_numbers : List Str := ["pattern", "often"]
abbrev p_phase_numbers : List Str := ["pattern", "often"]
theorem c_phase_numbers : FnScope n_phase_numbers p_phase_numbers (defScope s_phase_numbers) := ⟨rfl, rfl, rfl, by decide +kernel, rfl, by decide +kernel, by decide +kernel⟩
abbrev s_Session___init__ : Stmt := inClass (top 78) 0
abbrev n_Session___init__ : List Str := ["self"]
abbrev p_Session___init__ : List Str := ["self"]
theorem c_Session___init__ : FnScope n_Session___init__ p_Session___init__ (defScope s_Session___init__) := ⟨rfl, rfl, rfl, by decide +kernel, rfl, by decide +kernel, by decide +kernel⟩
abbrev s_Session_take_loop : Stmt := inClass (top 78) 1
abbrev n_Session_take_loop : List Str := ["self", "counters", "numbers", "loop"]
abbrev p_Session_take_loop : List Str := ["self", "counters", "numbers"]
theorem c_Session_take_loop : FnScope n_Session_take_loop p_Session_take_loop (defScope s_Session_take_loop) := ⟨rfl, rfl, rfl, by decide +kernel, rfl, by decide +kernel, by decide +kernel⟩
abbrev s_Session_take_values : Stmt := inClass (top 78) 2
abbrev n_Session_take_values : List Str := ["self", "numbers"]
abbrev p_Session_take_values : List Str := ["self", "numbers"]
theorem c_Session_take_values : FnScope n_Session_take_values p_Session_take_values (defScope s_Session_take_values) := ⟨rfl, rfl, rfl, by decide +kernel, rfl, by decide +kernel, by decide +kernel⟩
abbrev s_Session_tell_chosen : Stmt := inClass (top 78) 3
abbrev n_Session_tell_chosen : List Str := ["self", "number"]
abbrev p_Session_tell_chosen : List Str := ["self"]
theorem c_Session_tell_chosen : FnScope n_Session_tell_chosen p_Session_tell_chosen (defScope s_Session_tell_chosen) := ⟨rfl, rfl, rfl, by decide +kernel, rfl, by decide +kernel, by decide +kernel⟩
abbrev s_Session_tell_pattern : Stmt := inClass (top 78) 4
abbrev n_Session_tell_pattern : List Str := ["self", "pattern"]
abbrev p_Session_tell_pattern : List Str := ["self"]
theorem c_Session_tell_pattern : FnScope n_Session_tell_pattern p_Session_tell_pattern (defScope s_Session_tell_pattern) := ⟨rfl, rfl, rfl, by decide +kernel, rfl, by decide +kernel, by decide +kernel⟩
abbrev s_Session_tell_times : Stmt := inClass (top 78) 5
abbrev n_Session_tell_times : List Str := ["self", "pattern", "often"]
abbrev p_Session_tell_times : List Str := ["self"]
theorem c_Session_tell_times : FnScope n_Session_tell_times p_Session_tell_times (defScope s_Session_tell_times) := ⟨rfl, rfl, rfl, by decide +kernel, rfl, by decide +kernel, by decide +kernel⟩
abbrev s_Session_leap : Stmt := inClass (top 78) 6
abbrev n_Session_leap : List Str := ["self", "pattern", "often", "behind"]
abbrev p_Session_leap : List Str := ["self"]
theorem c_Session_leap : FnScope n_Session_leap p_Session_leap (defScope s_Session_leap) := ⟨rfl, rfl, rfl, by decide +kernel, rfl, by decide +kernel, by decide +kernel⟩
abbrev s_Session_tell_phases : Stmt := inClass (top 78) 7
abbrev n_Session_tell_phases : List Str := ["self", "end", "phases", "behind", "told", "pattern", "often"]
abbrev p_Session_tell_phases : List Str := ["self"]
theorem c_Session_tell_phases : FnScope n_Session_tell_phases p_Session_tell_phases (defScope s_Session_tell_phases) := ⟨rfl, rfl, rfl, by decide +kernel, rfl, by decide +kernel, by decide +kernel⟩
abbrev s_Session_tell_done : Stmt := inClass (top 78) 8
abbrev n_Session_tell_done : List Str := ["self", "end", "phases", "behind", "number"]
abbrev p_Session_tell_done : List Str := ["self"]
theorem c_Session_tell_done : FnScope n_Session_tell_done p_Session_tell_done (defScope s_Session_tell_done) := ⟨rfl, rfl, rfl, by decide +kernel, rfl, by decide +kernel, by decide +kernel⟩
abbrev s_Session_go : Stmt := inClass (top 78) 9
abbrev n_Session_go : List Str := ["self", "end", "phases", "behind"]
abbrev p_Session_go : List Str := ["self"]
theorem c_Session_go : FnScope n_Session_go p_Session_go (defScope s_Session_go) := ⟨rfl, rfl, rfl, by decide +kernel, rfl, by decide +kernel, by decide +kernel⟩
abbrev s_Session_tell_run : Stmt := inClass (top 78) 10
abbrev n_Session_tell_run : List Str := ["self", "most", "end", "done", "behind"]
abbrev p_Session_tell_run : List Str := ["self", "most"]
theorem c_Session_tell_run : FnScope n_Session_tell_run p_Session_tell_run (defScope s_Session_tell_run) := ⟨rfl, rfl, rfl, by decide +kernel, rfl, by decide +kernel, by decide +kernel⟩
abbrev s_Session_tell_given : Stmt := inClass (top 78) 11
abbrev n_Session_tell_given : List Str := ["self"]
abbrev p_Session_tell_given : List Str := ["self"]
theorem c_Session_tell_given : FnScope n_Session_tell_given p_Session_tell_given (defScope s_Session_tell_given) := ⟨rfl, rfl, rfl, by decide +kernel, rfl, by decide +kernel, by decide +kernel⟩
abbrev s_answer_next : Stmt := top 79
abbrev n_answer_next : List Str := ["session", "reader", "call", "counters"]
abbrev p_answer_next : List Str := ["session", "reader"]
theorem c_answer_next : FnScope n_answer_next p_answer_next (defScope s_answer_next) := ⟨rfl, rfl, rfl, by decide +kernel, rfl, by decide +kernel, by decide +kernel⟩
abbrev s_answers : Stmt := top 80
abbrev n_answers : List Str := ["calls", "session", "reader", "told", "answer"]
abbrev p_answers : List Str := ["calls"]
theorem c_answers : FnScope n_answers p_answers (defScope s_answers) := ⟨rfl, rfl, rfl, by decide +kernel, rfl, by decide +kernel, by decide +kernel⟩

/-! ### what the top has written -/
def CI (mg : Str → Option Value) (x : Str) (n : Int) : Prop := ∃ t, mg x = some (.int n t)
theorem pe_gi {X : Cx} {x : Str} {n : Int} {pos : Pos} (hg : Gl X x) (hm : CI X.mg x n) (hd : (x == ("__debug__" : Str)) = false := by decide) : PE X (.Name x pos) (tC (.int n)) := by
  obtain ⟨t, h⟩ := hm
  exact pe_glob hg h ⟨t, rfl⟩ hd

/-- a tuple of ints that the top has written -/
def CT (K : PySem.W.Frag) (mg : Str → Option Value) (x : Str) (a : Addr) (ns : List Int) : Prop := mg x = some (.ref a) ∧ ∀ H, SqT K H a (ns.map V.int)

structure Txt (K : PySem.W.Frag) (mg : Str → Option Value) : Prop where
  AT_MOST : CI mg "AT_MOST" 0
  AT_LEAST : CI mg "AT_LEAST" 1
  BELOW : CI mg "BELOW" 2
  REMAINDER : CI mg "REMAINDER" 3
  GIVEN_NUMBER : CI mg "GIVEN_NUMBER" 0
  GIVEN_COUNTER : CI mg "GIVEN_COUNTER" 1
  FARTHEST : CI mg "FARTHEST" 1000000000000
  ENDED : CI mg "ENDED" 0
  BEYOND : CI mg "BEYOND" 1
  GOES_ON : CI mg "GOES_ON" 2
  LONGEST : CI mg "LONGEST" 3
  RINGS : ∃ a, CT K mg "RINGS" a [1, 1, 2, 6, 12]
  REMAINDERS : CI mg "REMAINDERS" 12
  OVER : CI mg "OVER" 0
  NEVER : CI mg "NEVER" 1
  FAR : CI mg "FAR" 2
  MANY : CI mg "MANY" 3
  MOST_PHASES : CI mg "MOST_PHASES" 8
  MOST_BRANCHES : CI mg "MOST_BRANCHES" 3
  MOST_TESTS : CI mg "MOST_TESTS" 3
  MOST_IN_TESTS : CI mg "MOST_IN_TESTS" 999999
  MOST_IN_MOVES : CI mg "MOST_IN_MOVES" 99
  MOST_IN_VALUES : CI mg "MOST_IN_VALUES" 1000000
  DIVISORS : ∃ a, CT K mg "DIVISORS" a [2, 3, 4, 6]
  LOOP : CI mg "LOOP" 0
  VALUES : CI mg "VALUES" 1
  CHOSEN : CI mg "CHOSEN" 2
  PATTERN : CI mg "PATTERN" 3
  TIMES : CI mg "TIMES" 4
  LEAP : CI mg "LEAP" 5
  PHASES : CI mg "PHASES" 6
  DONE : CI mg "DONE" 7
  GO : CI mg "GO" 8
  RUN : CI mg "RUN" 9
  MOST_COUNTERS : CI mg "MOST_COUNTERS" 4
  MOST_ROUNDS : CI mg "MOST_ROUNDS" 2000
  FIRST_LOOP : ∃ a, CT K mg "FIRST_LOOP" a [1, 2, 0, 0, -1, 1, 0, 0, 1, 0, 0]
  NOT_AS_TOLD : CI mg "NOT_AS_TOLD" (-1)
  WRONG_COUNTERS : CI mg "WRONG_COUNTERS" (-2)
  WRONG_ROUNDS : CI mg "WRONG_ROUNDS" (-3)
  NONE_CHOSEN : CI mg "NONE_CHOSEN" (-4)
  NOT_OVER : CI mg "NOT_OVER" (-5)
  WOULD_BE_BEYOND : CI mg "WOULD_BE_BEYOND" (-7)
  len : mg "len" = none
  all : mg "all" = none
  any : mg "any" = none
  abs : mg "abs" = none
  enumerate : mg "enumerate" = none
  range : mg "range" = none
  zip : mg "zip" = none
  min : mg "min" = none
  max : mg "max" = none
  sum : mg "sum" = none
  divmod : mg "divmod" = none
  list : mg "list" = none
  tuple : mg "tuple" = none

/-! ### the defs -/
/-- a def of the module: where it stands, how its arguments bind -/
def DefAt (K : PySem.W.Frag) (mg : Str → Option Value) (x : Str) (st : Stmt) (ps : List Str) : Prop := ∃ f fd, mg x = some (.ref f) ∧ Fun K x x st f fd ∧ Binds K fd ps []
structure Ds (K : PySem.W.Frag) (mg : Str → Option Value) : Prop where
  room_left : DefAt K mg "room_left" s_room_left p_room_left
  holds : DefAt K mg "holds" s_holds p_holds
  chosen_branch : DefAt K mg "chosen_branch" s_chosen_branch p_chosen_branch
  moved : DefAt K mg "moved" s_moved p_moved
  is_beyond : DefAt K mg "is_beyond" s_is_beyond p_is_beyond
  rounds_run : DefAt K mg "rounds_run" s_rounds_run p_rounds_run
  branches_ahead : DefAt K mg "branches_ahead" s_branches_ahead p_branches_ahead
  pattern_at : DefAt K mg "pattern_at" s_pattern_at p_pattern_at
  sooner : DefAt K mg "sooner" s_sooner p_sooner
  span_of_test : DefAt K mg "span_of_test" s_span_of_test p_span_of_test
  span_of_branch : DefAt K mg "span_of_branch" s_span_of_branch p_span_of_branch
  first_miss : DefAt K mg "first_miss" s_first_miss p_first_miss
  path_followed : DefAt K mg "path_followed" s_path_followed p_path_followed
  turn_growths : DefAt K mg "turn_growths" s_turn_growths p_turn_growths
  times_done : DefAt K mg "times_done" s_times_done p_times_done
  values_followed : DefAt K mg "values_followed" s_values_followed p_values_followed
  values_behind : DefAt K mg "values_behind" s_values_behind p_values_behind
  leaps_from : DefAt K mg "leaps_from" s_leaps_from p_leaps_from
  rounds_of : DefAt K mg "rounds_of" s_rounds_of p_rounds_of
  branch_done : DefAt K mg "branch_done" s_branch_done p_branch_done
  read_test : DefAt K mg "read_test" s_read_test p_read_test
  read_part : DefAt K mg "read_part" s_read_part p_read_part
  read_branch : DefAt K mg "read_branch" s_read_branch p_read_branch
  read_loop : DefAt K mg "read_loop" s_read_loop p_read_loop
  read_values : DefAt K mg "read_values" s_read_values p_read_values
  loop_numbers : DefAt K mg "loop_numbers" s_loop_numbers p_loop_numbers
  phase_numbers : DefAt K mg "phase_numbers" s_phase_numbers p_phase_numbers
  answer_next : DefAt K mg "answer_next" s_answer_next p_answer_next
  answers : DefAt K mg "answers" s_answers p_answers

/-- a def keeps its promise, wherever so many rooms are left -/
def Has (P : PySem.Program) (w : World) (K : PySem.W.Frag) (mg : Str → Option Value) (base : Heap) (CX : CXT) (k : Nat) (x : Str) (ps : List Str) (sp : Sp) : Prop :=
  ∃ f fd, mg x = some (.ref f) ∧ PySem.W.keepIn K (.ref f) = true ∧ Binds K fd ps [] ∧ FnOk P w K mg base CX k f fd ps sp
theorem DefAt.has {P : PySem.Program} {w : World} {K : PySem.W.Frag} {mg : Str → Option Value} {base : Heap} {CX : CXT} {k : Nat} {x : Str} {st : Stmt} {ps : List Str} {sp : Sp} (D : DefAt K mg x st ps)
    (h : ∀ f fd, Fun K x x st f fd → FnOk P w K mg base CX k f fd ps sp) : Has P w K mg base CX k x ps sp := by
  obtain ⟨f, fd, g, F, b⟩ := D
  exact ⟨f, fd, g, F.kp, b, h f fd F⟩
def tCallH (sp : Sp) (t : TA) : TE := fun σ H Q => t σ H fun vs H1 => sp vs H1 Q E0
theorem pe_callH {X : Cx} {k : Nat} {x : Str} {ps : List Str} {sp : Sp} {t : TA} {e : Expr} {es : List Expr} {p pos : Pos} (h : Has X.prog X.w X.K X.mg X.base CX0 k x ps sp) (hr : Room k X.A) (hg : Gl X x)
    (ha : PA X (e :: es) t) (hdb : (x == ("__debug__" : Str)) = false := by decide) (he : starEach (e :: es) X.env = (false, eval e X.env) :: starEach es X.env := by rfl) (hpl : (backTo pos (starEach es X.env)).any (·.1) = false := by rfl) :
    PE X (.Call (.Name x p) (e :: es) [] pos) (tCallH sp t) := by
  obtain ⟨f, fd, g, kp, b, F⟩ := h
  exact pe_callS (E := fun _ => E0) F hr hg g kp b (fun σ pins H s e s' I h => False.elim h) ha hdb he hpl
theorem pe_callX {X : Cx} {CX : CXT} {k : Nat} {x : Str} {ps : List Str} {sp : Sp} {E : L2.St → XK} {t : TA} {e : Expr} {es : List Expr} {p pos : Pos} (h : Has X.prog X.w X.K X.mg X.base CX k x ps sp) (hr : Room k X.A) (hg : Gl X x)
    (hx : ∀ σ, PassesAt CX X σ (E σ)) (ha : PA X (e :: es) t) (hdb : (x == ("__debug__" : Str)) = false := by decide) (he : starEach (e :: es) X.env = (false, eval e X.env) :: starEach es X.env := by rfl) (hpl : (backTo pos (starEach es X.env)).any (·.1) = false := by rfl) :
    PE X (.Call (.Name x p) (e :: es) [] pos) (tCallS sp E t) := by
  obtain ⟨f, fd, g, kp, b, F⟩ := h
  exact pe_callS F hr hg g kp b hx ha hdb he hpl

/-! ### the heap -/
section
variable {K : PySem.W.Frag} {H H' : Hp}
theorem _root_.L2.Same.tup {a : Addr} {xs : List V} (e : Same H H') (h : SqT K H a xs) : SqT K H' a xs := by
  rcases h with (h | ⟨o, h⟩) | h
  · exact .inl (.inl (e _ _ h))
  · exact .inl (.inr ⟨o, e _ _ h⟩)
  · exact .inr h
theorem _root_.L2.Same.new {p : Addr} {o : HO} (h : H p = none) : Same H (upd H p o) := fun b o' e => by
  rw [upd_ne (ne_of_none e h)]
  exact e

/-- row by row -/
def AllAt {α : Type} (R : V → α → Prop) (vs : List V) (xs : List α) : Prop := vs.length = xs.length ∧ ∀ (i : Nat) (v : V) (x : α), vs[i]? = some v → xs[i]? = some x → R v x
theorem AllAt.mono {α : Type} {R R' : V → α → Prop} {vs : List V} {xs : List α} (h : AllAt R vs xs) (f : ∀ v x, R v x → R' v x) : AllAt R' vs xs :=
  ⟨h.1, fun i v x a b => f v x (h.2 i v x a b)⟩
theorem AllAt.get {α : Type} {R : V → α → Prop} {vs : List V} {xs : List α} (h : AllAt R vs xs) {i : Nat} {v : V} (hv : vs[i]? = some v) : ∃ x, xs[i]? = some x ∧ R v x := by
  have hi : i < vs.length := (List.getElem?_eq_some_iff.mp hv).1
  have hx : xs[i]? = some (xs[i]'(by rw [← h.1]; exact hi)) := List.getElem?_eq_getElem _
  exact ⟨_, hx, h.2 i v _ hv hx⟩
theorem AllAt.get' {α : Type} {R : V → α → Prop} {vs : List V} {xs : List α} (h : AllAt R vs xs) {i : Nat} {x : α} (hx : xs[i]? = some x) : ∃ v, vs[i]? = some v ∧ R v x := by
  have hi : i < xs.length := (List.getElem?_eq_some_iff.mp hx).1
  have hv : vs[i]? = some (vs[i]'(by rw [h.1]; exact hi)) := List.getElem?_eq_getElem _
  exact ⟨_, hv, h.2 i _ x hv hx⟩
theorem AllAt.nil {α : Type} {R : V → α → Prop} : AllAt R [] ([] : List α) := ⟨rfl, fun i v x h => by simp at h⟩
theorem AllAt.snoc {α : Type} {R : V → α → Prop} {vs : List V} {xs : List α} (h : AllAt R vs xs) {v : V} {x : α} (r : R v x) : AllAt R (vs ++ [v]) (xs ++ [x]) := by
  refine ⟨by simp [h.1], fun i w y a b => ?_⟩
  by_cases c : i < vs.length
  · rw [List.getElem?_append_left c] at a
    rw [List.getElem?_append_left (by rw [← h.1]; exact c)] at b
    exact h.2 i w y a b
  · have hi : i = vs.length := by
      have := (List.getElem?_eq_some_iff.mp a).1
      simp at this
      omega
    subst hi
    rw [List.getElem?_append_right (Nat.le_refl _)] at a
    rw [List.getElem?_append_right (by rw [h.1]; exact Nat.le_refl _)] at b
    simp at a
    simp [h.1] at b
    subst a b
    exact r

def TestAt (K : PySem.W.Frag) (H : Hp) (v : V) (t : Test) : Prop := ∃ a, v = .ref a ∧ SqT K H a ((flatTest t).map V.int)
def PartAt (K : PySem.W.Frag) (H : Hp) (v : V) (g : Gvn) : Prop := ∃ a, v = .ref a ∧ SqT K H a ((flatGiven g).map V.int)
def GuardAt (K : PySem.W.Frag) (H : Hp) (v : V) (g : Guard) : Prop := ∃ a vs, v = .ref a ∧ SqT K H a vs ∧ AllAt (TestAt K H) vs g
def MoveAt (K : PySem.W.Frag) (H : Hp) (v : V) (m : Mv) : Prop := ∃ a vs, v = .ref a ∧ SqT K H a vs ∧ AllAt (PartAt K H) vs m
def BranchAt (K : PySem.W.Frag) (H : Hp) (v : V) (b : Branch) : Prop := ∃ a g m, v = .ref a ∧ SqT K H a [g, m] ∧ GuardAt K H g b.guard ∧ MoveAt K H m b.move
def LoopAt (K : PySem.W.Frag) (H : Hp) (v : V) (l : Loop) : Prop := ∃ a vs, v = .ref a ∧ SqT K H a vs ∧ AllAt (BranchAt K H) vs l
/-- a list of ints -/
def LiAt (H : Hp) (v : V) (s : List Int) : Prop := ∃ a, v = .ref a ∧ H a = some (.lst (s.map V.int))
/-- a pattern: a list of branches' numbers -/
def nats (p : List Nat) : List Int := p.map VaaclBase.int
def oV : Option Nat → V
  | none => .non
  | some n => .int n

theorem TestAt.keep {v : V} {t : Test} (e : ∀ a xs, SqT K H a xs → SqT K H' a xs) (h : TestAt K H v t) : TestAt K H' v t := by
  obtain ⟨a, h1, h2⟩ := h
  exact ⟨a, h1, e _ _ h2⟩
theorem PartAt.keep {v : V} {t : Gvn} (e : ∀ a xs, SqT K H a xs → SqT K H' a xs) (h : PartAt K H v t) : PartAt K H' v t := by
  obtain ⟨a, h1, h2⟩ := h
  exact ⟨a, h1, e _ _ h2⟩
theorem GuardAt.keep {v : V} {t : Guard} (e : ∀ a xs, SqT K H a xs → SqT K H' a xs) (h : GuardAt K H v t) : GuardAt K H' v t := by
  obtain ⟨a, vs, h1, h2, h3⟩ := h
  exact ⟨a, vs, h1, e _ _ h2, h3.mono fun _ _ r => r.keep e⟩
theorem MoveAt.keep {v : V} {t : Mv} (e : ∀ a xs, SqT K H a xs → SqT K H' a xs) (h : MoveAt K H v t) : MoveAt K H' v t := by
  obtain ⟨a, vs, h1, h2, h3⟩ := h
  exact ⟨a, vs, h1, e _ _ h2, h3.mono fun _ _ r => r.keep e⟩
theorem BranchAt.keep {v : V} {t : Branch} (e : ∀ a xs, SqT K H a xs → SqT K H' a xs) (h : BranchAt K H v t) : BranchAt K H' v t := by
  obtain ⟨a, g, m, h1, h2, h3, h4⟩ := h
  exact ⟨a, g, m, h1, e _ _ h2, h3.keep e, h4.keep e⟩
theorem LoopAt.keep {v : V} {t : Loop} (e : ∀ a xs, SqT K H a xs → SqT K H' a xs) (h : LoopAt K H v t) : LoopAt K H' v t := by
  obtain ⟨a, vs, h1, h2, h3⟩ := h
  exact ⟨a, vs, h1, e _ _ h2, h3.mono fun _ _ r => r.keep e⟩
theorem TestAt.same {v : V} {t : Test} (h : TestAt K H v t) (e : Same H H') : TestAt K H' v t := h.keep fun _ _ => e.tup
theorem PartAt.same {v : V} {t : Gvn} (h : PartAt K H v t) (e : Same H H') : PartAt K H' v t := h.keep fun _ _ => e.tup
theorem GuardAt.same {v : V} {t : Guard} (h : GuardAt K H v t) (e : Same H H') : GuardAt K H' v t := h.keep fun _ _ => e.tup
theorem MoveAt.same {v : V} {t : Mv} (h : MoveAt K H v t) (e : Same H H') : MoveAt K H' v t := h.keep fun _ _ => e.tup
theorem BranchAt.same {v : V} {t : Branch} (h : BranchAt K H v t) (e : Same H H') : BranchAt K H' v t := h.keep fun _ _ => e.tup
theorem LoopAt.same {v : V} {t : Loop} (h : LoopAt K H v t) (e : Same H H') : LoopAt K H' v t := h.keep fun _ _ => e.tup
theorem LiAt.same {v : V} {s : List Int} (h : LiAt H v s) (e : Same H H') : LiAt H' v s := by
  obtain ⟨a, h1, h2⟩ := h
  exact ⟨a, h1, e _ _ h2⟩
theorem LiAt.nil_ne {v : V} {s : List Int} (h : LiAt H v s) : v ≠ .non := by
  obtain ⟨a, rfl, _⟩ := h
  intro q
  cases q
end

/-- an item of a list of ints, by its place -/
theorem at_ints {s : List Int} {i : Nat} (h : i < s.length) : atI (s.map V.int) (i : Int) = some (.int (valueAt s i)) := by
  apply atI_nat
  rw [List.getElem?_map, List.getElem?_eq_getElem h, Mth.valueAt_lt h]
  rfl
theorem at_ints' {s : List Int} {i : Nat} {z : Int} (h : s[i]? = some z) : atI (s.map V.int) (i : Int) = some (.int z) := by
  apply atI_nat
  rw [List.getElem?_map, h]
  rfl
/-- a written place -/
theorem at0 {α : Type} (a : α) (r : List α) : atI (a :: r) 0 = some a := atI_nat (j := 0) rfl
theorem at1 {α : Type} (a b : α) (r : List α) : atI (a :: b :: r) 1 = some b := atI_nat (j := 1) rfl
theorem at2 {α : Type} (a b c : α) (r : List α) : atI (a :: b :: c :: r) 2 = some c := atI_nat (j := 2) rfl
theorem at3 {α : Type} (a b c d : α) (r : List α) : atI (a :: b :: c :: d :: r) 3 = some d := atI_nat (j := 3) rfl
/-- an if whose test is known -/
theorem if_true_of {c : Bool} {A B : Prop} (hc : c = true) (h : A) : if c = true then A else B := by
  rw [if_pos hc]
  exact h
theorem if_false_of {c : Bool} {A B : Prop} (hc : c = false) (h : B) : if c = true then A else B := by
  rw [hc, if_neg Bool.false_ne_true]
  exact h
/-- a subscript within a block, K written out -/
theorem ixT (K : PySem.W.Frag) {X : Cx} (h : X.K = K := by rfl) : IxR X (rIxT K) := h ▸ ix_tup
theorem ixL (K : PySem.W.Frag) {X : Cx} (h : X.K = K := by rfl) : IxR X (rIxL K) := h ▸ ix_list
/-- enumerate over a tuple -/
theorem walk_enumT {K : PySem.W.Frag} {a : Addr} {xs : List V} : Walk (EnumT.ItT K a) xs.length (fun H => SqT K H a xs) (YPair (fun i => some (.int (i : Nat))) (fun i => xs[i]?)) := by
  refine ⟨fun i _ hi q => ⟨xs, xs[i], q, by simp [hi]⟩, fun _ q => ⟨xs, q, Nat.le_refl _⟩, fun i H v H' _ q y => ?_⟩
  obtain ⟨T, x, h1, h2, h3, h4⟩ := y
  exact ⟨T, .int (i : Nat), x, h1, h2, h3, rfl, h4 xs q⟩
theorem _root_.L2.Same.updNew {H H3 : Hp} {p : Addr} {o : HO} (s : Same H H3) (hp : H p = none) : Same H (upd H3 p o) := fun b o' e => by
  rw [upd_ne (ne_of_none e hp)]
  exact s b o' e
theorem LiAt.upd {H : Hp} {v : V} {s : List Int} {p : Addr} {o : HO} (h : LiAt H v s) (hne : v ≠ .ref p) : LiAt (upd H p o) v s := by
  obtain ⟨a, rfl, h2⟩ := h
  exact ⟨a, rfl, by rw [upd_ne (fun e => hne (by rw [e]))]; exact h2⟩
theorem LiAt.ne {H : Hp} {v : V} {s : List Int} {p : Addr} (h : LiAt H v s) (hp : H p = none) : v ≠ .ref p := by
  obtain ⟨a, rfl, h2⟩ := h
  intro e
  cases e
  rw [hp] at h2
  cases h2
theorem ref_ne {H : Hp} {a p : Addr} {o : HO} (h : H a = none) (hp : H p = some o) : V.ref a ≠ .ref p := by
  intro e
  cases e
  rw [hp] at h
  cases h
theorem bf_zero {l : Loop} {s : List Int} : branchesFrom l 0 s = [] := rfl
theorem bf_none {l : Loop} {s : List Int} {k : Nat} (h : chosen l s = none) : branchesFrom l (k + 1) s = [] := by
  show (match chosen l s with | none => [] | some b => b :: branchesFrom l k (moved (moveOf l b) s)) = []
  rw [h]
theorem bf_some {l : Loop} {s : List Int} {k b : Nat} (h : chosen l s = some b) : branchesFrom l (k + 1) s = b :: branchesFrom l k (moved (moveOf l b) s) := by
  show (match chosen l s with | none => [] | some b => b :: branchesFrom l k (moved (moveOf l b) s)) = _
  rw [h]
end LL
/-! P1a -/
namespace LL
open PySem PySem.Spec PyProof.Rows L2
open VaaclBase hiding Given Move Program Piece run
open Vaacld
variable {P : PySem.Program} {w : World} {K : PySem.W.Frag} {mg : Str → Option Value} {base : Heap}

/-! ### room_left -/
def spRoom (K : PySem.W.Frag) : Sp := fun vs H Q _ => ∃ (v u : V) (t : Test) (s : List Int), vs = [v, u] ∧ TestAt K H v t ∧ LiAt H u s ∧ okTest s.length t = true ∧ isRem t = false ∧
  Q (.int (Mth.room t s)) H
theorem has_room (D : Ds K mg) (T : Txt K mg) : Has P w K mg base CX0 1 "room_left" p_room_left (spRoom K) := by
  refine D.room_left.has fun f fd F => F.ok c_room_left (fun vs H Q E h => ?_) (fun cdv A outer s H vs Q E hr h => ⟨_,
    pss_cons (ps_set (i := 2) c_room_left.nd rfl (.inl rfl) (pe_ix ix_list (pv 1) (pe_ix ix_tup (pv 0) pe_int (fun _ _ => rfl)) (fun _ _ => rfl)))
      (pss_cons (ps_if (pt_cmpR op_eq (pe_ix ix_tup (pv 0) pe_int (fun _ _ => rfl)) (pe_gi rfl T.AT_MOST) (nomark _)) (pss_one (ps_ret (pe_op op_sub (pe_ix ix_tup (pv 0) pe_int (fun _ _ => rfl)) (pv 2)))) pss_nil)
      (pss_cons (ps_if (pt_cmpR op_eq (pe_ix ix_tup (pv 0) pe_int (fun _ _ => rfl)) (pe_gi rfl T.AT_LEAST) (nomark _)) (pss_one (ps_ret (pe_op op_sub (pv 2) (pe_ix ix_tup (pv 0) pe_int (fun _ _ => rfl))))) pss_nil)
      (pss_one (ps_ret (pe_op op_sub (pe_op op_add (pe_ix ix_list (pv 1) (pe_ix ix_tup (pv 0) pe_int (fun _ _ => rfl)) (fun _ _ => rfl)) (pe_ix ix_tup (pv 0) pe_int (fun _ _ => rfl))) (pv 2)))))), ?_⟩)
  · obtain ⟨v, u, t, s, rfl, _⟩ := h
    rfl
  · obtain ⟨v, u, t, s, rfl, ⟨a, rfl, hT⟩, ⟨b, rfl, hV⟩, ho, hm, q⟩ := h
    cases t with
    | atMost x c =>
      have hT : SqT K H a [.int 0, .int (x : Int), .int c] := hT
      simp only [okTest, Bool.and_eq_true, decide_eq_true_eq] at ho
      refine ⟨_, rfl, _, rfl, _, _, _, _, rfl, rfl, hT, at1 _ _ _, _, _, _, _, rfl, rfl, SqL.of hV, at_ints ho.1, ?_⟩
      refine ⟨_, rfl, _, _, _, _, rfl, rfl, hT, at0 _ _, rfl, _, rfl, if_true_of rfl ?_⟩
      exact ⟨_, rfl, _, _, _, _, rfl, rfl, hT, at2 _ _ _ _, _, rfl, _, _, rfl, rfl, q⟩
    | atLeast x c =>
      have hT : SqT K H a [.int 1, .int (x : Int), .int c] := hT
      simp only [okTest, Bool.and_eq_true, decide_eq_true_eq] at ho
      refine ⟨_, rfl, _, rfl, _, _, _, _, rfl, rfl, hT, at1 _ _ _, _, _, _, _, rfl, rfl, SqL.of hV, at_ints ho.1, ?_⟩
      refine ⟨_, rfl, _, _, _, _, rfl, rfl, hT, at0 _ _, rfl, _, rfl, if_false_of rfl ?_⟩
      refine ⟨_, rfl, _, _, _, _, rfl, rfl, hT, at0 _ _, rfl, _, rfl, if_true_of rfl ?_⟩
      exact ⟨_, rfl, _, rfl, _, _, _, _, rfl, rfl, hT, at2 _ _ _ _, _, _, rfl, rfl, q⟩
    | below x y c =>
      have hT : SqT K H a [.int 2, .int (x : Int), .int (y : Int), .int c] := hT
      simp only [okTest, Bool.and_eq_true, decide_eq_true_eq] at ho
      refine ⟨_, rfl, _, rfl, _, _, _, _, rfl, rfl, hT, at1 _ _ _, _, _, _, _, rfl, rfl, SqL.of hV, at_ints ho.1, ?_⟩
      refine ⟨_, rfl, _, _, _, _, rfl, rfl, hT, at0 _ _, rfl, _, rfl, if_false_of rfl ?_⟩
      refine ⟨_, rfl, _, _, _, _, rfl, rfl, hT, at0 _ _, rfl, _, rfl, if_false_of rfl ?_⟩
      exact ⟨_, rfl, _, rfl, _, _, _, _, rfl, rfl, hT, at2 _ _ _ _, _, _, _, _, rfl, rfl, SqL.of hV, at_ints ho.2.1, _, rfl, _, _, _, _, rfl, rfl, hT, at3 _ _ _ _ _, _, _, rfl, rfl, _, rfl, _, _, rfl, rfl, q⟩
    | rem x m r => cases hm
end LL
/-! P1b -/
namespace LL
open PySem PySem.Spec PyProof.Rows L2
open VaaclBase hiding Given Move Program Piece run
open Vaacld
variable {P : PySem.Program} {w : World} {K : PySem.W.Frag} {mg : Str → Option Value} {base : Heap}

/-! ### holds -/
def spHolds (K : PySem.W.Frag) : Sp := fun vs H Q _ => ∃ (v u : V) (t : Test) (s : List Int), vs = [v, u] ∧ TestAt K H v t ∧ LiAt H u s ∧ okTest s.length t = true ∧ Q (.bl (VaaclBase.holds s t)) H
theorem has_holds (D : Ds K mg) (T : Txt K mg) : Has P w K mg base CX0 2 "holds" p_holds (spHolds K) := by
  have G := has_room (P := P) (w := w) (base := base) D T
  refine D.holds.has fun f fd F => F.ok c_holds (fun vs H Q E h => ?_) (fun cdv A outer s H vs Q E hr h => ⟨_,
    pss_cons (ps_if (pt_cmpR op_eq (pe_ix ix_tup (pv 0) pe_int (fun _ _ => rfl)) (pe_gi rfl T.REMAINDER) (nomark _))
        (pss_one (ps_ret (pe_cmpR op_eq (pe_op op_modN (pe_ix ix_list (pv 1) (pe_ix ix_tup (pv 0) pe_int (fun _ _ => rfl)) (fun _ _ => rfl)) (pe_ix ix_tup (pv 0) pe_int (fun _ _ => rfl))) (pe_ix ix_tup (pv 0) pe_int (fun _ _ => rfl)) (nomark _)))) pss_nil)
      (pss_one (ps_ret (pe_cmpR op_ge (pe_callH G hr rfl (pa_cons (pv 0) (pa_cons (pv 1) pa_nil))) pe_int (nomark _)))), ?_⟩)
  · obtain ⟨v, u, t, s, rfl, _⟩ := h
    rfl
  · obtain ⟨v, u, t, s, rfl, hT, hV, ho, q⟩ := h
    by_cases hm : isRem t = true
    · cases t with
      | rem x m r =>
        obtain ⟨a, rfl, hT⟩ := hT
        obtain ⟨b, rfl, hV⟩ := hV
        have hT : SqT K H a [.int 3, .int (x : Int), .int (m : Int), .int (r : Int)] := hT
        have h12 := Mth.okTest_rem ho
        simp only [okTest, Bool.and_eq_true, decide_eq_true_eq] at ho
        have hm0 : 0 < m := by omega
        refine ⟨_, rfl, _, _, _, _, rfl, rfl, hT, at0 _ _, rfl, _, rfl, if_true_of rfl ?_⟩
        refine ⟨_, rfl, _, rfl, _, _, _, _, rfl, rfl, hT, at1 _ _ _, _, _, _, _, rfl, rfl, SqL.of hV, at_ints ho.1, _, rfl, _, _, _, _, rfl, rfl, hT, at2 _ _ _ _, _, _, rfl, rfl, ?_, _, rfl, _, _, _, _, rfl, rfl, hT, at3 _ _ _ _ _, rfl, ?_⟩
        · omega
        · have e : (.bl (decide (V.int ((valueAt s x).fmod (m : Int)) = V.int (r : Int))) : V) = .bl (VaaclBase.holds s (.rem x m r)) := by
            rw [Int.fmod_eq_emod_of_nonneg _ (by omega)]
            show _ = V.bl (valueAt s x % (m : Int) == (r : Int))
            congr 1
            simp only [V.int.injEq]
            rfl
          exact e ▸ q
      | _ => cases hm
    · have hf : isRem t = false := by simpa using hm
      have h3 : ∃ a k r, v = .ref a ∧ SqT K H a (.int k :: r) ∧ k ≠ 3 := by
        obtain ⟨a, rfl, hT⟩ := hT
        cases t with
        | atMost x c => exact ⟨a, _, _, rfl, hT, by decide⟩
        | atLeast x c => exact ⟨a, _, _, rfl, hT, by decide⟩
        | below x y c => exact ⟨a, _, _, rfl, hT, by decide⟩
        | rem x m r => cases hf
      obtain ⟨a, k, r, e, h4, h5⟩ := h3
      refine ⟨_, rfl, _, _, _, _, e, rfl, h4, at0 _ _, rfl, _, rfl, if_false_of (decide_eq_false (fun q => h5 (V.int.inj q))) ?_⟩
      refine ⟨_, rfl, _, rfl, _, _, t, s, rfl, hT, hV, ho, hf, _, _, rfl, rfl, ?_⟩
      rw [Mth.holds_room hf] at q
      exact q

/-! ### moved -/
def spMoved (K : PySem.W.Frag) : Sp := fun vs H Q _ => ∃ (v u : V) (m : Mv) (s : List Int), vs = [v, u] ∧ MoveAt K H v m ∧ LiAt H u s ∧ (∀ g ∈ m, ∀ i, g.source = some i → i < s.length) ∧ m.length ≤ 1000 ∧
  ∀ H' p, Same H H' → H p = none → H' p = some (.lst ((VaaclBase.moved m s).map V.int)) → Q (.ref p) H'
theorem has_moved (D : Ds K mg) (T : Txt K mg) : Has P w K mg base CX0 1 "moved" p_moved (spMoved K) := by
  refine D.moved.has fun f fd F => F.ok c_moved (fun vs H Q E h => ?_) (fun cdv A outer s H vs Q E hr h => ⟨_,
    pss_one (ps_ret (pe_lc (own := [("part", 2)]) (g := gName 2) (tt := tYes) rfl c_moved.nd (pi_tup (pv 0)) (blkOk_by (N := n_moved) (sc := defScope s_moved) (by decide +kernel)) (fun _ _ _ _ _ => pg_name (i := 2) c_moved.nd rfl (Or.inl rfl)) (fun _ _ _ _ _ => pts_nil)
      (fun _ _ _ _ _ => pe_ifExp (pt_cmpR op_eq (pe_ix (ixT K) (pv 2) pe_int (fun _ _ => rfl)) (pe_gi rfl T.GIVEN_NUMBER) (nomark _)) (pe_ix (ixT K) (pv 2) pe_int (fun _ _ => rfl))
        (pe_op op_add (pe_ix (ixL K) (pv 1) (pe_ix (ixT K) (pv 2) pe_int (fun _ _ => rfl)) (fun _ _ => rfl)) (pe_ix (ixT K) (pv 2) pe_int (fun _ _ => rfl)))))), ?_⟩)
  · obtain ⟨v, u, m, s, rfl, _⟩ := h
    rfl
  · obtain ⟨v, u, m, s, rfl, ⟨a, ms, rfl, hM, hA⟩, ⟨b, rfl, hV⟩, ho, hlen, q⟩ := h
    refine ⟨_, rfl, a, rfl, ⟨_, hM⟩, fun D0 hD => lc_tup (K := K) (a := a) (xs := ms) (fun i H' => Same H H' ∧ H' D0 = some (.lst ((VaaclBase.moved (m.take i) s).map V.int)))
      ⟨Same.new hD, upd_same⟩ (fun i H' _ p => p.1.tup hM) ?_ ?_⟩
    · rintro i x H' hi ⟨s1, h1⟩
      obtain ⟨g, hg, pg⟩ := hA.get hi
      obtain ⟨c, rfl, hP⟩ := pg.same s1
      have hgm : g ∈ m := List.mem_of_getElem? hg
      have htk : m.take (i + 1) = m.take i ++ [g] := by rw [List.take_add_one, hg]; rfl
      have key : ∀ z : Int, z = given s g → ∃ acc, H' D0 = some (.lst acc) ∧ acc.length < sizeLine ∧ Same H (upd H' D0 (.lst (acc ++ [V.int z]))) ∧ upd H' D0 (.lst (acc ++ [V.int z])) D0 = some (.lst ((VaaclBase.moved (m.take (i + 1)) s).map V.int)) := by
        intro z hz
        refine ⟨_, h1, ?_, ?_, ?_⟩
        · rw [List.length_map, Mth.moved_length, List.length_take]
          exact Nat.lt_of_le_of_lt (Nat.min_le_right _ _) (small1000 hlen)
        · intro b' o e
          rw [upd_ne (ne_of_none e hD)]
          exact s1 b' o e
        · rw [upd_same, htk]
          show _ = some (HO.lst (((m.take i ++ [g]).map (given s)).map V.int))
          rw [List.map_append, List.map_append, hz]
          rfl
      refine ⟨rfl, ?_⟩
      cases hs : g.source with
      | none =>
        have hP : SqT K H' c [.int 0, .int g.add] := by
          have e : (flatGiven g).map V.int = [.int 0, .int g.add] := by unfold flatGiven; rw [hs]; rfl
          rw [← e]; exact hP
        refine ⟨_, rfl, _, _, _, _, rfl, rfl, hP, at0 _ _, rfl, _, rfl, if_true_of rfl ?_⟩
        refine ⟨_, rfl, _, _, _, _, rfl, rfl, hP, at1 _ _ _, ?_⟩
        exact key _ (by simp [given, hs])
      | some j =>
        have hP : SqT K H' c [.int 1, .int (j : Int), .int g.add] := by
          have e : (flatGiven g).map V.int = [.int 1, .int (j : Int), .int g.add] := by unfold flatGiven; rw [hs]; rfl
          rw [← e]; exact hP
        have hj := ho g hgm j hs
        refine ⟨_, rfl, _, _, _, _, rfl, rfl, hP, at0 _ _, rfl, _, rfl, if_false_of rfl ?_⟩
        refine ⟨_, rfl, _, rfl, _, _, _, _, rfl, rfl, hP, at1 _ _ _, _, _, _, _, rfl, rfl, s1.seq (SqL.of hV), at_ints hj, _, rfl, _, _, _, _, rfl, rfl, hP, at2 _ _ _ _, _, _, rfl, rfl, ?_⟩
        exact key _ (by simp [given, hs])
    · rintro H' ⟨s1, h1⟩
      refine q H' D0 s1 hD ?_
      rw [h1, hA.1, List.take_length]

/-! ### is_beyond -/
def spBeyond : Sp := fun vs H Q _ => ∃ (u : V) (s : List Int), vs = [u] ∧ LiAt H u s ∧ s.length ≤ 1000 ∧ ∀ H', Same H H' → Q (.bl (isBeyond s)) H'
theorem has_beyond (D : Ds K mg) (T : Txt K mg) : Has P w K mg base CX0 1 "is_beyond" p_is_beyond spBeyond := by
  refine D.is_beyond.has fun f fd F => F.ok c_is_beyond (fun vs H Q E h => ?_) (fun cdv A outer s H vs Q E hr h => ⟨_,
    pss_one (ps_ret (pe_callB (cr_any rfl) (by rfl) T.any (by decide +kernel) (pa_cons (pe_lc (own := [("value", 1)]) (g := gName 1) (tt := tYes) rfl c_is_beyond.nd (pi_list (pv 0)) (blkOk_by (N := n_is_beyond) (sc := defScope s_is_beyond) (by decide +kernel)) (fun _ _ _ _ _ => pg_name (i := 1) c_is_beyond.nd rfl (Or.inl rfl)) (fun _ _ _ _ _ => pts_nil)
      (fun _ _ _ _ _ => pe_cmpR op_gt (pe_callB call_abs (by rfl) T.abs (by decide +kernel) (pa_cons (pv 1) pa_nil)) (pe_gi rfl T.FARTHEST) (nomark _))) pa_nil))), ?_⟩)
  · obtain ⟨u, s, rfl, _⟩ := h
    rfl
  · obtain ⟨u, s, rfl, ⟨b, rfl, hV⟩, hlen, q⟩ := h
    let f : Int → Bool := fun v => decide (v < -NUMBER) || decide (NUMBER < v)
    refine ⟨_, rfl, b, rfl, ⟨_, SqL.of hV⟩, fun D0 hD => lc_list (K := K) (a := b) (xs := s.map V.int) (fun i H' => Same H H' ∧ H' D0 = some (.lst (((s.take i).map f).map V.bl)))
      ⟨Same.new hD, upd_same⟩ (fun i H' _ p => p.1.seq (SqL.of hV)) ?_ ?_⟩
    · rintro i x H' hi ⟨s1, h1⟩
      rw [List.getElem?_map] at hi
      cases e : s[i]? with
      | none => rw [e] at hi; cases hi
      | some z =>
        rw [e] at hi
        obtain rfl : V.int z = x := Option.some.inj hi
        refine ⟨rfl, _, rfl, _, rfl, _, _, rfl, rfl, ?_⟩
        refine ⟨_, h1, ?_, ?_, ?_⟩
        · rw [List.length_map, List.length_map, List.length_take]
          exact Nat.lt_of_le_of_lt (Nat.min_le_right _ _) (small1000 hlen)
        · intro b' o e
          rw [upd_ne (ne_of_none e hD)]
          exact s1 b' o e
        · rw [upd_same, List.take_add_one, e]
          show _ = some (HO.lst (((s.take i ++ [z]).map f).map V.bl))
          rw [List.map_append, List.map_append]
          congr 3
          show [V.bl _] = [V.bl (f z)]
          congr 2
          show _ = (decide (z < -NUMBER) || decide (NUMBER < z))
          have : NUMBER = 1000000000000 := rfl
          rw [this]
          rw [← Bool.decide_or]
          apply decide_eq_decide.2
          by_cases h0 : z < 0
          · rw [if_pos h0]; omega
          · rw [if_neg h0]; omega
    · rintro H' ⟨s1, h1⟩
      rw [List.length_map, List.take_length] at h1
      refine ⟨D0, s.map f, rfl, SqL.of h1, ?_⟩
      have e : (s.map f).any id = isBeyond s := by
        unfold isBeyond
        rw [List.any_map]
        rfl
      rw [e]
      exact q H' s1
end LL
/-! P1c -/
namespace LL
open PySem PySem.Spec PyProof.Rows L2
open VaaclBase hiding Given Move Program Piece run
open Vaacld
variable {P : PySem.Program} {w : World} {K : PySem.W.Frag} {mg : Str → Option Value} {base : Heap}

/-! ### chosen_branch -/
def spChosen (K : PySem.W.Frag) : Sp := fun vs H Q _ => ∃ (v u : V) (l : Loop) (s : List Int), vs = [v, u] ∧ LoopAt K H v l ∧ LiAt H u s ∧ Mth.OkLoop s.length l ∧
  ∀ H', Same H H' → Q (oV (chosen l s)) H'
theorem chosen_none {l : Loop} {s : List Int} (h : ∀ (j : Nat) (b : Branch), l[j]? = some b → allHold s b.guard = false) : chosen l s = none := by
  unfold chosen
  rw [List.findIdx?_eq_none_iff]
  intro b hb
  obtain ⟨j, hj, e⟩ := List.getElem_of_mem hb
  have := h j b (by rw [List.getElem?_eq_getElem hj, e])
  simp [this]
theorem chosen_at {l : Loop} {s : List Int} {i : Nat} {b : Branch} (h : ∀ (j : Nat) (b : Branch), j < i → l[j]? = some b → allHold s b.guard = false) (hb : l[i]? = some b) (ht : allHold s b.guard = true) : chosen l s = some i := by
  obtain ⟨hi, e⟩ := List.getElem?_eq_some_iff.mp hb
  unfold chosen
  rw [List.findIdx?_eq_some_iff_getElem]
  refine ⟨hi, by rw [e]; exact ht, fun j hj => ?_⟩
  have := h j l[j] hj (List.getElem?_eq_getElem _)
  simp [this]
theorem has_chosen (D : Ds K mg) (T : Txt K mg) : Has P w K mg base CX0 3 "chosen_branch" p_chosen_branch (spChosen K) := by
  have G := has_holds (P := P) (w := w) (base := base) D T
  refine D.chosen_branch.has fun f fd F => F.ok c_chosen_branch (fun vs H Q E h => ?_) (fun cdv A outer s H vs Q E hr h => ⟨_,
    pss_cons (ps_for PassesOwn.never rfl (EnumT.pi_enumT (by rfl) T.enumerate (pa_cons (pv 0) pa_nil)) (pg_tup rfl (pgs_cons (pg_name (i := 2) c_chosen_branch.nd rfl (Or.inl rfl)) (pgs_cons (pg_name (i := 3) c_chosen_branch.nd rfl (Or.inl rfl)) pgs_nil)))
      (pss_one (ps_if (pt_val (pe_callB (cr_all rfl) (by rfl) T.all (by decide +kernel) (pa_cons (pe_lc (own := [("test", 4)]) (g := gName 4) (tt := tYes) rfl c_chosen_branch.nd (pi_tup (pe_ix ix_tup (pv 3) pe_int (fun _ _ => rfl))) (blkOk_by (N := n_chosen_branch) (sc := defScope s_chosen_branch) (by decide +kernel))
          (fun _ _ _ _ _ => pg_name (i := 4) c_chosen_branch.nd rfl (Or.inl rfl)) (fun _ _ _ _ _ => pts_nil) (fun _ _ _ _ _ => pe_callH G hr rfl (pa_cons (pv 4) (pa_cons (pv 1) pa_nil)))) pa_nil)))
        (pss_one (ps_ret (pv 2))) pss_nil)))
      (pss_one (ps_ret pe_non)), ?_⟩)
  · obtain ⟨v, u, l, s, rfl, _⟩ := h
    rfl
  · obtain ⟨v, u, l, s, rfl, ⟨a, bs, rfl, hL, hA⟩, hV, ok, q⟩ := h
    refine ⟨_, rfl, a, bs, rfl, hL, for_it walk_enumT (fun i σ H' => ∃ x y : Option V, σ = [some (.ref a), some u, x, y, none] ∧ Same H H' ∧ ∀ (j : Nat) (b : Branch), j < i → l[j]? = some b → allHold s b.guard = false)
      ⟨none, none, rfl, Same.refl H, fun j b hj => absurd hj (Nat.not_lt_zero j)⟩ (fun i σ H' _ ⟨_, _, _, s1, _⟩ => s1.tup hL) ?_ ?_⟩
    · rintro i x σ H1 H2 hi ⟨x0, y0, rfl, s1, hn⟩ ⟨t, nv, bv, rfl, ht, rfl, hnv, hb⟩
      obtain rfl : V.int (i : Nat) = nv := Option.some.inj hnv
      obtain ⟨b, hbl, hBr⟩ := hA.get hb
      have hbm : b ∈ l := List.mem_of_getElem? hbl
      have s2 : Same H (upd H1 t (.tup [.int (i : Nat), bv])) := s1.trans (Same.new ht)
      refine ⟨t, _, rfl, SqT.of upd_same, rfl, _, _, rfl, _, _, rfl, rfl, ?_⟩
      obtain ⟨ba, gv, mv, rfl, hB2, ⟨ga, gs, rfl, hG2, hGA⟩, _⟩ := hBr.same s2
      generalize upd H1 t (.tup [.int (i : Nat), V.ref ba]) = H2 at *
      have hlen : b.guard.length ≤ 3 := (ok.all b hbm).few
      refine ⟨_, rfl, _, _, _, _, rfl, rfl, hB2, at0 _ _, ga, rfl, ⟨_, hG2⟩, fun D0 hD => lc_tup (K := K) (a := ga) (xs := gs) (fun k H' => Same H2 H' ∧ H' D0 = some (.lst (((b.guard.take k).map (VaaclBase.holds s)).map V.bl)))
        ⟨Same.new hD, upd_same⟩ (fun k H' _ p => p.1.tup hG2) ?_ ?_⟩
      · rintro k y H' hk ⟨s3, h3⟩
        obtain ⟨tt, htt, hT⟩ := hGA.get hk
        have htm : tt ∈ b.guard := List.mem_of_getElem? htt
        refine ⟨rfl, _, rfl, _, rfl, y, u, tt, s, rfl, hT.same s3, hV.same (s2.trans s3), (ok.all b hbm).tests tt htm, _, h3, ?_, ?_, ?_⟩
        · rw [List.length_map, List.length_map, List.length_take]
          exact Nat.lt_of_le_of_lt (Nat.min_le_right _ _) (small1000 (by omega))
        · intro b' o e
          rw [upd_ne (ne_of_none e hD)]
          exact s3 b' o e
        · rw [upd_same, List.take_add_one, htt]
          show _ = some (HO.lst (((b.guard.take k ++ [tt]).map (VaaclBase.holds s)).map V.bl))
          rw [List.map_append, List.map_append]
          rfl
      · rintro H' ⟨s3, h3⟩
        rw [hGA.1, List.take_length] at h3
        refine ⟨D0, _, rfl, SqL.of h3, _, rfl, ?_⟩
        have e : (b.guard.map (VaaclBase.holds s)).all id = allHold s b.guard := by
          unfold allHold
          rw [List.all_map]
          rfl
        rw [e]
        refine ite2 (fun c => ?_) (fun c => ?_)
        · refine ⟨_, rfl, ?_⟩
          have hc := chosen_at hn hbl c
          have := q H' (s2.trans s3)
          rw [hc] at this
          exact this
        · refine ⟨_, _, rfl, s2.trans s3, fun j b' hj hb' => ?_⟩
          by_cases hji : j = i
          · subst hji
            rw [hbl] at hb'
            cases hb'
            simpa using c
          · exact hn j b' (by omega) hb'
    · rintro σ H' ⟨x0, y0, rfl, s1, hn⟩
      have hc : chosen l s = none := chosen_none fun j b hb => hn j b (by rw [hA.1]; exact (List.getElem?_eq_some_iff.mp hb).1) hb
      have := q H' s1
      rw [hc] at this
      exact this
end LL
/-! P1d -/
namespace LL
open PySem PySem.Spec PyProof.Rows L2
open VaaclBase hiding Given Move Program Piece run
open Vaacld
variable {P : PySem.Program} {w : World} {K : PySem.W.Frag} {mg : Str → Option Value} {base : Heap}

/-! ### rounds_run -/
theorem oV_some {o : Option Nat} {b : Nat} (h : o = some b) : oV o = .int b := by rw [h]; rfl
theorem oV_non {o : Option Nat} (h : o = none) : oV o = .non := by rw [h]; rfl
theorem oV_ne {o : Option Nat} {b : Nat} (h : o = some b) : oV o ≠ .non := by rw [h]; intro q; cases q
/-- the branch that is chosen, in the loop's tuple -/
theorem LoopAt.branch {H : Hp} {v : V} {l : Loop} (h : LoopAt K H v l) {b : Nat} (hb : b < l.length) :
    ∃ a bs q g mv, v = .ref a ∧ SqT K H a bs ∧ bs[b]? = some (.ref q) ∧ SqT K H q [g, mv] ∧ GuardAt K H g (branchAt l b).guard ∧ MoveAt K H mv (branchAt l b).move := by
  obtain ⟨a, bs, rfl, hL, hA⟩ := h
  have e : l[b]? = some (branchAt l b) := by rw [List.getElem?_eq_getElem hb]; simp [branchAt, hb]
  obtain ⟨v, hv, q, g, mv, rfl, h1, h2, h3⟩ := hA.get' e
  exact ⟨a, bs, q, g, mv, rfl, hL, hv, h1, h2, h3⟩
/-- what is asked of a branch's move -/
theorem move_ok {n : Nat} {l : Loop} (ok : Mth.OkLoop n l) {b : Nat} (hb : b < l.length) {s : List Int} (hs : s.length = n) :
    (∀ g ∈ (branchAt l b).move, ∀ i, g.source = some i → i < s.length) ∧ (branchAt l b).move.length ≤ 1000 := by
  have h := ok.all _ (Mth.branchAt_mem hb)
  refine ⟨fun g hg i e => by rw [hs]; exact h.move.src g hg i e, ?_⟩
  rw [h.move.len]
  have := ok.high
  omega
theorem move_len {n : Nat} {l : Loop} (ok : Mth.OkLoop n l) {b : Nat} (hb : b < l.length) {s : List Int} : (moved (branchAt l b).move s).length = n := by
  rw [Mth.moved_length]
  exact (ok.all _ (Mth.branchAt_mem hb)).move.len

def spRun (K : PySem.W.Frag) : Sp := fun vs H Q _ => ∃ (v u : V) (l : Loop) (s : List Int) (n : Nat), vs = [v, u, .int n] ∧ LoopAt K H v l ∧ LiAt H u s ∧ Mth.OkLoop s.length l ∧
  ∀ H' p r, Same H H' → H' p = some (.tup [.int (VaaclBase.howNumber (runLoop l n s 0).how), .int (runLoop l n s 0).rounds, r]) → LiAt H' r (runLoop l n s 0).values → Q (.ref p) H'

def wRun (v : V) (l : Loop) (s : List Int) (n : Nat) (H : Hp) (m : Nat) (σ : L2.St) (H' : Hp) : Prop :=
  ∃ (k : Nat) (t : List Int) (u : V), m = n - k ∧ k ≤ n ∧ σ = [some v, some u, some (.int n), some (.int k), some (oV (chosen l t))] ∧ Same H H' ∧ LiAt H' u t ∧ t.length = s.length ∧
    runLoop l (n - k) t k = runLoop l n s 0

theorem has_run (D : Ds K mg) (T : Txt K mg) : Has P w K mg base CX0 4 "rounds_run" p_rounds_run (spRun K) := by
  have GC := has_chosen (P := P) (w := w) (base := base) D T
  have GM := has_moved (P := P) (w := w) (base := base) D T
  have GB := has_beyond (P := P) (w := w) (base := base) D T
  refine D.rounds_run.has fun f fd F => F.ok c_rounds_run (fun vs H Q E h => ?_) (fun cdv A outer s H vs Q E hr h => ⟨_,
    pss_cons (ps_set (i := 3) c_rounds_run.nd rfl (.inl rfl) pe_int)
      (pss_cons (ps_set (i := 4) c_rounds_run.nd rfl (.inl rfl) (pe_callH GC hr rfl (pa_cons (pv 0) (pa_cons (pv 1) pa_nil))))
      (pss_cons (ps_while PassesOwn.never (PW.pt (pw_and (pt_cmpR op_notN (pv 4) pe_non (nomark _)) (pw_and1 (pt_cmpR op_lt (pv 3) (pv 2) (nomark _)))))
        (pss_cons (ps_set (i := 1) c_rounds_run.nd rfl (.inl rfl) (pe_callH GM (hr.mono (by decide)) rfl (pa_cons (pe_ix ix_tup (pe_ix ix_tup (pv 0) (pv 4) (fun _ _ => rfl)) pe_int (fun _ _ => rfl)) (pa_cons (pv 1) pa_nil))))
        (pss_cons (ps_aug (i := 3) c_rounds_run.nd rfl (.inl rfl) pe_int ip_add)
        (pss_cons (ps_if (pt_val (pe_callH GB (hr.mono (by decide)) rfl (pa_cons (pv 1) pa_nil))) (pss_one (ps_ret (pe_tup (pa_cons (pe_gi rfl T.BEYOND) (pa_cons (pv 3) (pa_cons (pv 1) pa_nil)))))) pss_nil)
        (pss_one (ps_set (i := 4) c_rounds_run.nd rfl (.inl rfl) (pe_callH GC hr rfl (pa_cons (pv 0) (pa_cons (pv 1) pa_nil)))))))))
      (pss_one (ps_ret (pe_tup (pa_cons (pe_ifExp (pt_cmpR op_isN (pv 4) pe_non (nomark _)) (pe_gi rfl T.ENDED) (pe_gi rfl T.GOES_ON)) (pa_cons (pv 3) (pa_cons (pv 1) pa_nil)))))))), ?_⟩)
  · obtain ⟨v, u, l, s, n, rfl, _⟩ := h
    rfl
  · obtain ⟨v, u, l, s, n, rfl, hL, hV, ok, q⟩ := h
    refine ⟨_, rfl, _, rfl, v, u, l, s, rfl, hL, hV, ok, fun H1 s1 => ?_⟩
    refine ⟨wRun v l s n H, ⟨n, 0, s, u, by omega, Nat.zero_le _, rfl, s1, hV.same s1, rfl, rfl⟩, ?_⟩
    rintro m σ H2 ⟨k, t, u2, rfl, hk, rfl, s2, hV2, ht, hrun⟩
    have hL2 := hL.same s2
    have ok2 : Mth.OkLoop t.length l := by rw [ht]; exact ok
    have stop : k = n ∨ chosen l t = none → ∀ H3 : Hp, Same H2 H3 → tRet (tTup (tCons (tIf (tTest (tOp (fun x y H Q => y = .non ∧ Q (.bl (decide (x = .non))) H) (tVar 4) (tC .non))) (tC (.int 0)) (tC (.int 2))) (tCons (tVar 3) (tCons (tVar 1) tNil)))) { nx := fun _ H' => Q .non H', rt := Q }
        [some v, some u2, some (.int n), some (.int k), some (oV (chosen l t))] H3 := by
      intro hst H3 s3
      have hfin : runLoop l n s 0 = ⟨if chosen l t = none then .over else .long, t, k⟩ := by
        rw [← hrun]
        cases hc : chosen l t with
        | none =>
          rw [if_pos rfl]
          cases hz : n - k with
          | zero => unfold runLoop; rw [hc]
          | succ z => unfold runLoop; rw [hc]
        | some b =>
          rcases hst with e | e
          · have hz : n - k = 0 := by omega
            rw [hz, if_neg (by simp)]
            unfold runLoop; rw [hc]
          · rw [hc] at e; cases e
      have fin : ∀ e : Int, e = VaaclBase.howNumber (runLoop l n s 0).how → ∀ p : Addr, H3 p = none → Q (.ref p) (upd H3 p (.tup [.int e, .int k, u2])) := by
        intro e he p hp
        refine q _ p u2 ((s2.trans s3).trans (Same.new hp)) ?_ ?_
        · rw [upd_same, he, hfin]
        · rw [hfin]
          exact (hV2.same s3).same (Same.new hp)
      refine ⟨_, rfl, rfl, _, rfl, ?_⟩
      refine ite2 (fun c => ?_) (fun c => ?_)
      · refine ⟨_, rfl, _, rfl, (by show 3 ≤ sizeLine; decide), fun p hp => fin 0 ?_ p hp⟩
        have hc : chosen l t = none := by
          cases hc : chosen l t with
          | none => rfl
          | some b => rw [hc] at c; simp [oV] at c
        rw [hfin, if_pos hc]; rfl
      · refine ⟨_, rfl, _, rfl, (by show 3 ≤ sizeLine; decide), fun p hp => fin 2 ?_ p hp⟩
        have hc : ¬ chosen l t = none := by
          intro hc
          rw [hc] at c; simp [oV] at c
        rw [hfin, if_neg hc]; rfl
    refine ⟨_, rfl, rfl, _, rfl, ?_⟩
    cases hc : chosen l t with
    | none =>
      refine if_false_of rfl ?_
      have h := stop (.inr hc) H2 (Same.refl _)
      rw [hc] at h
      exact h
    | some b =>
      refine if_true_of rfl ⟨_, rfl, _, rfl, _, _, rfl, rfl, _, rfl, ?_⟩
      refine ite2 (fun c => ?_) (fun c => ?_)
      · have hkn : k < n := by simpa using c
        refine ⟨fun σ' H' => ∃ m', m' < n - k ∧ wRun v l s n H m' σ' H', fun _ _ h => h, ?_⟩
        have hb := Mth.chosen_lt hc
        obtain ⟨a, bs, qa, g, mv, rfl, hL3, hbv, hB3, _, hM3⟩ := hL2.branch hb
        obtain ⟨hsrc, hml⟩ := move_ok ok2 hb (s := t) rfl
        refine ⟨_, rfl, _, rfl, _, _, _, _, rfl, rfl, hL3, atI_nat hbv, _, _, _, _, rfl, rfl, hB3, at1 _ _ _, _, rfl, _, _, _, t, rfl, hM3, hV2, hsrc, hml, fun H4 p s4 hp0 hp => ?_⟩
        have hlen4 : (moved (branchAt l b).move t).length = s.length := move_len ok hb
        have s24 := s2.trans s4
        refine ⟨_, rfl, _, _, rfl, rfl, ?_⟩
        refine ⟨_, rfl, _, _, rfl, ⟨p, rfl, hp⟩, ?_, fun H5 s5 => ?_⟩
        · have := ok.high; omega
        have hst : runLoop l n s 0 = if isBeyond (moved (branchAt l b).move t) then ⟨.beyond, moved (branchAt l b).move t, k + 1⟩ else runLoop l (n - (k + 1)) (moved (branchAt l b).move t) (k + 1) := by
          rw [← hrun]
          have e : n - k = (n - (k + 1)) + 1 := by omega
          rw [e]
          conv => lhs; unfold runLoop
          rw [hc]
        refine ⟨_, rfl, ite2 (fun cb => ?_) (fun cb => ?_)⟩
        · refine ⟨_, rfl, _, rfl, (by show 3 ≤ sizeLine; decide), fun p2 hp2 => ?_⟩
          rw [if_pos cb] at hst
          refine q _ p2 (.ref p) ((s24.trans s5).trans (Same.new hp2)) ?_ ?_
          · rw [upd_same, hst]; rfl
          · rw [hst]
            exact LiAt.same (LiAt.same ⟨p, rfl, hp⟩ s5) (Same.new hp2)
        · rw [if_neg cb] at hst
          refine ⟨_, rfl, _, rfl, _, _, l, _, rfl, (LoopAt.same (hL.same s24) s5), LiAt.same ⟨p, rfl, hp⟩ s5, by rw [hlen4]; exact ok, fun H6 s6 => ?_⟩
          exact ⟨n - (k + 1), by omega, k + 1, _, _, rfl, hkn, rfl, (s24.trans s5).trans s6, LiAt.same (LiAt.same ⟨p, rfl, hp⟩ s5) s6, hlen4, hst.symm⟩
      · have hkn : k = n := by
          have : ¬ k < n := by simpa using c
          omega
        have h := stop (.inl hkn) H2 (Same.refl _)
        rw [hc] at h
        exact h
end LL
/-! P2a -/
namespace LL
open PySem PySem.Spec PyProof.Rows L2
open VaaclBase hiding Given Move Program Piece run
open Vaacld
variable {P : PySem.Program} {w : World} {K : PySem.W.Frag} {mg : Str → Option Value} {base : Heap}

/-! ### lists of ints compared, cut -/
def pdI (ns : List Int) : PyData := .list (ns.map .int)
theorem dpAll_ints {H : Hp} : ∀ ns : List Int, DpAll K H (ns.map V.int) (ns.map .int)
  | [] => .nil
  | n :: r => .cons (.int n) (dpAll_ints r)
theorem dp_ints {H : Hp} {a : Addr} {ns : List Int} (h : SqL K H a (ns.map V.int)) : Dp K H (.ref a) (pdI ns) := .lst h (dpAll_ints ns)
theorem canLayAll_ints : ∀ ns : List Int, PyData.canLayAll0 (ns.map .int) = true
  | [] => rfl
  | n :: r => by
    show (PyData.canLay0 (.int n) && PyData.canLayAll0 (r.map .int)) = true
    rw [canLayAll_ints r]
    rfl
theorem depthAll_ints : ∀ ns : List Int, PyData.depthAll (ns.map .int) = 0
  | [] => rfl
  | n :: r => by
    show max 0 (PyData.depthAll (r.map .int)) = 0
    rw [depthAll_ints r]
    rfl
theorem shaped_ints (ns : List Int) : SeqAt.shaped (pdI ns) = true := by
  show (PyData.canLayAll0 (ns.map .int) && decide (PyData.depthAll (ns.map .int) + 1 ≤ 64)) = true
  rw [canLayAll_ints, depthAll_ints]
  rfl
theorem eqvAll_ints : ∀ xs ys : List Int, PyData.eqvAll (xs.map .int) (ys.map .int) = decide (xs = ys)
  | [], [] => rfl
  | [], _ :: _ => rfl
  | _ :: _, [] => rfl
  | x :: xs, y :: ys => by
    show (x == y && PyData.eqvAll (xs.map .int) (ys.map .int)) = _
    rw [eqvAll_ints xs ys, Bool.eq_iff_iff]
    simp
theorem eqv_ints (xs ys : List Int) : PyData.eqv (pdI xs) (pdI ys) = decide (xs = ys) := eqvAll_ints xs ys
theorem cut_to {xs : List V} {k : Nat} : cutV xs none (some (k : Int)) = xs.take k := by
  unfold cutV
  rw [HT.sIx_none, HT.sIx_nat, List.drop_zero, Nat.sub_zero]
  by_cases h : k ≤ xs.length
  · rw [Nat.min_eq_left h]
  · rw [Nat.min_eq_right (by omega), List.take_length, List.take_of_length_le (by omega)]
theorem cut_mid {xs : List V} {k j : Nat} (h : j ≤ xs.length) (hk : k ≤ j) : cutV xs (some (k : Int)) (some (j : Int)) = (xs.drop k).take (j - k) := by
  unfold cutV
  rw [HT.sIx_nat, HT.sIx_nat, Nat.min_eq_left h, Nat.min_eq_left (by omega)]

/-! ### branches_ahead -/
def spAhead (K : PySem.W.Frag) : Sp := fun vs H Q _ => ∃ (v u : V) (l : Loop) (s : List Int) (n : Nat), vs = [v, u, .int n] ∧ LoopAt K H v l ∧ LiAt H u s ∧ Mth.OkLoop s.length l ∧ n ≤ 100 ∧
  ∀ H' p, Same H H' → H p = none → H' p = some (.lst ((nats (branchesFrom l n s)).map V.int)) → Q (.ref p) H'
def wAhead (v : V) (l : Loop) (s : List Int) (n : Nat) (H : Hp) (p : Addr) (m : Nat) (σ : L2.St) (H' : Hp) : Prop :=
  ∃ (acc : List Nat) (t : List Int) (u : V) (x : Option V), m = n - acc.length ∧ acc.length ≤ n ∧ σ = [some v, some u, some (.int n), some (.ref p), x] ∧ Same H H' ∧ LiAt H' u t ∧ u ≠ .ref p ∧ t.length = s.length ∧
    H' p = some (.lst ((nats acc).map V.int)) ∧ acc ++ branchesFrom l (n - acc.length) t = branchesFrom l n s
theorem nats_length (p : List Nat) : (nats p).length = p.length := by simp [nats]
theorem natsV_length (p : List Nat) : ((nats p).map V.int).length = p.length := by simp [nats]
theorem nats_snoc (p : List Nat) (b : Nat) : (nats p).map V.int ++ [V.int b] = (nats (p ++ [b])).map V.int := by
  simp [nats, VaaclBase.int]
theorem has_ahead (D : Ds K mg) (T : Txt K mg) : Has P w K mg base CX0 4 "branches_ahead" p_branches_ahead (spAhead K) := by
  have GC := has_chosen (P := P) (w := w) (base := base) D T
  have GM := has_moved (P := P) (w := w) (base := base) D T
  refine D.branches_ahead.has fun f fd F => F.ok c_branches_ahead (fun vs H Q E h => ?_) (fun cdv A outer s H vs Q E hr h => ⟨_,
    pss_cons (ps_set (i := 3) c_branches_ahead.nd rfl (.inl rfl) (pe_lst pa_nil))
      (pss_cons (ps_while PassesOwn.never (pt_cmpR op_lt (pe_callB call_len_seq (by rfl) T.len PySem.boot_len (pa_cons (pv 3) pa_nil)) (pv 2) (nomark _))
        (pss_cons (ps_set (i := 4) c_branches_ahead.nd rfl (.inl rfl) (pe_callH GC hr rfl (pa_cons (pv 0) (pa_cons (pv 1) pa_nil))))
        (pss_cons (ps_if (pt_cmpR op_isN (pv 4) pe_non (nomark _)) (pss_one ps_break) pss_nil)
        (pss_cons (ps_expr (pe_bm PySem.F.plainAttrs_list PySem.F.slot_list_append PySem.F.type_list_append mt_append (pv 3) (pa_cons (pv 4) pa_nil)))
        (pss_one (ps_set (i := 1) c_branches_ahead.nd rfl (.inl rfl) (pe_callH GM (hr.mono (by decide)) rfl (pa_cons (pe_ix ix_tup (pe_ix ix_tup (pv 0) (pv 4) (fun _ _ => rfl)) pe_int (fun _ _ => rfl)) (pa_cons (pv 1) pa_nil)))))))))
      (pss_one (ps_ret (pv 3)))), ?_⟩)
  · obtain ⟨v, u, l, s, n, rfl, _⟩ := h
    rfl
  · obtain ⟨v, u, l, s, n, rfl, hL, hV, ok, hn, q⟩ := h
    refine ⟨(by show 0 ≤ sizeLine; exact Nat.zero_le _), fun p hp => ?_⟩
    refine ⟨wAhead v l s n H p, ⟨n, [], s, u, none, by simp, Nat.zero_le _, rfl, Same.new hp, hV.same (Same.new hp), hV.ne hp, rfl, upd_same, by simp⟩, ?_⟩
    rintro m σ H2 ⟨acc, t, u2, x, rfl, hk, rfl, s2, hV2, hup, ht, hP, hacc⟩
    have hL2 := hL.same s2
    have ok2 : Mth.OkLoop t.length l := by rw [ht]; exact ok
    refine ⟨_, rfl, p, _, rfl, .inl (SqL.of hP), _, rfl, _, _, rfl, rfl, _, rfl, ?_⟩
    rw [natsV_length]
    refine ite2 (fun c => ?_) (fun c => ?_)
    · have hkn : acc.length < n := by simpa using c
      refine ⟨fun σ' H' => ∃ m', m' < n - acc.length ∧ wAhead v l s n H p m' σ' H', fun _ _ h => h, ?_⟩
      refine ⟨_, rfl, _, rfl, _, _, l, t, rfl, hL2, hV2, ok2, fun H3 s3 => ?_⟩
      refine ⟨_, rfl, rfl, _, rfl, ?_⟩
      have hst : n - acc.length = (n - (acc.length + 1)) + 1 := by omega
      cases hc : chosen l t with
      | none =>
        refine if_true_of rfl ?_
        refine ⟨_, rfl, q H3 p (s2.trans s3) hp ?_⟩
        rw [hst, bf_none hc, List.append_nil] at hacc
        rw [← hacc]
        exact s3 _ _ hP
      | some b =>
        refine if_false_of rfl ?_
        have hb := Mth.chosen_lt hc
        have hP3 := s3 _ _ hP
        refine ⟨_, rfl, .inl ⟨rfl, _, .inl (.inl hP3)⟩, _, rfl, p, _, _, rfl, rfl, hP3, ?_, ?_⟩
        · rw [natsV_length]; exact small1000 (by omega)
        · rw [show (List.map V.int (nats acc) ++ [oV (some b)]) = _ from nats_snoc acc b]
          have s4 : Same H (upd H3 p (.lst ((nats (acc ++ [b])).map V.int))) := (s2.trans s3).updNew hp
          obtain ⟨a, bs, qa, g, mv, rfl, hL3, hbv, hB3, _, hM3⟩ := (hL.same s4).branch hb
          obtain ⟨hsrc, hml⟩ := move_ok ok2 hb (s := t) rfl
          refine ⟨_, rfl, _, rfl, _, _, _, _, rfl, rfl, hL3, atI_nat hbv, _, _, _, _, rfl, rfl, hB3, at1 _ _ _, _, rfl, _, _, _, t, rfl, hM3, (hV2.same s3).upd hup, hsrc, hml, fun H4 p4 s5 hp0 hp4 => ?_⟩
          refine ⟨n - (acc.length + 1), by omega, acc ++ [b], _, _, _, by simp, by simp; omega, rfl, s4.trans s5, ⟨p4, rfl, hp4⟩, ref_ne hp0 upd_same, ?_, s5 _ _ upd_same, ?_⟩
          · rw [move_len ok2 hb, ht]
          · rw [List.length_append, List.length_singleton, List.append_assoc]
            rw [hst, bf_some hc] at hacc
            exact hacc
    · have hkn : n - acc.length = 0 := by
        have : ¬ acc.length < n := by simpa using c
        omega
      refine ⟨_, rfl, q H2 p s2 hp ?_⟩
      rw [hkn, bf_zero, List.append_nil] at hacc
      rw [← hacc]
      exact hP
end LL
/-! P2b -/
namespace LL
open PySem PySem.Spec PyProof.Rows L2
open VaaclBase hiding Given Move Program Piece run
open Vaacld
variable {P : PySem.Program} {w : World} {K : PySem.W.Frag} {mg : Str → Option Value} {base : Heap}

/-! ### pattern_at -/
theorem nats_take (p : List Nat) (k : Nat) : ((nats p).map V.int).take k = (nats (p.take k)).map V.int := by
  simp [nats, List.map_take]
theorem nats_drop (p : List Nat) (k : Nat) : ((nats p).map V.int).drop k = (nats (p.drop k)).map V.int := by
  simp [nats, List.map_drop]
theorem nats_inj {p q : List Nat} : nats p = nats q ↔ p = q := by
  constructor
  · intro h
    unfold nats at h
    exact (List.map_inj_right (fun a b e => by unfold VaaclBase.int at e; omega)).1 h
  · intro h; rw [h]
def spPat (K : PySem.W.Frag) : Sp := fun vs H Q _ => ∃ (v u : V) (l : Loop) (s : List Int), vs = [v, u] ∧ LoopAt K H v l ∧ LiAt H u s ∧ Mth.OkLoop s.length l ∧
  ∀ H' p, Same H H' → H p = none → H' p = some (.lst ((nats (Mth.patL l s)).map V.int)) → Q (.ref p) H'
theorem has_pat (D : Ds K mg) (T : Txt K mg) : Has P w K mg base CX0 5 "pattern_at" p_pattern_at (spPat K) := by
  have GA := has_ahead (P := P) (w := w) (base := base) D T
  refine D.pattern_at.has fun f fd F => F.ok c_pattern_at (fun vs H Q E h => ?_) (fun cdv A outer s H vs Q E hr h => ⟨_,
    pss_cons (ps_set (i := 2) c_pattern_at.nd rfl (.inl rfl) (pe_callH GA hr rfl (pa_cons (pv 0) (pa_cons (pv 1) (pa_cons (pe_op op_mul pe_int (pe_gi rfl T.LONGEST)) pa_nil)))))
      (pss_cons (ps_for PassesOwn.never rfl (pi_range2 (by rfl) T.range (pa_cons pe_int (pa_cons (pe_op op_add (pe_op op_fdiv (pe_callB call_len_seq (by rfl) T.len PySem.boot_len (pa_cons (pv 2) pa_nil)) pe_int) pe_int) pa_nil))) (pg_name (i := 3) c_pattern_at.nd rfl (.inl rfl))
        (pss_one (ps_if (pt_cmpR (op_eqD hr.units) (pe_slice sl_list (pv 2) po_none (po_some (pv 3))) (pe_slice sl_list (pv 2) (po_some (pv 3)) (po_some (pe_op op_mul pe_int (pv 3)))) (nomark _))
          (pss_one (ps_ret (pe_slice sl_list (pv 2) po_none (po_some (pv 3))))) pss_nil)))
      (pss_one (ps_ret (pe_slice sl_list (pv 2) po_none (po_some pe_int))))), ?_⟩)
  · obtain ⟨v, u, l, s, rfl, _⟩ := h
    rfl
  · obtain ⟨v, u, l, s, rfl, hL, hV, ok, q⟩ := h
    refine ⟨_, rfl, _, rfl, _, _, rfl, rfl, .inl ⟨by decide, by decide⟩, v, u, l, s, 6, rfl, hL, hV, ok, by decide, fun H1 r s1 hr0 hr1 => ?_⟩
    generalize hw : branchesFrom l 6 s = w6 at *
    have h6 : w6.length ≤ 6 := by rw [← hw]; exact Mth.branchesFrom_length l 6 s
    refine ⟨_, rfl, r, _, rfl, .inl (SqL.of hr1), _, _, rfl, rfl, ⟨by decide, by decide⟩, _, _, rfl, rfl, _, _, rfl, ?_⟩
    rw [natsV_length]
    have h62 : (2 : Int) ^ 62 = 4611686018427387904 := by decide
    refine ⟨by rw [h62]; omega, for_range (lo := 1) (n := (((w6.length : Int) / 2 + 1) - 1).toNat) (fun i σ H' => ∃ x : Option V, σ = [some v, some u, some (.ref r), x] ∧ Same H1 H' ∧ ∀ j, 1 ≤ j → j ≤ i → ¬ w6.take j = (w6.drop j).take j)
      ⟨none, rfl, Same.refl _, fun j h1 h2 => by omega⟩ ?_ ?_⟩
    · rintro i σ H2 hi ⟨x, rfl, s2, hno⟩
      have hi2 : 2 * (i + 1) ≤ w6.length := by omega
      have hr2 := s2 _ _ hr1
      have e1 : (1 : Int) + (i : Int) = ((i + 1 : Nat) : Int) := by omega
      rw [e1]
      have e2 : (2 : Int) * ((i + 1 : Nat) : Int) = ((2 * (i + 1) : Nat) : Int) := by omega
      have c1 : cutV ((nats w6).map V.int) none (some ((i + 1 : Nat) : Int)) = (nats (w6.take (i + 1))).map V.int := by rw [cut_to, nats_take]
      have c2 : cutV ((nats w6).map V.int) (some ((i + 1 : Nat) : Int)) (some ((2 * (i + 1) : Nat) : Int)) = (nats ((w6.drop (i + 1)).take (i + 1))).map V.int := by
        rw [cut_mid (by rw [natsV_length]; exact hi2) (by omega), nats_drop, nats_take]
        congr 3
        omega
      refine ⟨_, rfl, _, rfl, _, rfl, r, _, rfl, SqL.of hr2, fun p1 hp1 => ?_⟩
      rw [c1]
      have hr3 : upd H2 p1 (.lst ((nats (w6.take (i + 1))).map V.int)) r = some (.lst ((nats w6).map V.int)) := Same.new hp1 _ _ hr2
      refine ⟨_, rfl, _, rfl, _, rfl, _, rfl, _, _, rfl, rfl, .inl ⟨by decide, by decide⟩, _, rfl, r, _, rfl, SqL.of hr3, fun p2 hp2 => ?_⟩
      rw [e2, c2]
      have k1 : upd (upd H2 p1 (.lst ((nats (w6.take (i + 1))).map V.int))) p2 (.lst ((nats ((w6.drop (i + 1)).take (i + 1))).map V.int)) p1 = some (.lst ((nats (w6.take (i + 1))).map V.int)) := Same.new hp2 _ _ upd_same
      refine ⟨_, _, dp_ints (SqL.of k1), dp_ints (SqL.of upd_same), shaped_ints _, shaped_ints _, _, rfl, ?_⟩
      rw [eqv_ints]
      have s4 : Same H1 (upd (upd H2 p1 (.lst ((nats (w6.take (i + 1))).map V.int))) p2 (.lst ((nats ((w6.drop (i + 1)).take (i + 1))).map V.int))) := (s2.trans (Same.new hp1)).trans (Same.new hp2)
      generalize upd (upd H2 p1 (.lst ((nats (w6.take (i + 1))).map V.int))) p2 (.lst ((nats ((w6.drop (i + 1)).take (i + 1))).map V.int)) = H4 at *
      refine ite2 (fun c => ?_) (fun c => ?_)
      · have hk : w6.take (i + 1) = (w6.drop (i + 1)).take (i + 1) := nats_inj.1 (of_decide_eq_true c)
        refine ⟨_, rfl, _, rfl, _, rfl, r, _, rfl, SqL.of (s4 _ _ hr1), fun p hp => ?_⟩
        refine q _ p (s1.trans (s4.trans (Same.new hp))) (s1.free (s4.free hp)) ?_
        rw [upd_same, c1, Mth.patL_some (l := l) (s := s) (k := i + 1) (by omega) (by rw [hw]; exact hi2) (by rw [hw]; exact hk) (fun j h1 h2 => by rw [hw]; exact hno j h1 (by omega)), hw]
      · refine ⟨_, rfl, s4, fun j h1 h2 => ?_⟩
        by_cases hji : j = i + 1
        · subst hji
          intro e
          apply c
          exact decide_eq_true (nats_inj.2 e)
        · exact hno j h1 (by omega)
    · rintro σ H2 ⟨x, rfl, s2, hno⟩
      have c1 : cutV ((nats w6).map V.int) none (some 1) = (nats (w6.take 1)).map V.int := by
        have := @cut_to ((nats w6).map V.int) 1
        rw [show ((1 : Nat) : Int) = 1 from rfl] at this
        rw [this, nats_take]
      refine ⟨_, rfl, _, rfl, r, _, rfl, SqL.of (s2 _ _ hr1), fun p hp => ?_⟩
      refine q _ p (s1.trans (s2.trans (Same.new hp))) (s1.free (s2.free hp)) ?_
      rw [upd_same, c1, Mth.patL_none (l := l) (s := s) (fun j h1 h2 => by rw [hw] at h2 ⊢; exact hno j h1 (by omega)), hw]

/-! ### sooner -/
def spSooner : Sp := fun vs H Q _ => ∃ (a b : Option Nat), vs = [oV a, oV b] ∧ Q (oV (Mth.soonerN a b)) H
theorem has_sooner (D : Ds K mg) (T : Txt K mg) : Has P w K mg base CX0 1 "sooner" p_sooner spSooner := by
  refine D.sooner.has fun f fd F => F.ok c_sooner (fun vs H Q E h => ?_) (fun cdv A outer s H vs Q E hr h => ⟨_,
    pss_cons (ps_if (pt_cmpR op_isN (pv 0) pe_non (nomark _)) (pss_one (ps_ret (pv 1))) pss_nil)
      (pss_cons (ps_if (pt_cmpR op_isN (pv 1) pe_non (nomark _)) (pss_one (ps_ret (pv 0))) pss_nil)
      (pss_one (ps_ret (pe_callB (call_min2 rfl) (by rfl) T.min (by decide +kernel) (pa_cons (pv 0) (pa_cons (pv 1) pa_nil)))))), ?_⟩)
  · obtain ⟨a, b, rfl, _⟩ := h
    rfl
  · obtain ⟨a, b, rfl, q⟩ := h
    cases a with
    | none =>
      refine ⟨_, rfl, rfl, _, rfl, if_true_of rfl ?_⟩
      cases b <;> exact ⟨_, rfl, q⟩
    | some a =>
      refine ⟨_, rfl, rfl, _, rfl, if_false_of rfl ?_⟩
      cases b with
      | none => exact ⟨_, rfl, rfl, _, rfl, if_true_of rfl ⟨_, rfl, q⟩⟩
      | some b =>
        refine ⟨_, rfl, rfl, _, rfl, if_false_of rfl ⟨_, rfl, _, rfl, (a : Int), (b : Int), rfl, ?_⟩⟩
        have e : (V.int (if (b : Int) < (a : Int) then (b : Int) else (a : Int))) = oV (Mth.soonerN (some a) (some b)) := by
          show _ = V.int ((min a b : Nat) : Int)
          congr 1
          by_cases c : (b : Int) < (a : Int)
          · rw [if_pos c, Nat.min_eq_right (by omega)]
          · rw [if_neg c, Nat.min_eq_left (by omega)]
        exact e ▸ q
end LL
/-! P2c -/
namespace LL
open PySem PySem.Spec PyProof.Rows L2
open VaaclBase hiding Given Move Program Piece run
open Vaacld
variable {P : PySem.Program} {w : World} {K : PySem.W.Frag} {mg : Str → Option Value} {base : Heap}

/-! ### span_of_test -/
/-- values that go up slowly -/
def Slow (h l : List Int) : Prop := ∀ i, -100000 ≤ valueAt l i - valueAt h i ∧ valueAt l i - valueAt h i ≤ 100000
theorem Slow.room {h l : List Int} (s : Slow h l) (t : Test) : -300000 ≤ Mth.room t l - Mth.room t h ∧ Mth.room t l - Mth.room t h ≤ 300000 := by
  cases t with
  | atMost x c => have := s x; simp only [Mth.room]; omega
  | atLeast x c => have := s x; simp only [Mth.room]; omega
  | below x y c => have := s x; have := s y; simp only [Mth.room]; omega
  | rem x m r => simp [Mth.room]
def spSpanT (K : PySem.W.Frag) : Sp := fun vs H Q _ => ∃ (v u1 u2 : V) (t : Test) (h l : List Int), vs = [v, u1, u2] ∧ TestAt K H v t ∧ LiAt H u1 h ∧ LiAt H u2 l ∧ okTest h.length t = true ∧ l.length = h.length ∧ Slow h l ∧
  ∀ H' p, Same H H' → H p = none → H' p = some (.tup [.int (Mth.spanT t h l).1, oV (Mth.spanT t h l).2]) → Q (.ref p) H'
theorem test_kind {H : Hp} {v : V} {t : Test} (hT : TestAt K H v t) : ∃ a k r, v = .ref a ∧ SqT K H a (.int k :: r) ∧ (isRem t = true → k = 3) ∧ (isRem t = false → k ≠ 3) := by
  obtain ⟨a, rfl, hT⟩ := hT
  cases t with
  | atMost x c => exact ⟨a, _, _, rfl, hT, (fun h => nomatch h), fun _ => by decide⟩
  | atLeast x c => exact ⟨a, _, _, rfl, hT, (fun h => nomatch h), fun _ => by decide⟩
  | below x y c => exact ⟨a, _, _, rfl, hT, (fun h => nomatch h), fun _ => by decide⟩
  | rem x m r => exact ⟨a, _, _, rfl, hT, fun _ => rfl, fun h => nomatch h⟩
theorem has_spanT (D : Ds K mg) (T : Txt K mg) : Has P w K mg base CX0 3 "span_of_test" p_span_of_test (spSpanT K) := by
  have GH := has_holds (P := P) (w := w) (base := base) D T
  have GR := has_room (P := P) (w := w) (base := base) D T
  refine D.span_of_test.has fun f fd F => F.ok c_span_of_test (fun vs H Q E h => ?_) (fun cdv A outer s H vs Q E hr h => ⟨_,
    pss_cons (ps_if (pt_cmpR op_eq (pe_ix ix_tup (pv 0) pe_int (fun _ _ => rfl)) (pe_gi rfl T.REMAINDER) (nomark _))
        (pss_one (ps_ret (pe_tup (pa_cons pe_int (pa_cons (pe_ifExp (pt_val (pe_callH GH hr rfl (pa_cons (pv 0) (pa_cons (pv 1) pa_nil)))) pe_non pe_int) pa_nil))))) pss_nil)
      (pss_cons (ps_set (i := 3) c_span_of_test.nd rfl (.inl rfl) (pe_callH GR (hr.mono (by decide)) rfl (pa_cons (pv 0) (pa_cons (pv 1) pa_nil))))
      (pss_cons (ps_set (i := 4) c_span_of_test.nd rfl (.inl rfl) (pe_op op_sub (pe_callH GR (hr.mono (by decide)) rfl (pa_cons (pv 0) (pa_cons (pv 2) pa_nil))) (pv 3)))
      (pss_cons (ps_if (pt_cmpR op_lt (pv 4) pe_int (nomark _))
        (pss_one (ps_ret (pe_tup (pa_cons pe_int (pa_cons (pe_callB (call_max2 rfl) (by rfl) T.max (by decide +kernel) (pa_cons pe_int (pa_cons (pe_op op_add (pe_op op_fdivN (pv 3) (pe_un un_neg (pv 4))) pe_int) pa_nil))) pa_nil))))) pss_nil)
      (pss_cons (ps_if (pt_cmpR op_ge (pv 3) pe_int (nomark _)) (pss_one (ps_ret (pe_tup (pa_cons pe_int (pa_cons pe_non pa_nil))))) pss_nil)
      (pss_one (ps_ret (pe_ifExp (pt_cmpR op_eq (pv 4) pe_int (nomark _)) (pe_tup (pa_cons pe_int (pa_cons pe_int pa_nil))) (pe_tup (pa_cons (pe_un un_neg (pe_op op_fdivN (pv 3) (pv 4))) (pa_cons pe_non pa_nil)))))))))), ?_⟩)
  · obtain ⟨v, u1, u2, t, h, l, rfl, _⟩ := h
    rfl
  · obtain ⟨v, u1, u2, t, h, l, rfl, hT, hV1, hV2, ho, hlen, hsl, q⟩ := h
    have two : 2 ≤ sizeLine := by decide
    have fin : ∀ (a : Int) (b : V), a = (Mth.spanT t h l).1 → b = oV (Mth.spanT t h l).2 → ∀ p, H p = none → Q (.ref p) (upd H p (.tup [.int a, b])) := by
      rintro a b rfl rfl p hp
      exact q _ p (Same.new hp) hp upd_same
    obtain ⟨a, k, r, e, h4, h5, h6⟩ := test_kind hT
    refine ⟨_, rfl, _, _, _, _, e, rfl, h4, at0 _ _, rfl, _, rfl, ?_⟩
    cases hm : isRem t with
    | true =>
      refine if_true_of (decide_eq_true (by rw [h5 hm])) ?_
      refine ⟨_, rfl, _, rfl, v, u1, t, h, rfl, hT, hV1, ho, _, rfl, ?_⟩
      have e0 : Mth.spanT t h l = (0, if VaaclBase.holds h t then none else some 0) := by unfold Mth.spanT; rw [hm]; rfl
      refine ite2 (fun c => ?_) (fun c => ?_)
      · exact ⟨two, fun p hp => fin 0 .non (by rw [e0]; rfl) (by rw [e0, if_pos c]; rfl) p hp⟩
      · exact ⟨two, fun p hp => fin 0 (.int 0) (by rw [e0]; rfl) (by rw [e0, if_neg c]; rfl) p hp⟩
    | false =>
      refine if_false_of (decide_eq_false (fun q => h6 hm (V.int.inj q))) ?_
      have hg := hsl.room t
      have e0 : Mth.spanT t h l = (if Mth.room t l - Mth.room t h < 0 then (0, some (max 0 (Mth.room t h / (-(Mth.room t l - Mth.room t h)) + 1)).toNat)
        else if 0 ≤ Mth.room t h then (0, none) else if Mth.room t l - Mth.room t h = 0 then (0, some 0) else ((-(Mth.room t h / (Mth.room t l - Mth.room t h))).toNat, none)) := by
        unfold Mth.spanT; rw [hm]; rfl
      refine ⟨_, rfl, _, rfl, v, u1, t, h, rfl, hT, hV1, ho, hm, ?_⟩
      refine ⟨_, rfl, _, rfl, v, u2, t, l, rfl, hT, hV2, by rw [hlen]; exact ho, hm, _, rfl, _, _, rfl, rfl, ?_⟩
      refine ⟨_, rfl, _, _, rfl, rfl, _, rfl, ite2 (fun c => ?_) (fun c => ?_)⟩
      · have c : Mth.room t l - Mth.room t h < 0 := of_decide_eq_true c
        rw [if_pos c] at e0
        refine ⟨_, rfl, _, rfl, _, rfl, _, _, rfl, rfl, ⟨by omega, by omega⟩, _, _, rfl, rfl, _, _, rfl, ?_⟩
        refine ⟨two, fun p hp => fin 0 _ (by rw [e0]; rfl) ?_ p hp⟩
        rw [e0, Int.fdiv_eq_ediv_of_nonneg _ (by omega)]
        show V.int _ = V.int (((max 0 (Mth.room t h / -(Mth.room t l - Mth.room t h) + 1)).toNat : Nat) : Int)
        congr 1
        by_cases c2 : Mth.room t h / -(Mth.room t l - Mth.room t h) + 1 > 0
        · rw [if_pos c2]; omega
        · rw [if_neg c2]; omega
      · have c : ¬ Mth.room t l - Mth.room t h < 0 := fun z => c (decide_eq_true z)
        rw [if_neg c] at e0
        refine ⟨_, rfl, _, _, rfl, rfl, _, rfl, ite2 (fun c2 => ?_) (fun c2 => ?_)⟩
        · have c2 : 0 ≤ Mth.room t h := of_decide_eq_true c2
          rw [if_pos c2] at e0
          exact ⟨two, fun p hp => fin 0 .non (by rw [e0]; rfl) (by rw [e0]; rfl) p hp⟩
        · have c2 : ¬ 0 ≤ Mth.room t h := fun z => c2 (decide_eq_true z)
          rw [if_neg c2] at e0
          refine ⟨_, rfl, rfl, _, rfl, ite2 (fun c3 => ?_) (fun c3 => ?_)⟩
          · have c3 : Mth.room t l - Mth.room t h = 0 := V.int.inj (of_decide_eq_true c3)
            rw [if_pos c3] at e0
            exact ⟨two, fun p hp => fin 0 (.int 0) (by rw [e0]; rfl) (by rw [e0]; rfl) p hp⟩
          · have c3 : ¬ Mth.room t l - Mth.room t h = 0 := fun z => c3 (decide_eq_true (congrArg V.int z))
            rw [if_neg c3] at e0
            refine ⟨_, rfl, _, rfl, _, _, rfl, rfl, ⟨by omega, by omega⟩, _, rfl, two, fun p hp => fin _ .non ?_ (by rw [e0]; rfl) p hp⟩
            rw [e0, Int.fdiv_eq_ediv_of_nonneg _ (by omega)]
            have : Mth.room t h / (Mth.room t l - Mth.room t h) < 0 := Int.ediv_neg_of_neg_of_pos (by omega) (by omega)
            show _ = (((-(Mth.room t h / (Mth.room t l - Mth.room t h))).toNat : Nat) : Int)
            omega
end LL
/-! P2d -/
namespace LL
open PySem PySem.Spec PyProof.Rows L2
open VaaclBase hiding Given Move Program Piece run
open Vaacld
variable {P : PySem.Program} {w : World} {K : PySem.W.Frag} {mg : Str → Option Value} {base : Heap}

/-! ### span_of_branch -/
theorem spanG_snoc (t : Test) (h l : List Int) : ∀ (g : List Test) (o : Nat × Option Nat),
    Mth.spanG (g ++ [t]) o h l = (max (Mth.spanG g o h l).1 (Mth.spanT t h l).1, Mth.soonerN (Mth.spanG g o h l).2 (Mth.spanT t h l).2)
  | [], _ => rfl
  | _ :: g, _ => spanG_snoc t h l g _
def spSpanB (K : PySem.W.Frag) : Sp := fun vs H Q _ => ∃ (v u1 u2 : V) (b : Branch) (h l : List Int), vs = [v, u1, u2] ∧ BranchAt K H v b ∧ LiAt H u1 h ∧ LiAt H u2 l ∧ (∀ t ∈ b.guard, okTest h.length t = true) ∧ l.length = h.length ∧ Slow h l ∧
  ∀ H' p, Same H H' → H p = none → H' p = some (.tup [.int (Mth.spanB b h l).1, oV (Mth.spanB b h l).2]) → Q (.ref p) H'
theorem has_spanB (D : Ds K mg) (T : Txt K mg) : Has P w K mg base CX0 4 "span_of_branch" p_span_of_branch (spSpanB K) := by
  have GT := has_spanT (P := P) (w := w) (base := base) D T
  have GS := has_sooner (P := P) (w := w) (base := base) D T
  refine D.span_of_branch.has fun f fd F => F.ok c_span_of_branch (fun vs H Q E h => ?_) (fun cdv A outer s H vs Q E hr h => ⟨_,
    pss_cons (ps_set (i := 3) c_span_of_branch.nd rfl (.inl rfl) pe_int)
      (pss_cons (ps_set (i := 4) c_span_of_branch.nd rfl (.inl rfl) pe_non)
      (pss_cons (ps_for PassesOwn.never rfl (pi_tup (pe_ix ix_tup (pv 0) pe_int (fun _ _ => rfl))) (pg_name (i := 5) c_span_of_branch.nd rfl (.inl rfl))
        (pss_cons (ps_set (i := 6) c_span_of_branch.nd rfl (.inl rfl) (pe_callH GT hr rfl (pa_cons (pv 5) (pa_cons (pv 1) (pa_cons (pv 2) pa_nil)))))
        (pss_cons (ps_set (i := 3) c_span_of_branch.nd rfl (.inl rfl) (pe_callB (call_max2 rfl) (by rfl) T.max (by decide +kernel) (pa_cons (pv 3) (pa_cons (pe_ix ix_tup (pv 6) pe_int (fun _ _ => rfl)) pa_nil))))
        (pss_one (ps_set (i := 4) c_span_of_branch.nd rfl (.inl rfl) (pe_callH GS (hr.mono (by decide)) rfl (pa_cons (pv 4) (pa_cons (pe_ix ix_tup (pv 6) pe_int (fun _ _ => rfl)) pa_nil))))))))
      (pss_one (ps_ret (pe_tup (pa_cons (pv 3) (pa_cons (pv 4) pa_nil))))))), ?_⟩)
  · obtain ⟨v, u1, u2, b, h, l, rfl, _⟩ := h
    rfl
  · obtain ⟨v, u1, u2, b, h, l, rfl, hB, hV1, hV2, ho, hlen, hsl, q⟩ := h
    obtain ⟨ba, gv, mv, rfl, hB2, ⟨ga, gs, rfl, hG, hGA⟩, _⟩ := hB
    refine ⟨_, rfl, _, _, _, _, rfl, rfl, hB2, at0 _ _, ga, rfl, ⟨_, hG⟩, for_tup (K := K) (a := ga) (xs := gs) (fun i σ H' => ∃ x y : Option V, σ = [some (.ref ba), some u1, some u2, some (.int (Mth.spanG (b.guard.take i) (0, none) h l).1), some (oV (Mth.spanG (b.guard.take i) (0, none) h l).2), x, y] ∧ Same H H')
      ⟨none, none, rfl, Same.refl H⟩ (fun i σ H' _ ⟨_, _, _, s1⟩ => s1.tup hG) ?_ ?_⟩
    · rintro i x σ H1 hi ⟨x0, y0, rfl, s1⟩
      obtain ⟨t, ht, hT⟩ := hGA.get hi
      refine ⟨_, rfl, _, rfl, _, rfl, x, u1, u2, t, h, l, rfl, hT.same s1, hV1.same s1, hV2.same s1, ho t (List.mem_of_getElem? ht), hlen, hsl, fun H2 p s2 hp0 hp => ?_⟩
      refine ⟨_, rfl, _, rfl, _, _, _, _, rfl, rfl, SqT.of hp, at0 _ _, _, _, rfl, ?_⟩
      refine ⟨_, rfl, _, rfl, _, _, _, _, rfl, rfl, SqT.of hp, at1 _ _ _, (Mth.spanG (b.guard.take i) (0, none) h l).2, (Mth.spanT t h l).2, rfl, ?_⟩
      have htk : b.guard.take (i + 1) = b.guard.take i ++ [t] := by rw [List.take_add_one, ht]; rfl
      refine ⟨some x, some (.ref p), ?_, s1.trans s2⟩
      rw [htk, spanG_snoc]
      have e : ∀ a c : Nat, (if (c : Int) > (a : Int) then (c : Int) else (a : Int)) = ((max a c : Nat) : Int) := by
        intro a c
        by_cases hc : (c : Int) > (a : Int)
        · rw [if_pos hc, Nat.max_eq_right (by omega)]
        · rw [if_neg hc, Nat.max_eq_left (by omega)]
      rw [e]
      rfl
    · rintro σ H1 ⟨x0, y0, rfl, s1⟩
      rw [hGA.1, List.take_length]
      exact ⟨_, rfl, _, rfl, (by show 2 ≤ sizeLine; decide), fun p hp => q _ p (s1.trans (Same.new hp)) (s1.free hp) upd_same⟩

/-! ### first_miss -/
def spMiss (K : PySem.W.Frag) : Sp := fun vs H Q _ => ∃ (v u1 u2 : V) (l : Loop) (k : Nat) (h t : List Int), vs = [v, .int k, u1, u2] ∧ LoopAt K H v l ∧ LiAt H u1 h ∧ LiAt H u2 t ∧ Mth.OkLoop h.length l ∧ k < l.length ∧ t.length = h.length ∧ Slow h t ∧
  ∀ H', Same H H' → Q (oV (Mth.missOf l k h t)) H'
theorem has_miss (D : Ds K mg) (T : Txt K mg) : Has P w K mg base CX0 5 "first_miss" p_first_miss (spMiss K) := by
  have GB := has_spanB (P := P) (w := w) (base := base) D T
  have GS := has_sooner (P := P) (w := w) (base := base) D T
  refine D.first_miss.has fun f fd F => F.ok c_first_miss (fun vs H Q E h => ?_) (fun cdv A outer s H vs Q E hr h => ⟨_,
    pss_cons (ps_set (i := 4) c_first_miss.nd rfl (.inl rfl) (pe_ix ix_tup (pe_callH GB hr rfl (pa_cons (pe_ix ix_tup (pv 0) (pv 1) (fun _ _ => rfl)) (pa_cons (pv 2) (pa_cons (pv 3) pa_nil)))) pe_int (fun _ _ => rfl)))
      (pss_cons (ps_for PassesOwn.never rfl (pi_tup (pe_slice sl_tupA (pv 0) po_none (po_some (pv 1)))) (pg_name (i := 5) c_first_miss.nd rfl (.inl rfl))
        (pss_cons (ps_asg (pe_callH GB hr rfl (pa_cons (pv 5) (pa_cons (pv 2) (pa_cons (pv 3) pa_nil)))) (pg_tup rfl (pgs_cons (pg_name (i := 6) c_first_miss.nd rfl (.inl rfl)) (pgs_cons (pg_name (i := 7) c_first_miss.nd rfl (.inl rfl)) pgs_nil))))
        (pss_one (ps_if (PW.pt (pw_or (pt_cmpR op_isN (pv 7) pe_non (nomark _)) (pw_or1 (pt_cmpR op_lt (pv 6) (pv 7) (nomark _)))))
          (pss_one (ps_set (i := 4) c_first_miss.nd rfl (.inl rfl) (pe_callH GS (hr.mono (by decide)) rfl (pa_cons (pv 4) (pa_cons (pv 6) pa_nil))))) pss_nil))))
      (pss_one (ps_ret (pv 4)))), ?_⟩)
  · obtain ⟨v, u1, u2, l, k, h, t, rfl, _⟩ := h
    rfl
  · obtain ⟨v, u1, u2, l, k, h, t, rfl, hL, hV1, hV2, ok, hk, hlen, hsl, q⟩ := h
    obtain ⟨a, bs, rfl, hL2, hA⟩ := hL
    have hbk : l[k]? = some (branchAt l k) := by rw [List.getElem?_eq_getElem hk]; simp [branchAt, hk]
    obtain ⟨bv, hbv, hB⟩ := hA.get' hbk
    refine ⟨_, rfl, _, rfl, _, _, _, _, rfl, rfl, hL2, atI_nat hbv, _, rfl, _, rfl, _, u1, u2, branchAt l k, h, t, rfl, hB, hV1, hV2, (ok.all _ (Mth.branchAt_mem hk)).tests, hlen, hsl, fun H1 p s1 hp0 hp => ?_⟩
    refine ⟨_, _, _, _, rfl, rfl, SqT.of hp, at1 _ _ _, _, rfl, _, rfl, _, rfl, a, bs, rfl, s1.tup hL2, ?_, ?_⟩
    · rintro ⟨_, h2⟩
      exfalso
      rw [HT.sIx_nat, hA.1] at h2
      rw [Nat.min_eq_left (by omega)] at h2
      omega
    · rintro - p2 hp2
      have hcut : cutV bs none (some (k : Int)) = bs.take k := cut_to
      rw [hcut]
      have s2 : Same H (upd H1 p2 (.tup (bs.take k))) := s1.trans (Same.new hp2)
      have hAk : AllAt (BranchAt K H) (bs.take k) (l.take k) := by
        refine ⟨by rw [List.length_take, List.length_take, hA.1], fun i v x h1 h2 => ?_⟩
        rw [List.getElem?_take] at h1 h2
        split at h1
        · rename_i hik
          rw [if_pos hik] at h2
          exact hA.2 i v x h1 h2
        · cases h1
      have hq2 : (upd H1 p2 (.tup (bs.take k))) p2 = some (.tup (bs.take k)) := upd_same
      generalize upd H1 p2 (.tup (bs.take k)) = H2 at *
      refine ⟨p2, rfl, ⟨_, SqT.of hq2⟩, for_tup (K := K) (a := p2) (xs := bs.take k) (fun i σ H' => ∃ x y z : Option V, σ = [some (.ref a), some (.int k), some u1, some u2, some (oV (((l.take k).take i).foldl (Mth.missStep h t) (Mth.spanB (branchAt l k) h t).2)), x, y, z] ∧ Same H H' ∧ Same H2 H')
        ⟨none, none, none, rfl, s2, Same.refl _⟩ (fun i σ H' _ ⟨_, _, _, _, _, s1⟩ => s1.tup (SqT.of hq2)) ?_ ?_⟩
      · rintro i x σ H3 hi ⟨x0, y0, z0, rfl, s3, s23⟩
        obtain ⟨b, hb, hBr⟩ := hAk.get hi
        have hbm : b ∈ l := List.mem_of_mem_take (List.mem_of_getElem? hb)
        refine ⟨_, rfl, _, rfl, _, rfl, x, u1, u2, b, h, t, rfl, hBr.same s3, hV1.same s3, hV2.same s3, (ok.all _ hbm).tests, hlen, hsl, fun H4 p4 s4 _ hp4 => ?_⟩
        refine ⟨p4, _, rfl, SqT.of hp4, rfl, _, _, rfl, _, _, rfl, rfl, ?_⟩
        have htk : (l.take k).take (i + 1) = (l.take k).take i ++ [b] := by rw [List.take_add_one, hb]; rfl
        have step : ((l.take k).take (i + 1)).foldl (Mth.missStep h t) (Mth.spanB (branchAt l k) h t).2 = Mth.missStep h t (((l.take k).take i).foldl (Mth.missStep h t) (Mth.spanB (branchAt l k) h t).2) b := by
          rw [htk, List.foldl_append]; rfl
        generalize ((l.take k).take i).foldl (Mth.missStep h t) (Mth.spanB (branchAt l k) h t).2 = o at *
        rw [show Mth.missStep h t o b = (match (Mth.spanB b h t).2 with
          | none => Mth.soonerN o (some (Mth.spanB b h t).1)
          | some e => if (Mth.spanB b h t).1 < e then Mth.soonerN o (some (Mth.spanB b h t).1) else o) from rfl] at step
        refine ⟨_, rfl, rfl, _, rfl, ?_⟩
        cases he : (Mth.spanB b h t).2 with
        | none =>
          rw [he] at step
          refine if_true_of rfl ?_
          refine ⟨_, rfl, _, rfl, o, some (Mth.spanB b h t).1, rfl, ?_⟩
          refine ⟨some x, some (.int (Mth.spanB b h t).1), some .non, ?_, s3.trans s4, s23.trans s4⟩
          rw [step]
          rfl
        | some e =>
          rw [he] at step
          refine if_false_of rfl ⟨_, rfl, _, rfl, _, _, rfl, rfl, _, rfl, ?_⟩
          refine ite2 (fun c => ?_) (fun c => ?_)
          · have c : (Mth.spanB b h t).1 < e := by have := of_decide_eq_true c; omega
            refine ⟨_, rfl, _, rfl, o, some (Mth.spanB b h t).1, rfl, ?_⟩
            refine ⟨some x, some (.int (Mth.spanB b h t).1), some (.int e), ?_, s3.trans s4, s23.trans s4⟩
            rw [step]
            simp only
            rw [if_pos c]
            rfl
          · have c : ¬ (Mth.spanB b h t).1 < e := fun z => c (decide_eq_true (by omega))
            refine ⟨some x, some (.int (Mth.spanB b h t).1), some (.int e), ?_, s3.trans s4, s23.trans s4⟩
            rw [step]
            simp only
            rw [if_neg c]
            rfl
      · rintro σ H3 ⟨x0, y0, z0, rfl, s3, s23⟩
        rw [hAk.1, List.take_length]
        exact ⟨_, rfl, q H3 s3⟩
end LL
/-! P2e -/
namespace LL
open PySem PySem.Spec PyProof.Rows L2
open VaaclBase hiding Given Move Program Piece run
open Vaacld
variable {P : PySem.Program} {w : World} {K : PySem.W.Frag} {mg : Str → Option Value} {base : Heap}

/-! ### path_followed -/
/-- a path's values, each in a list of its own -/
def PathAt (H : Hp) (ks : List V) (l : Loop) (p : List Nat) (s : List Int) : Prop := ∀ (i : Nat) (v : V), ks[i]? = some v → LiAt H v (Mth.ahead l p s i)
theorem fmod_nat (a b : Nat) : ((a : Int)).fmod (b : Int) = ((a % b : Nat) : Int) := by
  rw [Int.fmod_eq_emod_of_nonneg _ (Int.natCast_nonneg b)]
  rfl
theorem nats_at {p : List Nat} {i : Nat} (h : i < p.length) : atI ((nats p).map V.int) ((i : Nat) : Int) = some (.int (p.getD i 0 : Nat)) := by
  apply at_ints'
  unfold nats
  rw [List.getElem?_map, List.getElem?_eq_getElem h, List.getD_eq_getElem?_getD, List.getElem?_eq_getElem h]
  rfl
theorem getD_mem {p : List Nat} {i : Nat} (h : i < p.length) : p.getD i 0 ∈ p := by
  rw [List.getD_eq_getElem?_getD, List.getElem?_eq_getElem h]
  exact List.getElem_mem h
structure OkPat (l : Loop) (p : List Nat) : Prop where
  lt : ∀ b ∈ p, b < l.length
  ne : p ≠ []
  few : p.length ≤ 3
def spPath (K : PySem.W.Frag) : Sp := fun vs H Q _ => ∃ (v pp u : V) (l : Loop) (p : List Nat) (s : List Int) (r : Nat), vs = [v, pp, u, .int r] ∧ LoopAt K H v l ∧ LiAt H pp (nats p) ∧ LiAt H u s ∧ Mth.OkLoop s.length l ∧ OkPat l p ∧ r ≤ 900 ∧
  ∀ H' q ks, Same H H' → H q = none → H' q = some (.lst ks) → PathAt H' ks l p s → (∀ i, i < ks.length → Mth.Gr l p s i) → ks.length ≤ r → (ks.length < r → ¬ Mth.Gr l p s ks.length) → Q (.ref q) H'
def wPath (v pp : V) (l : Loop) (p : List Nat) (s : List Int) (r : Nat) (H : Hp) (q : Addr) (m : Nat) (σ : L2.St) (H' : Hp) : Prop :=
  ∃ (ks : List V) (u : V) (x : Option V), m = r - ks.length ∧ ks.length ≤ r ∧ σ = [some v, some pp, some u, some (.int r), some (.ref q), x] ∧ Same H H' ∧ H' q = some (.lst ks) ∧ LiAt H' u (Mth.ahead l p s ks.length) ∧ u ≠ .ref q ∧
    PathAt H' ks l p s ∧ (∀ (i : Nat) (v : V), ks[i]? = some v → v ≠ .ref q) ∧ (∀ i, i < ks.length → Mth.Gr l p s i)
theorem has_path (D : Ds K mg) (T : Txt K mg) : Has P w K mg base CX0 4 "path_followed" p_path_followed (spPath K) := by
  have GC := has_chosen (P := P) (w := w) (base := base) D T
  have GM := has_moved (P := P) (w := w) (base := base) D T
  refine D.path_followed.has fun f fd F => F.ok c_path_followed (fun vs H Q E h => ?_) (fun cdv A outer s H vs Q E hr h => ⟨_,
    pss_cons (ps_set (i := 4) c_path_followed.nd rfl (.inl rfl) (pe_lst pa_nil))
      (pss_cons (ps_while PassesOwn.never (pt_cmpR op_lt (pe_callB call_len_seq (by rfl) T.len PySem.boot_len (pa_cons (pv 4) pa_nil)) (pv 3) (nomark _))
        (pss_cons (ps_set (i := 5) c_path_followed.nd rfl (.inl rfl) (pe_ix ix_list (pv 1) (pe_op op_modN (pe_callB call_len_seq (by rfl) T.len PySem.boot_len (pa_cons (pv 4) pa_nil)) (pe_callB call_len_seq (by rfl) T.len PySem.boot_len (pa_cons (pv 1) pa_nil))) (fun _ _ => rfl)))
        (pss_cons (ps_if (pt_cmpR op_ne (pe_callH GC hr rfl (pa_cons (pv 0) (pa_cons (pv 2) pa_nil))) (pv 5) (nomark _)) (pss_one ps_break) pss_nil)
        (pss_cons (ps_expr (pe_bm PySem.F.plainAttrs_list PySem.F.slot_list_append PySem.F.type_list_append mt_append (pv 4) (pa_cons (pv 2) pa_nil)))
        (pss_one (ps_set (i := 2) c_path_followed.nd rfl (.inl rfl) (pe_callH GM (hr.mono (by decide)) rfl (pa_cons (pe_ix ix_tup (pe_ix ix_tup (pv 0) (pv 5) (fun _ _ => rfl)) pe_int (fun _ _ => rfl)) (pa_cons (pv 2) pa_nil)))))))))
      (pss_one (ps_ret (pv 4)))), ?_⟩)
  · obtain ⟨v, pp, u, l, p, s, r, rfl, _⟩ := h
    rfl
  · obtain ⟨v, pp, u, l, p, s, r, rfl, hL, hP, hV, ok, op, hr9, q⟩ := h
    have hpos : 0 < p.length := List.length_pos_iff.2 op.ne
    refine ⟨(by show 0 ≤ sizeLine; exact Nat.zero_le _), fun qa hqa => ?_⟩
    have s0 : Same H (upd H qa (.lst [])) := Same.new hqa
    refine ⟨wPath v pp l p s r H qa, ⟨r, [], u, none, rfl, Nat.zero_le _, rfl, s0, upd_same, hV.same s0, hV.ne hqa, fun i v h => by simp at h, fun i v h => by simp at h, fun i h => absurd h (Nat.not_lt_zero i)⟩, ?_⟩
    rintro m σ H2 ⟨ks, u2, x, rfl, hk, rfl, s2, hq2, hV2, hup, hpath, hpne, hall⟩
    have hL2 := hL.same s2
    have hal : (Mth.ahead l p s ks.length).length = s.length := Mth.ahead_length ok op.lt op.ne rfl _
    have ok2 : Mth.OkLoop (Mth.ahead l p s ks.length).length l := by rw [hal]; exact ok
    refine ⟨_, rfl, qa, _, rfl, .inl (SqL.of hq2), _, rfl, _, _, rfl, rfl, _, rfl, ?_⟩
    refine ite2 (fun c => ?_) (fun c => ?_)
    · have hkn : ks.length < r := by simpa using c
      refine ⟨fun σ' H' => ∃ m', m' < r - ks.length ∧ wPath v pp l p s r H qa m' σ' H', fun _ _ h => h, ?_⟩
      obtain ⟨ppa, rfl, hP0⟩ := hP
      have hP2 := s2 _ _ hP0
      have hi : ks.length % p.length < p.length := Nat.mod_lt _ hpos
      refine ⟨_, rfl, _, rfl, qa, _, rfl, .inl (SqL.of hq2), _, rfl, ppa, _, rfl, .inl (SqL.of hP2), _, _, rfl, rfl, (by rw [natsV_length]; omega), ?_⟩
      refine ⟨_, _, ((ks.length % p.length : Nat) : Int), _, rfl, (by show V.int (Int.fmod (ks.length : Int) (((nats p).map V.int).length : Int)) = V.int _; rw [natsV_length, fmod_nat]), SqL.of hP2, nats_at hi, ?_⟩
      refine ⟨_, rfl, _, rfl, v, u2, l, _, rfl, hL2, hV2, ok2, fun H3 s3 => ?_⟩
      have s23 := s2.trans s3
      have hq3 := s3 _ _ hq2
      refine ⟨_, rfl, ?_, _, rfl, ?_⟩
      · cases chosen l (Mth.ahead l p s ks.length) <;> rfl
      refine ite2 (fun c2 => ?_) (fun c2 => ?_)
      · have hng : ¬ Mth.Gr l p s ks.length := by
          intro hg
          unfold Mth.Gr at hg
          rw [hg] at c2
          simp [oV] at c2
        exact ⟨_, rfl, q H3 qa ks s23 hqa hq3 (fun i v h => (hpath i v h).same s3) hall hk (fun _ => hng)⟩
      · have hg : Mth.Gr l p s ks.length := by
          unfold Mth.Gr
          cases hc : chosen l (Mth.ahead l p s ks.length) with
          | none => rw [hc] at c2; simp [oV] at c2
          | some b =>
            rw [hc] at c2
            have : (V.int (b : Int)) = V.int ((p.getD (ks.length % p.length) 0 : Nat) : Int) := by
              apply Classical.byContradiction
              intro hne
              apply c2
              rw [show oV (some b) = V.int (b : Int) from rfl, decide_eq_false hne]
              rfl
            have := V.int.inj this
            congr 1
            omega
        have hb : p.getD (ks.length % p.length) 0 < l.length := op.lt _ (getD_mem hi)
        refine ⟨_, rfl, .inl ⟨rfl, _, .inl (.inl hq3)⟩, _, rfl, qa, _, _, rfl, rfl, hq3, small1000 (by omega), ?_⟩
        have s4 : Same H (upd H3 qa (.lst (ks ++ [u2]))) := s23.updNew hqa
        obtain ⟨a, bs, qb, g, mv, rfl, hL3, hbv, hB3, _, hM3⟩ := (hL.same s4).branch hb
        obtain ⟨hsrc, hml⟩ := move_ok ok2 hb (s := Mth.ahead l p s ks.length) rfl
        refine ⟨_, rfl, _, rfl, _, _, _, _, rfl, rfl, hL3, atI_nat hbv, _, _, _, _, rfl, rfl, hB3, at1 _ _ _, _, rfl, _, _, _, _, rfl, hM3, (hV2.same s3).upd hup, hsrc, hml, fun H4 p4 s5 hp0 hp4 => ?_⟩
        have hlen : (ks ++ [u2]).length = ks.length + 1 := by simp
        refine ⟨r - (ks.length + 1), by omega, ks ++ [u2], .ref p4, some (.int ((p.getD (ks.length % p.length) 0 : Nat) : Int)), by rw [hlen], by rw [hlen]; exact hkn, rfl, s4.trans s5, s5 _ _ upd_same, ?_, ref_ne hp0 upd_same, ?_, ?_, ?_⟩
        · rw [hlen]; exact ⟨p4, rfl, hp4⟩
        · intro i v' h
          by_cases hik : i < ks.length
          · rw [List.getElem?_append_left hik] at h
            exact (((hpath i v' h).same s3).upd (hpne i v' h)).same s5
          · have : i = ks.length := by
              have := (List.getElem?_eq_some_iff.mp h).1
              rw [hlen] at this
              omega
            subst this
            rw [List.getElem?_append_right (Nat.le_refl _)] at h
            simp at h
            subst h
            exact ((hV2.same s3).upd hup).same s5
        · intro i v' h
          by_cases hik : i < ks.length
          · rw [List.getElem?_append_left hik] at h
            exact hpne i v' h
          · have : i = ks.length := by
              have := (List.getElem?_eq_some_iff.mp h).1
              rw [hlen] at this
              omega
            subst this
            rw [List.getElem?_append_right (Nat.le_refl _)] at h
            simp at h
            subst h
            exact hup
        · intro i h
          rw [hlen] at h
          by_cases hik : i < ks.length
          · exact hall i hik
          · have : i = ks.length := by omega
            subst this
            exact hg
    · have hkn : ¬ ks.length < r := by simpa using c
      exact ⟨_, rfl, q H2 qa ks s2 hqa hq2 hpath hall hk (fun h => absurd h hkn)⟩
end LL
/-! P2f -/
namespace LL
open PySem PySem.Spec PyProof.Rows L2
open VaaclBase hiding Given Move Program Piece run
open Vaacld
variable {P : PySem.Program} {w : World} {K : PySem.W.Frag} {mg : Str → Option Value} {base : Heap}

/-- [f(x, y) for x, y in zip(xs, ys)], of ints -/
theorem tLc_zipI {wi : TI} {te : TE} {σ : L2.St} {H H1 : Hp} {Q : VK} {a b : Addr} {xs ys : List Int} {i j : Nat} (f : Int → Int → Int)
    (hwi : ∀ R : It → Hp → Prop, R (Itz K a b) H1 → wi σ H R) (ha : H1 a = some (.lst (xs.map V.int))) (hb : H1 b = some (.lst (ys.map V.int))) (hl : xs.length = ys.length) (hz : xs.length ≤ 1000)
    (hw : ∀ x y : Int, wipe (((wipe σ [i, j]).set i (some (V.int x))).set j (some (V.int y))) [i, j] = wipe σ [i, j])
    (hte : ∀ (x y : Int) (H' : Hp) (R : VK), R (.int (f x y)) H' → te (((wipe σ [i, j]).set i (some (V.int x))).set j (some (V.int y))) H' R)
    (hQ : ∀ H' D, Same H1 H' → H1 D = none → H' D = some (.lst (((xs.zip ys).map fun z => f z.1 z.2).map V.int)) → Q (.ref D) H') :
    tLc wi (gTup K 2 (gCons (gName i) (gCons (gName j) gNil))) tYes te [i, j] σ H Q := by
  refine hwi _ (fun D hD => lc_it (walk_zip (K := K) (a := a) (b := b) (xs := xs.map V.int) (ys := ys.map V.int) rfl) (fun k H' => Same H1 H' ∧ H' D = some (.lst ((((xs.zip ys).take k).map fun z => f z.1 z.2).map V.int)))
    ⟨Same.new hD, upd_same⟩ (fun k H' _ p => ⟨p.1.seq (SqL.of ha), p.1.seq (SqL.of hb)⟩) ?_ ?_)
  · rintro k v H2 H3 hk ⟨s2, h2⟩ ⟨T, x, y, rfl, hT, rfl, hx, hy⟩
    have hx : (xs.map V.int)[k]? = some x := hx
    have hy : (ys.map V.int)[k]? = some y := hy
    rw [List.getElem?_map] at hx hy
    cases ex : xs[k]? with
    | none => rw [ex] at hx; cases hx
    | some x' =>
      cases ey : ys[k]? with
      | none => rw [ey] at hy; cases hy
      | some y' =>
        rw [ex] at hx
        rw [ey] at hy
        obtain rfl : V.int x' = x := Option.some.inj hx
        obtain rfl : V.int y' = y := Option.some.inj hy
        refine ⟨T, _, rfl, SqT.of upd_same, rfl, _, _, rfl, _, _, rfl, rfl, hw x' y', hte x' y' _ _ ?_⟩
        have ezk : (xs.zip ys)[k]? = some (x', y') := by
          rw [List.getElem?_zip_eq_some]; exact ⟨ex, ey⟩
        refine ⟨_, Same.new hT _ _ h2, ?_, ?_, ?_⟩
        · rw [List.length_map, List.length_map, List.length_take, List.length_zip]
          exact small1000 (by omega)
        · exact (s2.trans (Same.new hT)).updNew hD
        · rw [upd_same, List.take_add_one, ezk]
          simp
  · rintro H2 ⟨s2, h2⟩
    refine hQ H2 D s2 hD ?_
    rw [h2]
    congr 4
    apply List.take_of_length_le
    simp

/-! ### turn_growths -/
theorem rings_at {n : Nat} (h1 : 1 ≤ n) (h4 : n ≤ 4) : atI (([1, 1, 2, 6, 12] : List Int).map V.int) (n : Int) = some (.int (Mth.ring n : Nat)) := by
  apply at_ints'
  have : n = 1 ∨ n = 2 ∨ n = 3 ∨ n = 4 := by omega
  rcases this with rfl | rfl | rfl | rfl <;> rfl
theorem ring_le (n : Nat) : Mth.ring n ≤ 12 := Nat.le_of_dvd (by decide) (Mth.ring_dvd n)
def spGrow : Sp := fun vs H Q _ => ∃ (q : Addr) (l : Loop) (p : List Nat) (s : List Int) (ks : List V), vs = [.ref q, .int (p.length : Nat), .int (s.length : Nat)] ∧ H q = some (.lst ks) ∧ PathAt H ks l p s ∧ Mth.OkLoop s.length l ∧ OkPat l p ∧
  (s.length + Mth.ring s.length + 1) * p.length ≤ ks.length ∧
  ∀ H' g gs, Same H H' → H g = none → H' g = some (.lst gs) → gs.length = p.length → (∀ (i : Nat) (v : V), gs[i]? = some v → LiAt H' v (Mth.growAt l p s s.length i)) → Q (.ref g) H'
theorem has_grow (D : Ds K mg) (T : Txt K mg) : Has P w K mg base CX0 1 "turn_growths" p_turn_growths spGrow := by
  obtain ⟨aR, gR, sR⟩ := T.RINGS
  refine D.turn_growths.has fun f fd F => F.ok c_turn_growths (fun vs H Q E h => ?_) (fun cdv A outer s H vs Q E hr h => ⟨_,
    pss_cons (ps_set (i := 3) c_turn_growths.nd rfl (.inl rfl) (pe_op op_mul (pv 2) (pv 1)))
      (pss_cons (ps_set (i := 4) c_turn_growths.nd rfl (.inl rfl) (pe_op op_mul (pe_ix ix_tup (pe_glob (v := .ref aR) rfl gR rfl) (pv 2) (fun _ _ => rfl)) (pv 1)))
      (pss_cons (ps_set (i := 5) c_turn_growths.nd rfl (.inl rfl) (pe_lst pa_nil))
      (pss_cons (ps_for PassesOwn.never rfl (pi_range2 (by rfl) T.range (pa_cons (pv 3) (pa_cons (pe_op op_add (pv 3) (pv 1)) pa_nil))) (pg_name (i := 6) c_turn_growths.nd rfl (.inl rfl))
        (pss_cons (ps_set (i := 7) c_turn_growths.nd rfl (.inl rfl) (pe_ix ix_list (pv 0) (pe_op op_add (pv 6) (pv 4)) (fun _ _ => rfl)))
        (pss_one (ps_expr (pe_bm PySem.F.plainAttrs_list PySem.F.slot_list_append PySem.F.type_list_append mt_append (pv 5) (pa_cons
          (pe_lc (own := [("here", 8), ("later", 9)]) (g := gTup K 2 (gCons (gName 8) (gCons (gName 9) gNil))) (tt := tYes) rfl c_turn_growths.nd (pi_zip (by rfl) T.zip (pa_cons (pe_ix ix_list (pv 0) (pv 6) (fun _ _ => rfl)) (pa_cons (pv 7) pa_nil)))
            (blkOk_by (N := n_turn_growths) (sc := defScope s_turn_growths) (by decide +kernel))
            (fun _ _ _ _ _ => pg_tup rfl (pgs_cons (pg_name (i := 8) c_turn_growths.nd rfl (Or.inl rfl)) (pgs_cons (pg_name (i := 9) c_turn_growths.nd rfl (Or.inl rfl)) pgs_nil))) (fun _ _ _ _ _ => pts_nil)
            (fun _ _ _ _ _ => pe_op op_mul (pe_op op_sub (pv 9) (pv 8)) (pe_gi rfl T.REMAINDERS))) pa_nil))))))
      (pss_one (ps_ret (pv 5)))))), ?_⟩)
  · obtain ⟨q, l, p, s, ks, rfl, _⟩ := h
    rfl
  · obtain ⟨qa, l, p, s, ks, rfl, hq, hpath, ok, op, hks, q⟩ := h
    have hpos : 0 < p.length := List.length_pos_iff.2 op.ne
    have h3 := op.few
    have hn1 := ok.low
    have hn4 := ok.high
    have hr12 := ring_le s.length
    have h64 : (2 : Int) ^ 64 = 18446744073709551616 := by decide
    have h62 : (2 : Int) ^ 62 = 4611686018427387904 := by decide
    refine ⟨_, rfl, _, rfl, _, _, rfl, rfl, .inl (by rw [h64]; omega), _, rfl, _, _, _, _, rfl, rfl, sR _, rings_at hn1 hn4, _, rfl, _, _, rfl, rfl, .inl (by rw [h64]; omega), ?_⟩
    refine ⟨(by show 0 ≤ sizeLine; exact Nat.zero_le _), fun g hg => ?_⟩
    refine ⟨_, rfl, _, rfl, _, rfl, _, _, rfl, rfl, _, _, rfl, ?_⟩
    have hnm : s.length * p.length ≤ 4 * 3 := Nat.mul_le_mul hn4 h3
    have hnmc : ((s.length : Int)) * (p.length : Int) = ((s.length * p.length : Nat) : Int) := by rw [Int.natCast_mul]
    have hrm : Mth.ring s.length * p.length ≤ 12 * 3 := Nat.mul_le_mul hr12 h3
    have hrmc : ((Mth.ring s.length : Nat) : Int) * (p.length : Int) = ((Mth.ring s.length * p.length : Nat) : Int) := by rw [Int.natCast_mul]
    rw [Nat.add_mul, Nat.add_mul, Nat.one_mul] at hks
    have htn : (((s.length : Int)) * (p.length : Int) + (p.length : Int) - ((s.length : Int)) * (p.length : Int)).toNat = p.length := by omega
    refine ⟨by rw [h62, hnmc]; omega, ?_⟩
    refine for_range (lo := ((s.length : Int)) * (p.length : Int)) (n := (((s.length : Int)) * (p.length : Int) + (p.length : Int) - ((s.length : Int)) * (p.length : Int)).toNat)
      (fun i σ H' => ∃ (gs : List V) (x y : Option V), σ = [some (.ref qa), some (.int (p.length : Nat)), some (.int (s.length : Nat)), some (.int (((s.length : Int)) * (p.length : Int))), some (.int (((Mth.ring s.length : Nat) : Int) * (p.length : Int))), some (.ref g), x, y, none, none] ∧
        Same H H' ∧ H' g = some (.lst gs) ∧ gs.length = i ∧ (∀ (i : Nat) (v : V), gs[i]? = some v → LiAt H' v (Mth.growAt l p s s.length i)) ∧ ∀ (i : Nat) (v : V), gs[i]? = some v → v ≠ .ref g)
      ⟨[], none, none, rfl, Same.new hg, upd_same, rfl, fun i v h => by simp at h, fun i v h => by simp at h⟩ ?_ ?_
    · rintro i σ H2 hi ⟨gs, x0, y0, rfl, s2, hg2, hgl, hgr, hgn⟩
      rw [htn] at hi
      have hq2 := s2 _ _ hq
      have hj1 : s.length * p.length + i < ks.length := by omega
      have hj2 : s.length * p.length + i + Mth.ring s.length * p.length < ks.length := by omega
      obtain ⟨v1, hv1⟩ : ∃ v, ks[s.length * p.length + i]? = some v := ⟨_, List.getElem?_eq_getElem hj1⟩
      obtain ⟨v2, hv2⟩ : ∃ v, ks[s.length * p.length + i + Mth.ring s.length * p.length]? = some v := ⟨_, List.getElem?_eq_getElem hj2⟩
      obtain ⟨a1, rfl, h1⟩ := (hpath _ _ hv1).same s2
      obtain ⟨a2, rfl, h2⟩ := (hpath _ _ hv2).same s2
      have hal := fun i => Mth.ahead_length ok op.lt op.ne (s := s) rfl i
      refine ⟨_, rfl, _, rfl, _, rfl, _, _, rfl, rfl, qa, _, _, _, rfl, rfl, SqL.of hq2, at_of (j := s.length * p.length + i + Mth.ring s.length * p.length) (by rw [hnmc, hrmc]; omega) hv2, ?_⟩
      refine ⟨_, rfl, .inl ⟨rfl, _, .inl (.inl hg2)⟩, ?_⟩
      refine tLc_zipI (H1 := H2) (a := a1) (b := a2) (xs := Mth.ahead l p s (s.length * p.length + i)) (ys := Mth.ahead l p s (s.length * p.length + i + Mth.ring s.length * p.length)) (fun x y => (y - x) * 12)
        (fun R r => ⟨_, rfl, _, rfl, qa, _, _, _, rfl, rfl, SqL.of hq2, at_of (j := s.length * p.length + i) (by rw [hnmc]; omega) hv1, _, rfl, a1, a2, _, _, rfl, SqL.of h1, SqL.of h2, r⟩) h1 h2 (by rw [hal, hal]) (by rw [hal]; omega) (fun x y => rfl)
        (fun x y H' R r => ⟨_, rfl, _, rfl, _, _, rfl, rfl, _, _, rfl, rfl, .inr ⟨by decide, by decide⟩, r⟩) (fun H3 D s3 hD0 hD => ?_)
      have hg3 := s3 _ _ hg2
      refine ⟨g, _, _, rfl, rfl, hg3, small1000 (by omega), ?_⟩
      refine ⟨gs ++ [.ref D], some (.int (((s.length : Int)) * (p.length : Int) + (i : Int))), some (.ref a2), rfl, (s2.trans s3).updNew hg, upd_same, by simp [hgl], ?_, ?_⟩
      · intro k v hv
        by_cases hki : k < gs.length
        · rw [List.getElem?_append_left hki] at hv
          exact ((hgr k v hv).same s3).upd (hgn k v hv)
        · have : k = gs.length := by
            have := (List.getElem?_eq_some_iff.mp hv).1
            simp at this
            omega
          subst this
          rw [List.getElem?_append_right (Nat.le_refl _)] at hv
          simp at hv
          subst hv
          refine LiAt.upd ⟨D, rfl, ?_⟩ (ref_ne hD0 hg2)
          rw [hD, hgl]
          rfl
      · intro k v hv
        by_cases hki : k < gs.length
        · rw [List.getElem?_append_left hki] at hv
          exact hgn k v hv
        · have : k = gs.length := by
            have := (List.getElem?_eq_some_iff.mp hv).1
            simp at this
            omega
          subst this
          rw [List.getElem?_append_right (Nat.le_refl _)] at hv
          simp at hv
          subst hv
          exact ref_ne hD0 hg2
    · rintro σ H2 ⟨gs, x0, y0, rfl, s2, hg2, hgl, hgr, hgn⟩
      exact ⟨_, rfl, q H2 g gs s2 hg hg2 (by rw [hgl, htn]) hgr⟩
end LL
/-! P2g -/
namespace LL
open PySem PySem.Spec PyProof.Rows L2
open VaaclBase hiding Given Move Program Piece run
open Vaacld
variable {P : PySem.Program} {w : World} {K : PySem.W.Frag} {mg : Str → Option Value} {base : Heap}

/-! ### growths are small -/
theorem zeros_bd (n : Nat) : Mth.Bd 0 (List.replicate n 0) := by
  intro i
  have : VaaclBase.valueAt (List.replicate n 0) i = 0 := by
    unfold VaaclBase.valueAt
    rw [List.getElem?_replicate]
    split <;> rfl
  omega
theorem growth_bd {n : Nat} {l : Loop} {p : List Nat} (ok : Mth.OkLoop n l) (op : OkPat l p) : Mth.Bd 8000 (Mth.growth n (wholeMove l n p)) := by
  have hW := Mth.OkMove.whole ok op.lt
  have h := Mth.it_ring ok.low ok.high hW (s := List.replicate n 0) (by simp)
  have b1 := Mth.Bd.it ok op.lt op.few (n + Mth.ring n) (s := List.replicate n 0) (by simp) (zeros_bd n)
  have b2 := Mth.Bd.it ok op.lt op.few n (s := List.replicate n 0) (by simp) (zeros_bd n)
  have hl : (Mth.it (wholeMove l n p) n (List.replicate n 0)).length = (Mth.growth n (wholeMove l n p)).length := by
    rw [Mth.it_length (by rw [hW.len]; simp), Mth.growth_length hW.len]
    simp
  have h12 := ring_le n
  have h4 := ok.high
  intro i
  have e := congrArg (fun x => VaaclBase.valueAt x i) h
  have e : VaaclBase.valueAt (Mth.it (wholeMove l n p) (n + Mth.ring n) (List.replicate n 0)) i = VaaclBase.valueAt (Mth.it (wholeMove l n p) n (List.replicate n 0)) i + 1 * VaaclBase.valueAt (Mth.growth n (wholeMove l n p)) i :=
    e.trans (Mth.valueAt_plus hl i)
  have h1 := b1 i
  have h2 := b2 i
  omega
theorem lin_bd {B : Int} {d : List Int} (h : Mth.Bd B d) (m : Mv) : Mth.Bd B (Mth.lin m d) := by
  intro i
  have hB := h.nonneg
  by_cases hi : i < m.length
  · have e : VaaclBase.valueAt (Mth.lin m d) i = ((m[i]).source.map (VaaclBase.valueAt d)).getD 0 := by
      simp [Mth.lin, VaaclBase.valueAt, hi]
    rw [e]
    cases (m[i]).source with
    | none => simp; omega
    | some j => exact h j
  · rw [Mth.valueAt_ge (by rw [Mth.lin_length]; omega)]
    omega
theorem slow_ahead {l : Loop} {p : List Nat} {s : List Int} (ok : Mth.OkLoop s.length l) (op : OkPat l p) (place : Nat) {i : Nat} (hi : i < p.length) :
    Slow (Mth.ahead l p s place) (Mth.sumOf (Mth.ahead l p s place) (Mth.growAt l p s s.length i)) := by
  intro k
  rw [Mth.growAt_eq ok op.lt op.ne rfl hi, Mth.sumOf_plus]
  have hll : (Mth.ahead l p s place).length = (Mth.times 12 (Mth.lin (wholeMove l s.length (p.take i)) (Mth.growth s.length (wholeMove l s.length p)))).length := by
    rw [Mth.ahead_length ok op.lt op.ne rfl, Mth.times_length, Mth.lin_length, (Mth.OkMove.whole ok (fun b hb => op.lt b (List.mem_of_mem_take hb))).len]
  rw [Mth.valueAt_plus hll, Mth.valueAt_times]
  have := lin_bd (growth_bd ok op) (wholeMove l s.length (p.take i)) k
  omega
theorem growAt_length {l : Loop} {p : List Nat} {s : List Int} (ok : Mth.OkLoop s.length l) (op : OkPat l p) (i : Nat) : (Mth.growAt l p s s.length i).length = s.length := by
  unfold Mth.growAt
  rw [List.length_map, List.length_zip, Mth.ahead_length ok op.lt op.ne rfl, Mth.ahead_length ok op.lt op.ne rfl, Nat.min_self]
theorem sumOf_length {a b : List Int} (h : a.length = b.length) : (Mth.sumOf a b).length = a.length := by
  unfold Mth.sumOf
  rw [List.length_map, List.length_zip, h, Nat.min_self]
theorem fdiv_nat (a b : Nat) : ((a : Int)).fdiv (b : Int) = ((a / b : Nat) : Int) := by
  rw [Int.fdiv_eq_ediv_of_nonneg _ (Int.natCast_nonneg b)]
  rfl

/-! ### times_done -/
def spTimes (K : PySem.W.Frag) : Sp := fun vs H Q _ => ∃ (v pp u : V) (l : Loop) (p : List Nat) (s : List Int), vs = [v, pp, u] ∧ LoopAt K H v l ∧ LiAt H pp (nats p) ∧ LiAt H u s ∧ Mth.OkLoop s.length l ∧ OkPat l p ∧
  ∀ H', Same H H' → Q (oV (timesOf l p s)) H'
theorem has_times (D : Ds K mg) (T : Txt K mg) : Has P w K mg base CX0 6 "times_done" p_times_done (spTimes K) := by
  have GP := has_path (P := P) (w := w) (base := base) D T
  have GG := has_grow (P := P) (w := w) (base := base) D T
  have GM := has_miss (P := P) (w := w) (base := base) D T
  have GS := has_sooner (P := P) (w := w) (base := base) D T
  obtain ⟨aR, gR, sR⟩ := T.RINGS
  refine D.times_done.has fun f fd F => F.ok c_times_done (fun vs H Q E h => ?_) (fun cdv A outer s H vs Q E hr h => ⟨_,
    pss_cons (ps_set (i := 3) c_times_done.nd rfl (.inl rfl) (pe_callB call_len_seq (by rfl) T.len PySem.boot_len (pa_cons (pv 1) pa_nil)))
      (pss_cons (ps_set (i := 4) c_times_done.nd rfl (.inl rfl) (pe_callB call_len_seq (by rfl) T.len PySem.boot_len (pa_cons (pv 2) pa_nil)))
      (pss_cons (ps_set (i := 5) c_times_done.nd rfl (.inl rfl) (pe_op op_mul (pe_ix ix_tup (pe_glob (v := .ref aR) rfl gR rfl) (pv 4) (fun _ _ => rfl)) (pe_gi rfl T.REMAINDERS)))
      (pss_cons (ps_set (i := 6) c_times_done.nd rfl (.inl rfl) (pe_callH GP (hr.mono (by decide)) rfl (pa_cons (pv 0) (pa_cons (pv 1) (pa_cons (pv 2) (pa_cons (pe_op op_mul (pe_op op_add (pv 4) (pv 5)) (pv 3)) pa_nil))))))
      (pss_cons (ps_if (pt_cmpR op_lt (pe_callB call_len_seq (by rfl) T.len PySem.boot_len (pa_cons (pv 6) pa_nil)) (pe_op op_mul (pe_op op_add (pv 4) (pv 5)) (pv 3)) (nomark _))
        (pss_one (ps_ret (pe_op op_fdivN (pe_callB call_len_seq (by rfl) T.len PySem.boot_len (pa_cons (pv 6) pa_nil)) (pv 3)))) pss_nil)
      (pss_cons (ps_set (i := 7) c_times_done.nd rfl (.inl rfl) (pe_callH GG (hr.mono (by decide)) rfl (pa_cons (pv 6) (pa_cons (pv 3) (pa_cons (pv 4) pa_nil)))))
      (pss_cons (ps_set (i := 8) c_times_done.nd rfl (.inl rfl) pe_non)
      (pss_cons (ps_for PassesOwn.never rfl (pi_range2 (by rfl) T.range (pa_cons (pe_op op_mul (pv 4) (pv 3)) (pa_cons (pe_callB call_len_seq (by rfl) T.len PySem.boot_len (pa_cons (pv 6) pa_nil)) pa_nil))) (pg_name (i := 9) c_times_done.nd rfl (.inl rfl))
        (pss_cons (ps_set (i := 10) c_times_done.nd rfl (.inl rfl) (pe_ix ix_list (pv 6) (pv 9) (fun _ _ => rfl)))
        (pss_cons (ps_setLc (i := 11) (own := [("value", 13), ("growth", 14)]) (g := gTup K 2 (gCons (gName 13) (gCons (gName 14) gNil))) (tt := tYes) rfl c_times_done.nd rfl rfl (sw_true rfl rfl rfl (by decide +kernel))
            (pi_zip (by rfl) T.zip (pa_cons (pv 10) (pa_cons (pe_ix ix_list (pv 7) (pe_op op_modN (pv 9) (pv 3)) (fun _ _ => rfl)) pa_nil)))
            (blkOk_by (N := n_times_done) (sc := defScope s_times_done) (by decide +kernel))
            (fun _ _ _ _ _ => pg_tup rfl (pgs_cons (pg_name (i := 13) c_times_done.nd rfl (Or.inl rfl)) (pgs_cons (pg_name (i := 14) c_times_done.nd rfl (Or.inl rfl)) pgs_nil))) (fun _ _ _ _ _ => pts_nil)
            (fun _ _ _ _ _ => pe_op op_add (pv 13) (pv 14)))
        (pss_cons (ps_set (i := 12) c_times_done.nd rfl (.inl rfl) (pe_callH GM hr rfl (pa_cons (pv 0) (pa_cons (pe_ix ix_list (pv 1) (pe_op op_modN (pv 9) (pv 3)) (fun _ _ => rfl)) (pa_cons (pv 10) (pa_cons (pv 11) pa_nil))))))
        (pss_one (ps_if (pt_cmpR op_notN (pv 12) pe_non (nomark _))
          (pss_one (ps_set (i := 8) c_times_done.nd rfl (.inl rfl) (pe_callH GS (hr.mono (by decide)) rfl (pa_cons (pv 8) (pa_cons (pe_op op_add (pe_op op_fdivN (pv 9) (pv 3)) (pe_op op_mul (pv 5) (pv 12))) pa_nil))))) pss_nil))))))
      (pss_one (ps_ret (pv 8)))))))))), ?_⟩)
  · obtain ⟨v, pp, u, l, p, s, rfl, _⟩ := h
    rfl
  · obtain ⟨v, pp, u, l, p, s, rfl, hL, hP, hV, ok, op, q⟩ := h
    have hpos : 0 < p.length := List.length_pos_iff.2 op.ne
    have h3 := op.few
    have hn1 := ok.low
    have hn4 := ok.high
    have hr12 := ring_le s.length
    have h64 : (2 : Int) ^ 64 = 18446744073709551616 := by decide
    have h62 : (2 : Int) ^ 62 = 4611686018427387904 := by decide
    obtain ⟨ppa, rfl, hP0⟩ := hP
    obtain ⟨ua, rfl, hV0⟩ := hV
    refine ⟨_, rfl, ppa, _, rfl, .inl (SqL.of hP0), _, rfl, ua, _, rfl, .inl (SqL.of hV0), ?_⟩
    rw [natsV_length, List.length_map]
    refine ⟨_, rfl, _, _, _, _, rfl, rfl, sR _, rings_at hn1 hn4, _, _, rfl, rfl, .inl (by rw [h64]; omega), ?_⟩
    have htd : Mth.turnOf s.length = Mth.ring s.length * 12 := rfl
    have htc : ((Mth.ring s.length : Nat) : Int) * 12 = ((Mth.turnOf s.length : Nat) : Int) := by rw [htd, Int.natCast_mul]; rfl
    have ht : Mth.turnOf s.length ≤ 144 := by omega
    have hrc : (((s.length : Int)) + (Mth.turnOf s.length : Nat)) * (p.length : Int) = (((s.length + Mth.turnOf s.length) * p.length : Nat) : Int) := by rw [Int.natCast_mul, Int.natCast_add]
    have hr9 : (s.length + Mth.turnOf s.length) * p.length ≤ 148 * 3 := Nat.mul_le_mul (by omega) h3
    have htm : Mth.turnOf s.length * p.length ≤ 144 * 3 := Nat.mul_le_mul ht h3
    have hnm : s.length * p.length ≤ 4 * 3 := Nat.mul_le_mul hn4 h3
    have hnmc : ((s.length : Int)) * (p.length : Int) = ((s.length * p.length : Nat) : Int) := by rw [Int.natCast_mul]
    refine ⟨_, rfl, _, rfl, _, rfl, _, rfl, _, rfl, _, _, rfl, rfl, _, rfl, _, _, rfl, rfl, .inl (by rw [h64]; omega), v, .ref ppa, .ref ua, l, p, s, (s.length + Mth.turnOf s.length) * p.length,
      (by show [_, _, _, V.int _] = [_, _, _, V.int _]; rw [htc, hrc]), hL, ⟨ppa, rfl, hP0⟩, ⟨ua, rfl, hV0⟩, ok, op, by omega, fun H1 qa ks s1 hq0 hq hpath hall hkr hmiss => ?_⟩
    refine ⟨_, rfl, qa, _, rfl, .inl (SqL.of hq), _, rfl, _, rfl, _, _, rfl, rfl, _, rfl, _, _, rfl, rfl, .inl (by rw [h64]; omega), _, _, rfl, rfl, _, rfl, ?_⟩
    refine ite2 (fun c => ?_) (fun c => ?_)
    · have c : ks.length < (s.length + Mth.turnOf s.length) * p.length := by
        have c : (ks.length : Int) < ((s.length : Int) + ((Mth.ring s.length : Nat) : Int) * 12) * (p.length : Int) := of_decide_eq_true c
        rw [htc, hrc] at c
        omega
      refine ⟨_, rfl, qa, _, rfl, .inl (SqL.of hq), _, rfl, _, _, rfl, rfl, ⟨by omega, by omega⟩, ?_⟩
      have e := Mth.times_short ok op.lt op.ne rfl hall (hmiss c)
      have h := q H1 s1
      rw [← e] at h
      show Q (V.int (Int.fdiv (ks.length : Int) (p.length : Int))) H1
      rw [fdiv_nat]
      exact h
    · have c : ks.length = (s.length + Mth.turnOf s.length) * p.length := by
        have c : ¬ (ks.length : Int) < ((s.length : Int) + ((Mth.ring s.length : Nat) : Int) * 12) * (p.length : Int) := fun z => c (decide_eq_true z)
        rw [htc, hrc] at c
        omega
      have hrp : 0 < Mth.ring s.length := Mth.ring_pos _
      have hksm : ks.length = s.length * p.length + Mth.turnOf s.length * p.length := by rw [c, Nat.add_mul]
      refine ⟨_, rfl, _, rfl, _, rfl, qa, l, p, s, ks, rfl, hq, hpath, ok, op, by rw [c]; exact Nat.mul_le_mul_right _ (by omega), fun H2 g gs s2 hg0 hg hgl hgr => ?_⟩
      have s12 := s1.trans s2
      have hq2 := s2 _ _ hq
      refine ⟨_, rfl, _, rfl, _, _, rfl, rfl, .inl (by rw [h64]; omega), _, rfl, qa, _, rfl, .inl (SqL.of hq2), _, _, rfl, ?_⟩
      have htn : (((ks.length : Int)) - ((s.length : Int)) * (p.length : Int)).toNat = Mth.turnOf s.length * p.length := by rw [hnmc]; omega
      refine ⟨by rw [h62, hnmc]; omega, ?_⟩
      refine for_range (lo := ((s.length : Int)) * (p.length : Int)) (n := (((ks.length : Int)) - ((s.length : Int)) * (p.length : Int)).toNat)
        (fun i σ H' => ∃ x9 x10 x11 x12 : Option V, σ = [some v, some (.ref ppa), some (.ref ua), some (.int (p.length : Nat)), some (.int (s.length : Nat)), some (.int (((Mth.ring s.length : Nat) : Int) * 12)), some (.ref qa), some (.ref g),
          some (oV (Mth.oftenTo l p s s.length i)), x9, x10, x11, x12, none, none] ∧ Same H2 H') ⟨none, none, none, none, rfl, Same.refl _⟩ ?_ ?_
      · rintro i σ H3 hi ⟨x9, x10, x11, x12, rfl, s3⟩
        rw [htn] at hi
        have hj : s.length * p.length + i < ks.length := by omega
        have hm : (s.length * p.length + i) % p.length < p.length := Nat.mod_lt _ hpos
        have hal := fun i => Mth.ahead_length ok op.lt op.ne (s := s) rfl i
        obtain ⟨v1, hv1⟩ : ∃ v, ks[s.length * p.length + i]? = some v := ⟨_, List.getElem?_eq_getElem hj⟩
        obtain ⟨v2, hv2⟩ : ∃ v, gs[(s.length * p.length + i) % p.length]? = some v := ⟨_, List.getElem?_eq_getElem (by rw [hgl]; exact hm)⟩
        obtain ⟨a1, rfl, h1⟩ := (hpath _ _ hv1).same (s2.trans s3)
        obtain ⟨a2, rfl, h2⟩ := (hgr _ _ hv2).same s3
        have hpc : ((s.length : Int)) * (p.length : Int) + (i : Int) = ((s.length * p.length + i : Nat) : Int) := by rw [hnmc]; omega
        have hfm : (((s.length : Int)) * (p.length : Int) + (i : Int)).fmod (p.length : Int) = (((s.length * p.length + i) % p.length : Nat) : Int) := by rw [hpc, fmod_nat]
        have hfd : (((s.length : Int)) * (p.length : Int) + (i : Int)).fdiv (p.length : Int) = (((s.length * p.length + i) / p.length : Nat) : Int) := by rw [hpc, fdiv_nat]
        refine ⟨_, rfl, _, rfl, qa, _, _, _, rfl, rfl, SqL.of (s3 _ _ hq2), at_of (j := s.length * p.length + i) hpc hv1, ?_⟩
        dsimp only [gName, tSeq, tAsg]
        refine tLc_zipI (H1 := H3) (a := a1) (b := a2) (xs := Mth.ahead l p s (s.length * p.length + i)) (ys := Mth.growAt l p s s.length ((s.length * p.length + i) % p.length)) (fun x y => x + y)
          (fun R r => ⟨_, rfl, _, rfl, _, rfl, _, rfl, _, _, rfl, rfl, by omega, g, _, _, _, rfl, rfl, SqL.of (s3 _ _ hg), at_of (j := (s.length * p.length + i) % p.length) hfm hv2, a1, a2, _, _, rfl, SqL.of h1, SqL.of h2, r⟩) h1 h2
          (by rw [hal, growAt_length ok op]) (by rw [hal]; omega) (fun x y => rfl) (fun x y H' R r => ⟨_, rfl, _, rfl, _, _, rfl, rfl, r⟩) (fun H4 d s4 hd0 hd => ?_)
        have s34 := s3.trans s4
        have hld : (Mth.ahead l p s (s.length * p.length + i)).length = (Mth.growAt l p s s.length ((s.length * p.length + i) % p.length)).length := by rw [hal, growAt_length ok op]
        refine ⟨_, rfl, _, rfl, _, rfl, _, rfl, _, _, rfl, rfl, by omega, ppa, _, _, _, rfl, rfl, SqL.of (s34 _ _ (s12 _ _ hP0)), (by show atI _ (Int.fmod _ _) = _; rw [hfm]; exact nats_at hm), _, rfl, _, rfl,
          v, .ref a1, .ref d, l, p.getD ((s.length * p.length + i) % p.length) 0, Mth.ahead l p s (s.length * p.length + i), Mth.sumOf (Mth.ahead l p s (s.length * p.length + i)) (Mth.growAt l p s s.length ((s.length * p.length + i) % p.length)),
          rfl, hL.same (s12.trans s34), LiAt.same ⟨a1, rfl, h1⟩ s4, ⟨d, rfl, hd⟩, by rw [hal]; exact ok, op.lt _ (getD_mem hm), sumOf_length hld, slow_ahead ok op _ hm, fun H5 s5 => ?_⟩
        have step : Mth.oftenTo l p s s.length (i + 1) = _ := Mth.oftenTo_succ l p s s.length i
        rw [Mth.stepMin_sooner] at step
        have htOf : Mth.tOf l p s s.length (s.length * p.length + i) = (Mth.missOf l (p.getD ((s.length * p.length + i) % p.length) 0) (Mth.ahead l p s (s.length * p.length + i)) (Mth.sumOf (Mth.ahead l p s (s.length * p.length + i)) (Mth.growAt l p s s.length ((s.length * p.length + i) % p.length)))).map
          fun t => (s.length * p.length + i) / p.length + Mth.turnOf s.length * t := rfl
        rw [htOf] at step
        refine ⟨_, rfl, rfl, _, rfl, ?_⟩
        cases hmo : Mth.missOf l (p.getD ((s.length * p.length + i) % p.length) 0) (Mth.ahead l p s (s.length * p.length + i)) (Mth.sumOf (Mth.ahead l p s (s.length * p.length + i)) (Mth.growAt l p s s.length ((s.length * p.length + i) % p.length))) with
        | none =>
          rw [hmo] at step
          refine if_false_of rfl ?_
          refine ⟨some (.int (((s.length : Int)) * (p.length : Int) + (i : Int))), some (.ref a1), some (.ref d), some .non, ?_, s34.trans s5⟩
          rw [step]
          rfl
        | some t =>
          rw [hmo] at step
          refine if_true_of rfl ?_
          refine ⟨_, rfl, _, rfl, _, rfl, _, _, rfl, rfl, ⟨by omega, by omega⟩, _, rfl, _, rfl, _, _, rfl, rfl, .inl (by rw [h64]; omega), _, _, rfl, rfl, Mth.oftenTo l p s s.length i, some ((s.length * p.length + i) / p.length + Mth.turnOf s.length * t), ?_, ?_⟩
          · show [oV _, V.int (Int.fdiv _ _ + _ * _)] = [oV _, V.int _]
            rw [hfd, htc]
            congr 2
          · refine ⟨some (.int (((s.length : Int)) * (p.length : Int) + (i : Int))), some (.ref a1), some (.ref d), some (.int t), ?_, s34.trans s5⟩
            rw [step]
            rfl
      · rintro σ H3 ⟨x9, x10, x11, x12, rfl, s3⟩
        rw [htn, Mth.times_all ok op.lt op.ne rfl (fun i hi => hall i (by rw [c]; exact hi))]
        exact ⟨_, rfl, q H3 (s12.trans s3)⟩
end LL
/-! P2h -/
namespace LL
open PySem PySem.Spec PyProof.Rows L2
open VaaclBase hiding Given Move Program Piece run
open Vaacld
variable {P : PySem.Program} {w : World} {K : PySem.W.Frag} {mg : Str → Option Value} {base : Heap}

/-! ### values_followed -/
def NewV (H : Hp) (x : V) : Prop := ∃ a, x = .ref a ∧ H a = none
theorem NewV.back {H H' : Hp} {x : V} (h : NewV H' x) (s : Same H H') : NewV H x := by
  obtain ⟨a, rfl, h2⟩ := h
  exact ⟨a, rfl, s.free h2⟩

def spFollow (K : PySem.W.Frag) : Sp := fun vs H Q _ => ∃ (v pp u : V) (l : Loop) (p : List Nat) (s : List Int) (k : Nat), vs = [v, pp, u, .int k] ∧ LoopAt K H v l ∧ LiAt H pp (nats p) ∧ LiAt H u s ∧ Mth.OkLoop s.length l ∧ OkPat l p ∧ k ≤ 100 ∧
  ∀ H' x, Same H H' → LiAt H' x (Mth.it (wholeMove l s.length p) k s) → (x = u ∨ NewV H x) → Q x H'
theorem nats_rep (p : List Nat) (k : Nat) : (List.replicate k ((nats p).map V.int)).flatten = (nats (List.replicate k p).flatten).map V.int := by
  induction k with
  | zero => rfl
  | succ k ih =>
    rw [List.replicate_succ, List.flatten_cons, ih, List.replicate_succ, List.flatten_cons]
    simp [nats]
theorem has_follow (D : Ds K mg) (T : Txt K mg) : Has P w K mg base CX0 2 "values_followed" p_values_followed (spFollow K) := by
  have GM := has_moved (P := P) (w := w) (base := base) D T
  refine D.values_followed.has fun f fd F => F.ok c_values_followed (fun vs H Q E h => ?_) (fun cdv A outer s H vs Q E hr h => ⟨_,
    pss_cons (ps_for PassesOwn.never rfl (pi_list (pe_op op_rep (pv 1) (pv 3))) (pg_name (i := 4) c_values_followed.nd rfl (.inl rfl))
        (pss_one (ps_set (i := 2) c_values_followed.nd rfl (.inl rfl) (pe_callH GM hr rfl (pa_cons (pe_ix ix_tup (pe_ix ix_tup (pv 0) (pv 4) (fun _ _ => rfl)) pe_int (fun _ _ => rfl)) (pa_cons (pv 2) pa_nil))))))
      (pss_one (ps_ret (pv 2))), ?_⟩)
  · obtain ⟨v, pp, u, l, p, s, k, rfl, _⟩ := h
    rfl
  · obtain ⟨v, pp, u, l, p, s, k, rfl, hL, ⟨ppa, rfl, hP⟩, hV, ok, op, hk, q⟩ := h
    have h3 := op.few
    have h63 : (2 : Int) ^ 63 = 9223372036854775808 := by decide
    have hsz : ((nats p).map V.int).length * k ≤ 3 * 100 := by rw [natsV_length]; exact Nat.mul_le_mul h3 hk
    refine ⟨_, rfl, _, rfl, ppa, (k : Int), _, rfl, rfl, hP, by rw [h63]; omega, by rw [h63]; omega, ?_, fun r hr0 => ?_⟩
    · rw [Int.toNat_natCast]
      exact Nat.le_trans hsz (by decide)
    · rw [Int.toNat_natCast, nats_rep]
      have hq1 : upd H r (.lst ((nats (List.replicate k p).flatten).map V.int)) r = some (.lst ((nats (List.replicate k p).flatten).map V.int)) := upd_same
      have s1 : Same H (upd H r (.lst ((nats (List.replicate k p).flatten).map V.int))) := Same.new hr0
      have hfin := Mth.runs_rep ok op.lt k s rfl
      have hmem : ∀ b ∈ (List.replicate k p).flatten, b < l.length := by
        intro b hb
        obtain ⟨q', hq', hbq⟩ := List.mem_flatten.1 hb
        rw [List.eq_of_mem_replicate hq'] at hbq
        exact op.lt b hbq
      generalize (List.replicate k p).flatten = w6 at *
      generalize upd H r (.lst ((nats w6).map V.int)) = H1 at *
      refine ⟨r, rfl, ⟨_, SqL.of hq1⟩, for_list (K := K) (a := r) (xs := (nats w6).map V.int) (fun i σ H' => ∃ (u' : V) (x : Option V), σ = [some v, some (.ref ppa), some u', some (.int k), x] ∧ Same H H' ∧ Same H1 H' ∧ LiAt H' u' (Mth.runs l (w6.take i) s) ∧ (Mth.runs l (w6.take i) s).length = s.length ∧ (u' = u ∨ NewV H u'))
        ⟨u, none, rfl, s1, Same.refl _, hV.same s1, rfl, .inl rfl⟩ (fun i σ H' _ ⟨_, _, _, _, s2, _⟩ => s2.seq (SqL.of hq1)) ?_ ?_⟩
      · rintro i x σ H2 hi ⟨u2, x0, rfl, s2, s12, hV2, hlen, hnw⟩
        rw [List.getElem?_map] at hi
        unfold nats at hi
        rw [List.getElem?_map] at hi
        cases hb : w6[i]? with
        | none => rw [hb] at hi; cases hi
        | some b =>
          rw [hb] at hi
          obtain rfl : V.int (b : Int) = x := Option.some.inj hi
          have hbl := hmem b (List.mem_of_getElem? hb)
          have ok2 : Mth.OkLoop (Mth.runs l (w6.take i) s).length l := by rw [hlen]; exact ok
          obtain ⟨a, bs, qb, g, mv, rfl, hL3, hbv, hB3, _, hM3⟩ := (hL.same s2).branch hbl
          obtain ⟨hsrc, hml⟩ := move_ok ok2 hbl (s := Mth.runs l (w6.take i) s) rfl
          have htk : Mth.runs l (w6.take (i + 1)) s = VaaclBase.moved (branchAt l b).move (Mth.runs l (w6.take i) s) := by
            rw [List.take_add_one, hb, Mth.runs_append]
            rfl
          refine ⟨_, rfl, _, rfl, _, _, _, _, rfl, rfl, hL3, atI_nat hbv, _, _, _, _, rfl, rfl, hB3, at1 _ _ _, _, rfl, _, _, _, _, rfl, hM3, hV2, hsrc, hml, fun H4 p4 s5 hp0 hp4 => ?_⟩
          refine ⟨.ref p4, some (.int b), rfl, s2.trans s5, s12.trans s5, ?_, ?_, .inr ⟨p4, rfl, s2.free hp0⟩⟩
          · rw [htk]; exact ⟨p4, rfl, hp4⟩
          · rw [htk, move_len ok hbl]
      · rintro σ H2 ⟨u2, x0, rfl, s2, _, hV2, _, hnw⟩
        rw [natsV_length, List.take_length, hfin] at hV2
        exact ⟨_, rfl, q H2 u2 s2 hV2 hnw⟩

/-! ### values_behind -/
def spBehind (K : PySem.W.Frag) : Sp := fun vs H Q _ => ∃ (v pp u : V) (l : Loop) (p : List Nat) (s : List Int) (k : Nat), vs = [v, pp, u, .int k] ∧ LoopAt K H v l ∧ LiAt H pp (nats p) ∧ LiAt H u s ∧ Mth.OkLoop s.length l ∧ OkPat l p ∧ k < 2 ^ 60 ∧
  ∀ H' x, Same H H' → LiAt H' x (Mth.it (wholeMove l s.length p) k s) → (x = u ∨ NewV H x) → Q x H'
theorem has_behind (D : Ds K mg) (T : Txt K mg) : Has P w K mg base CX0 3 "values_behind" p_values_behind (spBehind K) := by
  have GF := has_follow (P := P) (w := w) (base := base) D T
  obtain ⟨aR, gR, sR⟩ := T.RINGS
  refine D.values_behind.has fun f fd F => F.ok c_values_behind (fun vs H Q E h => ?_) (fun cdv A outer s H vs Q E hr h => ⟨_,
    pss_cons (ps_set (i := 4) c_values_behind.nd rfl (.inl rfl) (pe_callB call_len_seq (by rfl) T.len PySem.boot_len (pa_cons (pv 2) pa_nil)))
      (pss_cons (ps_if (pt_cmpR op_le (pv 3) (pv 4) (nomark _)) (pss_one (ps_ret (pe_callH GF hr rfl (pa_cons (pv 0) (pa_cons (pv 1) (pa_cons (pv 2) (pa_cons (pv 3) pa_nil))))))) pss_nil)
      (pss_cons (ps_asg (pe_callB call_divmod (by rfl) T.divmod (by decide +kernel) (pa_cons (pe_op op_sub (pv 3) (pv 4)) (pa_cons (pe_ix ix_tup (pe_glob (v := .ref aR) rfl gR rfl) (pv 4) (fun _ _ => rfl)) pa_nil)))
        (pg_tup rfl (pgs_cons (pg_name (i := 5) c_values_behind.nd rfl (.inr rfl)) (pgs_cons (pg_name (i := 6) c_values_behind.nd rfl (.inl rfl)) pgs_nil))))
      (pss_cons (ps_set (i := 7) c_values_behind.nd rfl (.inl rfl) (pe_callH GF hr rfl (pa_cons (pv 0) (pa_cons (pv 1) (pa_cons (pv 2) (pa_cons (pe_op op_add (pv 4) (pv 6)) pa_nil))))))
      (pss_cons (ps_set (i := 8) c_values_behind.nd rfl (.inl rfl) (pe_callH GF hr rfl (pa_cons (pv 0) (pa_cons (pv 1) (pa_cons (pv 7) (pa_cons (pe_ix ix_tup (pe_glob (v := .ref aR) rfl gR rfl) (pv 4) (fun _ _ => rfl)) pa_nil))))))
      (pss_one (ps_ret (pe_lc (own := [("here", 9), ("later", 10)]) (g := gTup K 2 (gCons (gName 9) (gCons (gName 10) gNil))) (tt := tYes) rfl c_values_behind.nd
            (pi_zip (by rfl) T.zip (pa_cons (pv 7) (pa_cons (pv 8) pa_nil)))
            (blkOk_by (N := n_values_behind) (sc := defScope s_values_behind) (by decide +kernel))
            (fun _ _ _ _ _ => pg_tup rfl (pgs_cons (pg_name (i := 9) c_values_behind.nd rfl (Or.inl rfl)) (pgs_cons (pg_name (i := 10) c_values_behind.nd rfl (Or.inl rfl)) pgs_nil))) (fun _ _ _ _ _ => pts_nil)
            (fun _ _ _ _ _ => pe_op op_add (pv 9) (pe_op op_mul (pe_op op_sub (pv 10) (pv 9)) (pv 5)))))))))), ?_⟩)
  · obtain ⟨v, pp, u, l, p, s, k, rfl, _⟩ := h
    rfl
  · obtain ⟨v, pp, u, l, p, s, k, rfl, hL, hP, hV, ok, op, hk, q⟩ := h
    have hn1 := ok.low
    have hn4 := ok.high
    have hr12 := ring_le s.length
    have hr0 := Mth.ring_pos s.length
    have hW := Mth.OkMove.whole ok op.lt
    have h64 : (2 : Int) ^ 64 = 18446744073709551616 := by decide
    have h60 : (2 : Nat) ^ 60 = 1152921504606846976 := by decide
    obtain ⟨ua, rfl, hV0⟩ := hV
    refine ⟨_, rfl, ua, _, rfl, .inl (SqL.of hV0), ?_⟩
    rw [List.length_map]
    refine ⟨_, rfl, _, rfl, _, _, rfl, rfl, _, rfl, ite2 (fun c => ?_) (fun c => ?_)⟩
    · have c : k ≤ s.length := by have c : (k : Int) ≤ (s.length : Int) := of_decide_eq_true c; omega
      exact ⟨_, rfl, _, rfl, _, rfl, _, rfl, v, pp, .ref ua, l, p, s, k, rfl, hL, hP, ⟨ua, rfl, hV0⟩, ok, op, by omega, q⟩
    · have c : s.length < k := by
        have c : ¬ (k : Int) ≤ (s.length : Int) := fun z => c (decide_eq_true z)
        omega
      have hsub : (k : Int) - (s.length : Int) = ((k - s.length : Nat) : Int) := by omega
      have hdv : ((k : Int) - (s.length : Int)) / ((Mth.ring s.length : Nat) : Int) = (((k - s.length) / Mth.ring s.length : Nat) : Int) := by rw [hsub]; rfl
      have hmd : ((k : Int) - (s.length : Int)) % ((Mth.ring s.length : Nat) : Int) = (((k - s.length) % Mth.ring s.length : Nat) : Int) := by rw [hsub]; rfl
      have hrest : (k - s.length) % Mth.ring s.length < Mth.ring s.length := Nat.mod_lt _ hr0
      have hdle : (k - s.length) / Mth.ring s.length ≤ k - s.length := Nat.div_le_self _ _
      refine ⟨_, rfl, _, rfl, _, _, rfl, rfl, _, rfl, _, _, _, _, rfl, rfl, sR _, rings_at hn1 hn4, _, _, rfl, ⟨by omega, by omega⟩, fun t ht => ?_⟩
      refine ⟨t, _, rfl, SqT.of upd_same, rfl, _, _, rfl, _, _, rfl, rfl, ?_⟩
      have s1 : Same H (upd H t (.tup [.int (((k : Int) - (s.length : Int)) / ((Mth.ring s.length : Nat) : Int)), .int (((k : Int) - (s.length : Int)) % ((Mth.ring s.length : Nat) : Int))])) := Same.new ht
      refine ⟨_, rfl, _, rfl, _, rfl, _, rfl, _, rfl, _, _, rfl, rfl, v, pp, .ref ua, l, p, s, s.length + (k - s.length) % Mth.ring s.length, ?_, hL.same s1, hP.same s1, LiAt.same ⟨ua, rfl, hV0⟩ s1, ok, op, by omega, fun H2 x s2 hx _ => ?_⟩
      · show [_, _, _, V.int (_ + _)] = [_, _, _, V.int _]
        rw [hmd]
        rfl
      · have hlen : (Mth.it (wholeMove l s.length p) (s.length + (k - s.length) % Mth.ring s.length) s).length = s.length := by rw [Mth.it_length (by rw [hW.len])]
        have s12 := s1.trans s2
        refine ⟨_, rfl, _, rfl, _, rfl, _, rfl, _, _, _, _, rfl, rfl, sR _, rings_at hn1 hn4, v, pp, x, l, p, _, Mth.ring s.length, rfl, hL.same s12, hP.same s12, hx, by rw [hlen]; exact ok, op, by omega, fun H3 y s3 hy _ => ?_⟩
        rw [hlen] at hy
        obtain ⟨a1, rfl, h1⟩ := hx.same s3
        obtain ⟨a2, rfl, h2⟩ := hy
        have hlen2 : (Mth.it (wholeMove l s.length p) (Mth.ring s.length) (Mth.it (wholeMove l s.length p) (s.length + (k - s.length) % Mth.ring s.length) s)).length = s.length := by
          rw [Mth.it_length (by rw [hW.len, hlen]), hlen]
        have hev := Mth.behind_even ok op.lt rfl c
        have hbz : -(2 ^ 64) < ((k : Int) - (s.length : Int)) / ((Mth.ring s.length : Nat) : Int) ∧ ((k : Int) - (s.length : Int)) / ((Mth.ring s.length : Nat) : Int) < 2 ^ 64 := by
          rw [hdv, h64]
          have := Int.natCast_nonneg ((k - s.length) / Mth.ring s.length)
          generalize (k - s.length) / Mth.ring s.length = z at *
          omega
        dsimp only [gName, tSeq, tAsg, tRet]
        refine tLc_zipI (H1 := H3) (a := a1) (b := a2) (fun x y => x + (y - x) * (((k : Int) - (s.length : Int)) / ((Mth.ring s.length : Nat) : Int)))
          (fun R r => ⟨_, rfl, _, rfl, a1, a2, _, _, rfl, SqL.of h1, SqL.of h2, r⟩) h1 h2 (by rw [hlen, hlen2]) (by rw [hlen]; omega) (fun x y => rfl)
          (fun x y H' R r => ⟨_, rfl, _, rfl, _, rfl, _, _, rfl, rfl, _, rfl, _, _, rfl, rfl, .inr hbz, _, _, rfl, rfl, r⟩) (fun H4 d s4 hd0 hd => ?_)
        refine q H4 (.ref d) ((s12.trans s3).trans s4) ⟨d, rfl, ?_⟩ (.inr ⟨d, rfl, (s12.trans s3).free hd0⟩)
        rw [hd, hdv, ← hev]
        rfl
end LL
/-! P3 -/
namespace LL
open PySem PySem.Spec PyProof.Rows L2
open VaaclBase hiding Given Move Program Piece run
open Vaacld
variable {P : PySem.Program} {w : World} {K : PySem.W.Frag} {mg : Str → Option Value} {base : Heap}

/-! ### leaps_from -/
theorem _root_.L2.SqT.updL {H : Hp} {a q : Addr} {xs : List V} {ys : List V} {o : HO} (h : SqT K H a xs) (hq : H q = some (.lst ys)) : SqT K (upd H q o) a xs := by
  rcases h with (h | ⟨o', h⟩) | h
  · refine .inl (.inl ?_)
    rw [upd_ne]
    · exact h
    · rintro rfl; rw [hq] at h; cases h
  · refine .inl (.inr ⟨o', ?_⟩)
    rw [upd_ne]
    · exact h
    · rintro rfl; rw [hq] at h; cases h
  · exact .inr h
/-- a phase: a tuple of its pattern's list and how often; q: the list of phases, which is another one -/
def PhaseAt (K : PySem.W.Frag) (q : Addr) (H : Hp) (v : V) (ph : Phase) : Prop := ∃ a b, v = .ref a ∧ SqT K H a [.ref b, .int (ph.times : Nat)] ∧ H b = some (.lst ((nats ph.pattern).map V.int)) ∧ b ≠ q
theorem PhaseAt.same {H H' : Hp} {q : Addr} {v : V} {ph : Phase} (h : PhaseAt K q H v ph) (s : Same H H') : PhaseAt K q H' v ph := by
  obtain ⟨a, b, h1, h2, h3, h4⟩ := h
  exact ⟨a, b, h1, s.tup h2, s _ _ h3, h4⟩
theorem PhaseAt.updQ {H : Hp} {q : Addr} {v : V} {ph : Phase} {ys : List V} {o : HO} (h : PhaseAt K q H v ph) (hq : H q = some (.lst ys)) : PhaseAt K q (upd H q o) v ph := by
  obtain ⟨a, b, h1, h2, h3, h4⟩ := h
  exact ⟨a, b, h1, L2.SqT.updL h2 hq, by rw [upd_ne h4]; exact h3, h4⟩
theorem okPat {l : Loop} {s : List Int} (h : Mth.patL l s ≠ []) : OkPat l (Mth.patL l s) := ⟨Mth.patL_mem, h, Mth.patL_len⟩
def spLeaps (K : PySem.W.Frag) : Sp := fun vs H Q _ => ∃ (v u : V) (l : Loop) (s : List Int), vs = [v, u] ∧ LoopAt K H v l ∧ LiAt H u s ∧ Mth.OkLoop s.length l ∧ isBeyond s = false ∧
  ∀ H' t q x ps, Same H H' → H' t = some (.tup [.int (Vaacld.howNumber (leaps l s).how), .ref q, x]) → H' q = some (.lst ps) → AllAt (PhaseAt K q H') ps (leaps l s).phases → LiAt H' x (leaps l s).values → (x = u ∨ NewV H x) →
    (∀ p ∈ (leaps l s).phases, p.pattern.length ≤ 3) → (leaps l s).phases.length ≤ 8 → Q (.ref t) H'
def wLeaps (K : PySem.W.Frag) (v u0 : V) (l : Loop) (s : List Int) (H : Hp) (q : Addr) (m : Nat) (σ : L2.St) (H' : Hp) : Prop :=
  ∃ (t : List Int) (u : V) (ph : List Phase) (ps : List V) (x3 x4 : Option V), m = 9 - ph.length ∧ ph.length ≤ 8 ∧ σ = [some v, some u, some (.ref q), x3, x4] ∧ Same H H' ∧ H' q = some (.lst ps) ∧ AllAt (PhaseAt K q H') ps ph ∧
    LiAt H' u t ∧ u ≠ .ref q ∧ (u = u0 ∨ NewV H u) ∧ t.length = s.length ∧ Mth.leapsTo l t ph = leaps l s ∧ ∀ p ∈ ph, p.pattern.length ≤ 3
theorem has_leaps (D : Ds K mg) (T : Txt K mg) : Has P w K mg base CX0 7 "leaps_from" p_leaps_from (spLeaps K) := by
  have GB := has_beyond (P := P) (w := w) (base := base) D T
  have GP := has_pat (P := P) (w := w) (base := base) D T
  have GT := has_times (P := P) (w := w) (base := base) D T
  have GV := has_behind (P := P) (w := w) (base := base) D T
  refine D.leaps_from.has fun f fd F => F.ok c_leaps_from (fun vs H Q E h => ?_) (fun cdv A outer s H vs Q E hr h => ⟨_,
    pss_cons (ps_set (i := 2) c_leaps_from.nd rfl (.inl rfl) (pe_lst pa_nil))
      (pss_cons (ps_while PassesOwn.never (pt_not (pt_val (pe_callH GB (hr.mono (by decide)) rfl (pa_cons (pv 1) pa_nil))))
        (pss_cons (ps_set (i := 3) c_leaps_from.nd rfl (.inl rfl) (pe_callH GP (hr.mono (by decide)) rfl (pa_cons (pv 0) (pa_cons (pv 1) pa_nil))))
        (pss_cons (ps_if (pt_not (pt_truth (pv 3) (by intro _; rfl))) (pss_one (ps_ret (pe_tup (pa_cons (pe_gi rfl T.OVER) (pa_cons (pv 2) (pa_cons (pv 1) pa_nil)))))) pss_nil)
        (pss_cons (ps_if (pt_cmpR op_eq (pe_callB call_len_seq (by rfl) T.len PySem.boot_len (pa_cons (pv 2) pa_nil)) (pe_gi rfl T.MOST_PHASES) (nomark _)) (pss_one (ps_ret (pe_tup (pa_cons (pe_gi rfl T.MANY) (pa_cons (pv 2) (pa_cons (pv 1) pa_nil)))))) pss_nil)
        (pss_cons (ps_set (i := 4) c_leaps_from.nd rfl (.inl rfl) (pe_callH GT (hr.mono (by decide)) rfl (pa_cons (pv 0) (pa_cons (pv 3) (pa_cons (pv 1) pa_nil)))))
        (pss_cons (ps_if (pt_cmpR op_isN (pv 4) pe_non (nomark _)) (pss_one (ps_ret (pe_tup (pa_cons (pe_gi rfl T.NEVER) (pa_cons (pv 2) (pa_cons (pv 1) pa_nil)))))) pss_nil)
        (pss_cons (ps_set (i := 1) c_leaps_from.nd rfl (.inl rfl) (pe_callH GV (hr.mono (by decide)) rfl (pa_cons (pv 0) (pa_cons (pv 3) (pa_cons (pv 1) (pa_cons (pv 4) pa_nil))))))
        (pss_one (ps_expr (pe_bm PySem.F.plainAttrs_list PySem.F.slot_list_append PySem.F.type_list_append mt_append (pv 2) (pa_cons (pe_tup (pa_cons (pv 3) (pa_cons (pv 4) pa_nil))) pa_nil)))))))))))
      (pss_one (ps_ret (pe_tup (pa_cons (pe_gi rfl T.FAR) (pa_cons (pv 2) (pa_cons (pv 1) pa_nil))))))), ?_⟩)
  · obtain ⟨v, u, l, s, rfl, _⟩ := h
    rfl
  · obtain ⟨v, u, l, s, rfl, hL, hV, ok, hb, q⟩ := h
    have three : 3 ≤ sizeLine := by decide
    refine ⟨(by show 0 ≤ sizeLine; exact Nat.zero_le _), fun qa hqa => ?_⟩
    have s0 : Same H (upd H qa (.lst [])) := Same.new hqa
    refine ⟨wLeaps K v u l s H qa, ⟨9, s, u, [], [], none, none, rfl, Nat.zero_le _, rfl, s0, upd_same, AllAt.nil, hV.same s0, hV.ne hqa, .inl rfl, rfl, (Mth.leaps_eq hb).symm, fun p hp => absurd hp List.not_mem_nil⟩, ?_⟩
    rintro m σ H2 ⟨t, u2, ph, ps, x3, x4, rfl, h8, rfl, s2, hq2, hps, hV2, hup, hprov, htl, hto, hfew⟩
    have ok2 : Mth.OkLoop t.length l := by rw [htl]; exact ok
    -- a way out: what is told of the leaps
    have out : ∀ (how : How) (H3 : Hp), leaps l s = ⟨how, t, ph⟩ → Same H2 H3 → ∀ tp : Addr, H3 tp = none → Q (.ref tp) (upd H3 tp (.tup [.int (Vaacld.howNumber how), .ref qa, u2])) := by
      intro how H3 e s3 tp htp
      have s34 : Same H2 (upd H3 tp (.tup [.int (Vaacld.howNumber how), .ref qa, u2])) := s3.trans (Same.new htp)
      refine q _ tp qa u2 ps (s2.trans s34) ?_ (s34 _ _ hq2) ?_ ?_ hprov ?_ ?_
      · rw [upd_same, e]
      · rw [e]; exact hps.mono fun _ _ r => r.same s34
      · rw [e]; exact hV2.same s34
      · rw [e]; exact hfew
      · rw [e]; exact h8
    refine ⟨_, rfl, u2, t, rfl, hV2, (by have := ok2.high; omega), fun H3 s3 => ?_⟩
    refine ⟨_, rfl, ?_⟩
    cases hbt : isBeyond t with
    | true =>
      refine if_false_of rfl ?_
      have e := Mth.leapsTo_far (l := l) (ps := ph) hbt
      rw [hto] at e
      exact ⟨_, rfl, _, rfl, three, out .far H3 e s3⟩
    | false =>
      refine if_true_of rfl ⟨fun σ' H' => ∃ m', m' < 9 - ph.length ∧ wLeaps K v u l s H qa m' σ' H', fun _ _ h => h, ?_⟩
      refine ⟨_, rfl, _, rfl, v, u2, l, t, rfl, (hL.same s2).same s3, hV2.same s3, ok2, fun H4 pa s4 hpa0 hpa => ?_⟩
      have s24 := s3.trans s4
      refine ⟨_, rfl, _, .inl ⟨_, SqL.of hpa, rfl⟩, ?_⟩
      by_cases hpn : Mth.patL l t = []
      · refine if_true_of (by rw [hpn]; rfl) ?_
        have e := Mth.leapsTo_over (ps := ph) hbt hpn
        rw [hto] at e
        exact ⟨_, rfl, _, rfl, three, out .over H4 e s24⟩
      · refine if_false_of (by cases hp : Mth.patL l t with | nil => exact absurd hp hpn | cons a r => rfl) ?_
        have hpq : pa ≠ qa := by
          rintro rfl
          have := s3 _ _ hq2
          rw [hpa0] at this
          cases this
        have hps4 : AllAt (PhaseAt K qa H4) ps ph := hps.mono fun _ _ r => r.same s24
        refine ⟨_, rfl, qa, _, rfl, .inl (SqL.of (s24 _ _ hq2)), rfl, _, rfl, ?_⟩
        rw [hps.1]
        refine ite2 (fun c => ?_) (fun c => ?_)
        · have c : ph.length = 8 := by have c := V.int.inj (of_decide_eq_true c); omega
          have e := Mth.leapsTo_many (l := l) hbt hpn c
          rw [hto] at e
          exact ⟨_, rfl, _, rfl, three, out .many H4 e s24⟩
        · have c : ph.length < 8 := by
            have c : ¬ ph.length = 8 := fun z => c (decide_eq_true (by rw [z]; rfl))
            omega
          refine ⟨_, rfl, _, rfl, _, rfl, v, .ref pa, u2, l, Mth.patL l t, t, rfl, (hL.same s2).same s24, ⟨pa, rfl, hpa⟩, hV2.same s24, ok2, okPat hpn, fun H5 s5 => ?_⟩
          have s25 := s24.trans s5
          refine ⟨_, rfl, rfl, _, rfl, ?_⟩
          cases ht : timesOf l (Mth.patL l t) t with
          | none =>
            refine if_true_of rfl ?_
            have e := Mth.leapsTo_never ok2 rfl hbt hpn c ht
            rw [hto] at e
            exact ⟨_, rfl, _, rfl, three, out .never H5 e s25⟩
          | some k =>
            refine if_false_of rfl ?_
            have hk60 := Mth.timesOf_lt ok2 Mth.patL_mem Mth.patL_len rfl (Mth.isBeyond_Bd hbt) ht
            have e := Mth.leapsTo_phase ok2 rfl hbt hpn c ht
            rw [hto] at e
            refine ⟨_, rfl, _, rfl, _, rfl, _, rfl, v, .ref pa, u2, l, Mth.patL l t, t, k, rfl, (hL.same s2).same s25, LiAt.same ⟨pa, rfl, hpa⟩ s5, hV2.same s25, ok2, okPat hpn, hk60, fun H6 x s6 hx hnw => ?_⟩
            have s26 := s25.trans s6
            have hq6 := s26 _ _ hq2
            refine ⟨_, rfl, .inl ⟨rfl, _, .inl (.inl hq6)⟩, _, rfl, _, rfl, (by show 2 ≤ sizeLine; decide), fun tp htp => ?_⟩
            have s27 : Same H2 (upd H6 tp (.tup [.ref pa, .int (k : Nat)])) := s26.trans (Same.new htp)
            have hxq : x ≠ .ref qa := by
              rcases hnw with rfl | ⟨ax, rfl, hax⟩
              · exact hup
              · exact ref_ne hax (s25 _ _ hq2)
            have htq : tp ≠ qa := by
              rintro rfl
              rw [hq6] at htp
              cases htp
            refine ⟨qa, _, _, rfl, rfl, s27 _ _ hq2, small1000 (by rw [hps.1]; omega), ?_⟩
            refine ⟨9 - (ph.length + 1), by omega, Mth.it (wholeMove l t.length (Mth.patL l t)) k t, x, ph ++ [⟨Mth.patL l t, k⟩], ps ++ [.ref tp], some (.ref pa), some (.int k), by simp, by simp; omega, rfl, (s2.trans s27).updNew hqa, upd_same, ?_, ?_, ?_, ?_, ?_, e.symm, ?_⟩
            · refine AllAt.snoc (hps.mono fun _ _ r => (r.same s27).updQ (s27 _ _ hq2)) ?_
              refine ⟨tp, pa, rfl, SqT.of ?_, ?_, hpq⟩
              · rw [upd_ne htq, upd_same]
              · rw [upd_ne hpq]
                exact Same.new htp _ _ (s6 _ _ (s5 _ _ hpa))
            · exact (hx.same (Same.new htp)).upd hxq
            · exact hxq
            · rcases hnw with rfl | hn
              · exact hprov
              · exact .inr (hn.back (s2.trans s25))
            · rw [Mth.it_length (by rw [(Mth.OkMove.whole ok2 (fun b hb => Mth.patL_mem b hb)).len]), htl]
            · intro p hp
              rcases List.mem_append.1 hp with hp | hp
              · exact hfew p hp
              · have : p = ⟨Mth.patL l t, k⟩ := by simpa using hp
                subst this
                exact Mth.patL_len
end LL
/-! P3b -/
namespace LL
open PySem PySem.Spec PyProof.Rows L2
open VaaclBase hiding Given Move Program Piece run
open Vaacld
variable {P : PySem.Program} {w : World} {K : PySem.W.Frag} {mg : Str → Option Value} {base : Heap}

/-! ### sums over phases -/
theorem foldl_add (xs : List Nat) : ∀ a : Nat, ((xs.foldl (fun a b => a + b) a : Nat) : Int) = (a : Int) + (xs.map fun x : Nat => (x : Int)).sum := by
  induction xs with
  | nil => intro a; simp
  | cons x r ih =>
    intro a
    rw [List.foldl_cons, ih]
    simp only [List.map_cons, List.sum_cons]
    omega
theorem sum_nat (xs : List Nat) : (xs.map fun x : Nat => (x : Int)).sum = ((xs.foldl (fun a b => a + b) 0 : Nat) : Int) := by
  rw [foldl_add]
  simp
theorem rounds_sum (ph : List Phase) : (ph.map fun p => ((p.pattern.length : Nat) : Int) * (p.times : Nat)).sum = ((allRounds ph : Nat) : Int) := by
  unfold allRounds
  rw [← sum_nat, List.map_map]
  congr 1
theorem done_sum (ph : List Phase) (b : Nat) : (ph.map fun p => (((nats p.pattern).count (b : Int) : Nat) : Int) * (p.times : Nat)).sum = ((doneIn ph b : Nat) : Int) := by
  unfold doneIn
  rw [← sum_nat, List.map_map]
  congr 1
  apply List.map_congr_left
  intro p _
  show _ = (((p.pattern.filter fun x => x == b).length * p.times : Nat) : Int)
  rw [Int.natCast_mul]
  congr 2
  unfold nats
  induction p.pattern with
  | nil => rfl
  | cons x r ih =>
    rw [List.map_cons, List.count_cons, ih, List.filter_cons]
    by_cases h : x = b
    · subst h
      simp [VaaclBase.int]
    · have h2 : ¬ ((x : Int) = (b : Int)) := by omega
      simp [VaaclBase.int, h, h2]

def rLen (K : PySem.W.Frag) : List V → Hp → VK → Prop := fun xs H Q => ∃ p ys, xs = [.ref p] ∧ (SqL K H p ys ∨ SqT K H p ys) ∧ Q (.int ys.length) H
theorem lenK (K : PySem.W.Frag) {X : Cx} (h : X.K = K := by rfl) : CallR X (.builtin "len") (rLen K) := h ▸ call_len_seq

/-- [f(pattern) * often for pattern, often in phases], f by a reading -/
theorem tLc_phases {te : TE} {σ : L2.St} {H : Hp} {Q : VK} {wi : TI} {q : Addr} {ps : List V} {ph : List Phase} {i j : Nat} (f : Phase → Int)
    (hwi : ∀ R : It → Hp → Prop, R (Itl K q) H → wi σ H R) (hq : H q = some (.lst ps)) (hps : AllAt (PhaseAt K q H) ps ph) (h8 : ph.length ≤ 8)
    (hw : ∀ x y : V, wipe (((wipe σ [i, j]).set i (some x)).set j (some y)) [i, j] = wipe σ [i, j])
    (hte : ∀ (p : Phase) (b : Addr) (H' : Hp) (R : VK), p ∈ ph → H' b = some (.lst ((nats p.pattern).map V.int)) → R (.int (f p)) H' → te (((wipe σ [i, j]).set i (some (.ref b))).set j (some (.int (p.times : Nat)))) H' R)
    (hQ : ∀ H' D, Same H H' → H D = none → H' D = some (.lst ((ph.map f).map V.int)) → Q (.ref D) H') :
    tLc wi (gTup K 2 (gCons (gName i) (gCons (gName j) gNil))) tYes te [i, j] σ H Q := by
  refine hwi _ (fun D hD => lc_list (K := K) (a := q) (xs := ps) (fun k H' => Same H H' ∧ H' D = some (.lst (((ph.take k).map f).map V.int)))
    ⟨Same.new hD, upd_same⟩ (fun k H' _ p => p.1.seq (SqL.of hq)) ?_ ?_)
  · rintro k v H2 hk ⟨s2, h2⟩
    obtain ⟨p, hp, a, b, rfl, h3, h4, h5⟩ := hps.get hk
    refine ⟨a, _, rfl, s2.tup h3, rfl, _, _, rfl, _, _, rfl, rfl, hw _ _, hte p b H2 _ (List.mem_of_getElem? hp) (s2 _ _ h4) ?_⟩
    refine ⟨_, h2, ?_, s2.updNew hD, ?_⟩
    · rw [List.length_map, List.length_map, List.length_take]
      exact small1000 (by omega)
    · rw [upd_same, List.take_add_one, hp]
      simp
  · rintro H2 ⟨s2, h2⟩
    refine hQ H2 D s2 hD ?_
    rw [h2, hps.1, List.take_length]

def spRounds (K : PySem.W.Frag) : Sp := fun vs H Q _ => ∃ (q : Addr) (ps : List V) (ph : List Phase), vs = [.ref q] ∧ H q = some (.lst ps) ∧ AllAt (PhaseAt K q H) ps ph ∧ ph.length ≤ 8 ∧ (∀ p ∈ ph, p.pattern.length ≤ 3) ∧
  ∀ H', Same H H' → Q (.int (allRounds ph : Nat)) H'
theorem has_rounds (D : Ds K mg) (T : Txt K mg) : Has P w K mg base CX0 1 "rounds_of" p_rounds_of (spRounds K) := by
  refine D.rounds_of.has fun f fd F => F.ok c_rounds_of (fun vs H Q E h => ?_) (fun cdv A outer s H vs Q E hr h => ⟨_,
    pss_one (ps_ret (pe_callB (cr_sum rfl) (by rfl) T.sum (by decide +kernel) (pa_cons (pe_lc (own := [("pattern", 1), ("often", 2)]) (g := gTup K 2 (gCons (gName 1) (gCons (gName 2) gNil))) (tt := tYes) rfl c_rounds_of.nd (pi_list (pv 0))
      (blkOk_by (N := n_rounds_of) (sc := defScope s_rounds_of) (by decide +kernel))
      (fun _ _ _ _ _ => pg_tup rfl (pgs_cons (pg_name (i := 1) c_rounds_of.nd rfl (Or.inl rfl)) (pgs_cons (pg_name (i := 2) c_rounds_of.nd rfl (Or.inl rfl)) pgs_nil))) (fun _ _ _ _ _ => pts_nil)
      (fun _ _ _ _ _ => pe_op op_mul (pe_callB (lenK K) (by rfl) T.len PySem.boot_len (pa_cons (pv 1) pa_nil)) (pv 2))) pa_nil))), ?_⟩)
  · obtain ⟨q, ps, ph, rfl, _⟩ := h
    rfl
  · obtain ⟨qa, ps, ph, rfl, hq, hps, h8, hfew, q⟩ := h
    have h64 : (2 : Int) ^ 64 = 18446744073709551616 := by decide
    dsimp only [tRet, tCB, tCons]
    refine tLc_phases (K := K) (q := qa) (ps := ps) (ph := ph) (fun p => ((p.pattern.length : Nat) : Int) * (p.times : Nat)) (fun R r => ⟨_, rfl, qa, rfl, ⟨_, SqL.of hq⟩, r⟩) hq hps h8 (fun x y => rfl)
      (fun p b H' R hp hb r => ⟨_, rfl, b, _, rfl, .inl (SqL.of hb), _, rfl, _, _, rfl, rfl, .inl ?_, ?_⟩) (fun H' D s1 hD0 hD => ?_)
    · rw [natsV_length, h64]
      have := hfew p hp
      omega
    · rw [natsV_length]
      exact r
    · refine ⟨D, _, rfl, SqL.of hD, ?_⟩
      rw [rounds_sum]
      exact q H' s1

def spDone (K : PySem.W.Frag) : Sp := fun vs H Q _ => ∃ (b : Nat) (q : Addr) (ps : List V) (ph : List Phase), vs = [.int b, .ref q] ∧ H q = some (.lst ps) ∧ AllAt (PhaseAt K q H) ps ph ∧ ph.length ≤ 8 ∧ (∀ p ∈ ph, p.pattern.length ≤ 3) ∧
  ∀ H', Same H H' → Q (.int (doneIn ph b : Nat)) H'
theorem mtCntK (K : PySem.W.Frag) {X : Cx} (h : X.K = K := by rfl) : MtR X "list.count" (rCntI K) := h ▸ mt_lcount
theorem has_done (D : Ds K mg) (T : Txt K mg) : Has P w K mg base CX0 1 "branch_done" p_branch_done (spDone K) := by
  refine D.branch_done.has fun f fd F => F.ok c_branch_done (fun vs H Q E h => ?_) (fun cdv A outer s H vs Q E hr h => ⟨_,
    pss_one (ps_ret (pe_callB (cr_sum rfl) (by rfl) T.sum (by decide +kernel) (pa_cons (pe_lc (own := [("pattern", 2), ("often", 3)]) (g := gTup K 2 (gCons (gName 2) (gCons (gName 3) gNil))) (tt := tYes)
      (te := tOp (rI CMul fun i j => .int (i * j)) (tBM K "list" (rCntI K) (tVar 2) (tCons (tVar 0) tNil)) (tVar 3)) rfl c_branch_done.nd (pi_list (pv 1))
      (blkOk_by (N := n_branch_done) (sc := defScope s_branch_done) (by decide +kernel))
      (fun _ _ _ _ _ => pg_tup rfl (pgs_cons (pg_name (i := 2) c_branch_done.nd rfl (Or.inl rfl)) (pgs_cons (pg_name (i := 3) c_branch_done.nd rfl (Or.inl rfl)) pgs_nil))) (fun _ _ _ _ _ => pts_nil)
      (fun _ _ _ _ _ => pe_op op_mul (pe_bm PySem.F.plainAttrs_list PySem.F.slot_list_count PySem.F.type_list_count (mtCntK K) (pv 2) (pa_cons (pv 0) pa_nil)) (pv 3))) pa_nil))), ?_⟩)
  · obtain ⟨b, q, ps, ph, rfl, _⟩ := h
    rfl
  · obtain ⟨b, qa, ps, ph, rfl, hq, hps, h8, hfew, q⟩ := h
    have h64 : (2 : Int) ^ 64 = 18446744073709551616 := by decide
    dsimp only [tRet, tCB, tCons]
    refine tLc_phases (K := K) (q := qa) (ps := ps) (ph := ph) (fun p => (((nats p.pattern).count (b : Int) : Nat) : Int) * (p.times : Nat)) (fun R r => ⟨_, rfl, qa, rfl, ⟨_, SqL.of hq⟩, r⟩) hq hps h8 (fun x y => rfl)
      (fun p c H' R hp hb r => ⟨_, rfl, .inl ⟨rfl, _, .inl (.inl hb)⟩, _, rfl, c, nats p.pattern, (b : Int), rfl, rfl, SqL.of hb, _, rfl, _, _, rfl, rfl, .inl ?_, r⟩) (fun H' D s1 hD0 hD => ?_)
    · rw [h64]
      have h1 := hfew p hp
      have h2 : (nats p.pattern).count (b : Int) ≤ (nats p.pattern).length := List.count_le_length
      rw [nats_length] at h2
      omega
    · refine ⟨D, _, rfl, SqL.of hD, ?_⟩
      rw [done_sum]
      exact q H' s1
end LL
/-! P4a -/
namespace LL
open PySem PySem.Spec PyProof.Rows L2
open VaaclBase hiding Given Move Program Piece run
open Vaacld
variable {P : PySem.Program} {w : World} {K : PySem.W.Frag} {mg : Str → Option Value} {base : Heap}

/-! ### objects: attributes, methods -/
theorem lk_here {k : Str} {v : V} {r : List (Str × V)} : List.lookup k ((k, v) :: r) = some v := by
  have e : (k == k) = true := beq_self_eq_true k
  simp only [List.lookup, e]
theorem lk_past {k g : Str} {v : V} {r : List (Str × V)} (h : (k == g) = false) : List.lookup k ((g, v) :: r) = List.lookup k r := by
  simp only [List.lookup, h]
theorem put_here {f : Str} {v x : V} {r : List (Str × V)} : putF f v ((f, x) :: r) = (f, v) :: r := if_pos rfl
theorem put_past {f g : Str} {v x : V} {r : List (Str × V)} (h : ¬ g = f) : putF f v ((g, x) :: r) = (g, x) :: putF f v r := if_neg h
/-- a method of a class -/
def MethAt (K : PySem.W.Frag) (C : Addr) (m qual : Str) (st : Stmt) (ps : List Str) : Prop := ∃ f fd, Meth K C m f ∧ Fun K m qual st f fd ∧ Binds K fd ps []
def InitAt (K : PySem.W.Frag) (C : Addr) (qual : Str) (st : Stmt) (ps : List Str) : Prop := ∃ f fd, Mk K C f ∧ Fun K "__init__" qual st f fd ∧ Binds K fd ps []
def HasM (P : PySem.Program) (w : World) (K : PySem.W.Frag) (mg : Str → Option Value) (base : Heap) (CX : CXT) (k : Nat) (C : Addr) (m : Str) (ps : List Str) (sp : Sp) : Prop :=
  ∃ f fd, Meth K C m f ∧ Binds K fd ps [] ∧ FnOk P w K mg base CX k f fd ps sp
def HasI (P : PySem.Program) (w : World) (K : PySem.W.Frag) (mg : Str → Option Value) (base : Heap) (CX : CXT) (k : Nat) (C : Addr) (ps : List Str) (sp : Sp) : Prop :=
  ∃ f fd, Mk K C f ∧ Binds K fd ps [] ∧ FnOk P w K mg base CX k f fd ps sp
theorem MethAt.has {CX : CXT} {k : Nat} {C : Addr} {m qual : Str} {st : Stmt} {ps : List Str} {sp : Sp} (D : MethAt K C m qual st ps)
    (h : ∀ f fd, Fun K m qual st f fd → FnOk P w K mg base CX k f fd ps sp) : HasM P w K mg base CX k C m ps sp := by
  obtain ⟨f, fd, g, F, b⟩ := D
  exact ⟨f, fd, g, b, h f fd F⟩
theorem InitAt.has {CX : CXT} {k : Nat} {C : Addr} {qual : Str} {st : Stmt} {ps : List Str} {sp : Sp} (D : InitAt K C qual st ps)
    (h : ∀ f fd, Fun K "__init__" qual st f fd → FnOk P w K mg base CX k f fd ps sp) : HasI P w K mg base CX k C ps sp := by
  obtain ⟨f, fd, g, F, b⟩ := D
  exact ⟨f, fd, g, b, h f fd F⟩
/-- o.m(e, ..), what it raises is wished for at the slots as they stand -/
def tMethS (C : Addr) (m : Str) (sp : Sp) (E : L2.St → XK) (ta : TE) (t : TA) : TE := fun σ H Q => ta σ H fun x H1 => ∃ a dx fs, x = .ref a ∧ H1 a = some (.ins C dx fs) ∧ fs.lookup m = none ∧ t σ H1 fun vs H2 => sp (x :: vs) H2 Q (E σ)
theorem pe_methX {X : Cx} {CX : CXT} {k : Nat} {C : Addr} {ps : List Str} {sp : Sp} {E : L2.St → XK} {m : Str} {pos apos : Pos} {e o : Expr} {es : List Expr} {ta : TE} {t : TA} {pl : Sem Bool} (he : PE X o ta) (c : Cls X.K C)
    (h : HasM X.prog X.w X.K X.mg X.base CX k C m ps sp) (hr : Room k X.A) (hx : ∀ σ, PassesAt CX X σ (E σ)) (ha : PA X (e :: es) t)
    (hst : starEach (e :: es) X.env = (false, eval e X.env) :: starEach es X.env := by rfl) (hpl : (backTo pos (starEach es X.env)).any (·.1) = false := by rfl)
    (ht : eval (.Call (.Attribute o m apos) (e :: es) [] pos) X.env = (do
      let ov ← eval o X.env
      standAt apos.atName
      let (f, first) ← holding [ov] (getMethod ov m pl)
      callWith pos f first (backTo pos (starEach (e :: es) X.env)) (backToKw pos (keywordEach [] X.env))) := by rfl) :
    PE X (.Call (.Attribute o m apos) (e :: es) [] pos) (tMethS C m sp E ta t) := by
  obtain ⟨f, fd, hm, hb, F⟩ := h
  refine ⟨fun pins s σ H Q I h => ?_⟩
  refine PySem.W.methodCall_KW (pl := pl) (thn (he.run pins s σ H _ I h) fun u s1 ⟨x, H1, I1, rx, a, dx, fs, ex, ea, l, q⟩ => ?_) ht
  subst ex
  obtain rfl : u = Value.ref a := rx
  refine getmeth_ok I1 ea c hm l ?_
  refine PySem.W.callWith_K (first := [.ref a]) (h₀ := X.base) I.ok.mod.kin hm.kp (thn (ha.run pos pins s1 σ H1 _ I1 q) fun us s2 ⟨vs, H2, I2, r, q2⟩ => ⟨I2.kIn, ?_⟩) hst hpl
  exact run_fnS (us := .ref a :: us) (vs := .ref a :: vs) F hr hb (hx σ) I2 (.cons rfl r) q2
theorem pe_methX0 {X : Cx} {CX : CXT} {k : Nat} {C : Addr} {ps : List Str} {sp : Sp} {E : L2.St → XK} {m : Str} {pos apos : Pos} {o : Expr} {ta : TE} {pl : Sem Bool} (he : PE X o ta) (c : Cls X.K C)
    (h : HasM X.prog X.w X.K X.mg X.base CX k C m ps sp) (hr : Room k X.A) (hx : ∀ σ, PassesAt CX X σ (E σ))
    (ht : eval (.Call (.Attribute o m apos) [] [] pos) X.env = (do
      let ov ← eval o X.env
      standAt apos.atName
      let (f, first) ← holding [ov] (getMethod ov m pl)
      callWith pos f first (backTo pos (starEach [] X.env)) (backToKw pos (keywordEach [] X.env))) := by rfl) :
    PE X (.Call (.Attribute o m apos) [] [] pos) (Bits.tMethS0 C m sp E ta) := by
  obtain ⟨f, fd, hm, hb, F⟩ := h
  exact Bits.pe_methS0 (pl := pl) he c hm F hr hb hx ht
theorem pass00 {X : Cx} (σ : L2.St) : PassesAt CX0 X σ E0 := fun _ _ _ _ _ _ h => False.elim h
/-- C(e, ..) -/
def tMakeH (C : Addr) (sp : Sp) (t : TA) : TE := tMake C sp [] E0 t
theorem pe_makeH {X : Cx} {k : Nat} {C : Addr} {ps : List Str} {sp : Sp} {x : Str} {p pos : Pos} {e : Expr} {es : List Expr} {t : TA} (h : HasI X.prog X.w X.K X.mg X.base CX0 k C ps sp) (hr : Room (k + 1) X.A) (hg : Gl X x) (hm : X.mg x = some (.ref C))
    (ha : PA X (e :: es) t) (hdb : (x == ("__debug__" : Str)) = false := by decide) (he : starEach (e :: es) X.env = (false, eval e X.env) :: starEach es X.env := by rfl) (hpl : (backTo pos (starEach es X.env)).any (·.1) = false := by rfl) :
    PE X (.Call (.Name x p) (e :: es) [] pos) (tMakeH C sp t) := by
  obtain ⟨f, fd, M, hb, F⟩ := h
  exact pe_make M F hr hg hm hb .nil pass0 ha hdb he hpl
theorem pe_makeH0 {X : Cx} {k : Nat} {C : Addr} {ps : List Str} {sp : Sp} {x : Str} {p pos : Pos} (h : HasI X.prog X.w X.K X.mg X.base CX0 k C ps sp) (hr : Room (k + 1) X.A) (hg : Gl X x) (hm : X.mg x = some (.ref C))
    (hdb : (x == ("__debug__" : Str)) = false := by decide) :
    PE X (.Call (.Name x p) [] [] pos) (tMakeH C sp tNil) := by
  obtain ⟨f, fd, M, hb, F⟩ := h
  exact pe_make0 M F hr hg hm hb .nil pass0 hdb

/-- all but one object as it was -/
def But (r : Addr) (H H' : Hp) : Prop := ∀ b o, H b = some o → b ≠ r → H' b = some o
theorem But.trans {r : Addr} {H H1 H2 : Hp} (a : But r H H1) (b : But r H1 H2) : But r H H2 := fun c o h n => b c o (a c o h n) n
theorem But.refl (r : Addr) (H : Hp) : But r H H := fun _ _ h _ => h
theorem But.of {r : Addr} {H H' : Hp} (s : Same H H') : But r H H' := fun b o h _ => s b o h
theorem But.upd {r : Addr} {H : Hp} {o : HO} : But r H (upd H r o) := fun b o' h n => by rw [upd_ne n]; exact h
theorem But.seq {r C : Addr} {dx : Addr} {fs : List (Str × V)} {H H' : Hp} (b : But r H H') (hr : H r = some (.ins C dx fs)) {a : Addr} {xs : List V} (h : SqL K H a xs) : SqL K H' a xs := by
  rcases h with (h | ⟨o, h⟩) | h
  · exact .inl (.inl (b _ _ h (by rintro rfl; rw [hr] at h; cases h)))
  · exact .inl (.inr ⟨o, b _ _ h (by rintro rfl; rw [hr] at h; cases h)⟩)
  · exact .inr h
theorem But.tup {r C : Addr} {dx : Addr} {fs : List (Str × V)} {H H' : Hp} (b : But r H H') (hr : H r = some (.ins C dx fs)) {a : Addr} {xs : List V} (h : SqT K H a xs) : SqT K H' a xs := by
  rcases h with (h | ⟨o, h⟩) | h
  · exact .inl (.inl (b _ _ h (by rintro rfl; rw [hr] at h; cases h)))
  · exact .inl (.inr ⟨o, b _ _ h (by rintro rfl; rw [hr] at h; cases h)⟩)
  · exact .inr h
/-- an object made, its __init__ has changed it alone -/
theorem made_same {H H1 : Hp} {x dx C : Addr} (nx : H x = none) (nd : H dx = none) (k : But x (upd (upd H dx (.own x)) x (.ins C dx [])) H1) : Same H H1 := Same.made nx nd k

/-! ### the Reader -/
def rF (na : Addr) (p : Nat) : List (Str × V) := [("numbers", .ref na), ("place", .int p)]
def RdAt (C : Addr) (H : Hp) (r na : Addr) (p : Nat) : Prop := ∃ dx, H r = some (.ins C dx (rF na p))
theorem rF_numbers (na : Addr) (p : Nat) : (rF na p).lookup ("numbers" : Str) = some (.ref na) := lk_here
theorem rF_place (na : Addr) (p : Nat) : (rF na p).lookup ("place" : Str) = some (.int p) := (lk_past (by decide +kernel)).trans lk_here
theorem rF_no {m : Str} (h1 : (m == ("numbers" : Str)) = false) (h2 : (m == ("place" : Str)) = false) (na : Addr) (p : Nat) : (rF na p).lookup m = none := (lk_past h1).trans ((lk_past h2).trans rfl)
theorem rF_put (na : Addr) (p q : Nat) : putF "place" (.int q) (rF na p) = rF na q := (put_past (by decide +kernel)).trans (congrArg _ put_here)
theorem rF_new (na : Addr) : putF "place" (.int 0) (putF "numbers" (.ref na) []) = rF na 0 := (put_past (by decide +kernel)).trans rfl

/-- what the top has written of the classes NotWhole and Reader -/
structure TR (K : PySem.W.Frag) (mg : Str → Option Value) (C CF : Addr) : Prop where
  cl : Cls K C
  nN : NoAttr K C "numbers"
  nP : NoAttr K C "place"
  gC : mg "Reader" = some (.ref C)
  gF : mg "NotWhole" = some (.ref CF)
  xF : PySem.W.excIn K CF [.type "Exception", .type "BaseException", .type "object"] "Exception.__new__" = true
  kF : PySem.W.keepIn K (.ref CF) = true
  bF : PySem.W.subIn K (.ref CF) (.type "BaseException") = some true
  tF : PySem.W.typeIn K (.ref CF) = some (.type "type")
  eF : PySem.W.exmOne K (.ref CF) (.ref CF) = some true
  init : InitAt K C "Reader.__init__" s_Reader___init__ p_Reader___init__
  at_end : MethAt K C "at_end" "Reader.at_end" s_Reader_at_end p_Reader_at_end
  number : MethAt K C "number" "Reader.number" s_Reader_number p_Reader_number
  number_within : MethAt K C "number_within" "Reader.number_within" s_Reader_number_within p_Reader_number_within
  row : MethAt K C "row" "Reader.row" s_Reader_row p_Reader_row
  finish : MethAt K C "finish" "Reader.finish" s_Reader_finish p_Reader_finish

def spRInit (C : Addr) : Sp := fun vs H Q _ => ∃ (r na dx : Addr), vs = [.ref r, .ref na] ∧ H r = some (.ins C dx []) ∧ ∀ H', RdAt C H' r na 0 → But r H H' → Q .non H'
theorem has_rinit {C CF : Addr} (R : TR K mg C CF) : HasI P w K mg base CX0 1 C p_Reader___init__ (spRInit C) := by
  refine R.init.has fun f fd F => F.ok c_Reader___init__ (fun vs H Q E h => ?_) (fun cdv A outer s H vs Q E hr h => ⟨_,
    pss_cons (ps_fld (pv 0) (pv 1) rfl) (pss_one (ps_fld (pv 0) pe_int rfl)), ?_⟩)
  · obtain ⟨r, na, dx, rfl, _⟩ := h
    rfl
  · obtain ⟨r, na, dx, rfl, hr0, q⟩ := h
    refine ⟨_, rfl, _, rfl, r, C, dx, [], rfl, hr0, R.cl, R.nN, (by show 0 < 1000; decide), ?_⟩
    refine ⟨_, rfl, r, C, dx, _, rfl, upd_same, R.cl, R.nP, (by show 1 < 1000; decide), ?_⟩
    refine q _ ⟨dx, ?_⟩ (But.upd.trans But.upd)
    rw [upd_same]
    exact congrArg (fun z => some (HO.ins C dx z)) (rF_new na)

def spAtEnd (K : PySem.W.Frag) (C : Addr) : Sp := fun vs H Q _ => ∃ (r na : Addr) (L : List Int) (p : Nat), vs = [.ref r] ∧ RdAt C H r na p ∧ SqL K H na (L.map V.int) ∧ Q (.bl (decide (L.length ≤ p))) H
theorem has_atend {C CF : Addr} (T : Txt K mg) (R : TR K mg C CF) : HasM P w K mg base CX0 1 C "at_end" p_Reader_at_end (spAtEnd K C) := by
  refine R.at_end.has fun f fd F => F.ok c_Reader_at_end (fun vs H Q E h => ?_) (fun cdv A outer s H vs Q E hr h => ⟨_,
    pss_one (ps_ret (pe_cmpR op_ge (pe_fld (pv 0) rfl) (pe_callB call_len_seq (by rfl) T.len PySem.boot_len (pa_cons (pe_fld (pv 0) rfl) pa_nil)) (nomark _))), ?_⟩)
  · obtain ⟨r, na, L, p, rfl, _⟩ := h
    rfl
  · obtain ⟨r, na, L, p, rfl, ⟨dx, hr0⟩, hL, q⟩ := h
    refine ⟨_, rfl, r, C, dx, _, _, rfl, hr0, R.cl, R.nP, rF_place na p, _, rfl, r, C, dx, _, _, rfl, hr0, R.cl, R.nN, rF_numbers na p, na, _, rfl, .inl hL, _, _, rfl, rfl, ?_⟩
    have e : (V.bl (decide (((L.map V.int).length : Int) ≤ (p : Int)))) = V.bl (decide (L.length ≤ p)) := by
      rw [List.length_map]
      congr 1
      apply decide_eq_decide.2
      omega
    show Q (V.bl (decide (((L.map V.int).length : Int) ≤ (p : Int)))) H
    rw [e]
    exact q

/-- the next number: read off, or the error -/
def spNumber (K : PySem.W.Frag) (C CF : Addr) : Sp := fun vs H Q E => ∃ (r na : Addr) (L : List Int) (p : Nat), vs = [.ref r] ∧ RdAt C H r na p ∧ SqL K H na (L.map V.int) ∧ p ≤ L.length ∧
  (L.drop p = [] → E (.ref CF) none H) ∧ (∀ z rest, L.drop p = z :: rest → ∀ H', RdAt C H' r na (p + 1) → But r H H' → Q (.int z) H')
theorem has_number {C CF : Addr} (T : Txt K mg) (R : TR K mg C CF) : HasM P w K mg base (L2.CX P w) 2 C "number" p_Reader_number (spNumber K C CF) := by
  have GE := has_atend (P := P) (w := w) (base := base) T R
  refine R.number.has fun f fd F => F.okX c_Reader_number (fun vs H Q E h => ?_) (fun cdv A outer s H vs Q E hr h => ⟨_,
    pss_cons (ps_if (pt_val (pe_methX0 (E := fun _ => E0) (pv 0) R.cl GE hr pass00)) (pss_one (ps_raise rfl (takes_of rfl rfl rfl rfl) (Bits.pmk_own0 PySem.F.excBase_Exception R.xF R.gF R.kF (raises_own R.bF R.tF) rfl))) pss_nil)
      (pss_cons (ps_set (i := 1) c_Reader_number.nd rfl (.inl rfl) (pe_ix ix_list (pe_fld (pv 0) rfl) (pe_fld (pv 0) rfl) (fun _ _ => rfl)))
      (pss_cons (ps_fldaug (pv 0) pe_int in_add)
      (pss_one (ps_ret (pv 1))))), ?_⟩)
  · obtain ⟨r, na, L, p, rfl, _⟩ := h
    rfl
  · obtain ⟨r, na, L, p, rfl, ⟨dx, hr0⟩, hL, hp, hN, hS⟩ := h
    refine ⟨_, rfl, r, dx, _, rfl, hr0, rF_no (by decide +kernel) (by decide +kernel) na p, r, na, L, p, rfl, ⟨dx, hr0⟩, hL, _, rfl, ?_⟩
    refine ite2 (fun c => ?_) (fun c => ?_)
    · have c : L.length ≤ p := of_decide_eq_true c
      exact hN (List.drop_eq_nil_of_le c)
    · have c : p < L.length := by
        have c : ¬ L.length ≤ p := fun z => c (decide_eq_true z)
        omega
      have hz : L[p]? = some L[p] := List.getElem?_eq_getElem c
      refine ⟨_, rfl, r, C, dx, _, _, rfl, hr0, R.cl, R.nN, rF_numbers na p, _, rfl, r, C, dx, _, _, rfl, hr0, R.cl, R.nP, rF_place na p, _, _, _, _, rfl, rfl, hL, at_ints' hz, ?_⟩
      refine ⟨_, rfl, r, C, dx, _, _, rfl, hr0, R.cl, R.nP, rF_place na p, _, _, rfl, rfl, dx, _, hr0, (by show 2 < 1000; decide), ?_⟩
      refine ⟨_, rfl, hS L[p] (L.drop (p + 1)) (List.drop_eq_getElem_cons c) _ ⟨dx, ?_⟩ But.upd⟩
      rw [upd_same]
      exact congrArg (fun z => some (HO.ins C dx z)) (rF_put na p (p + 1))

/-- a reading of A: read off, or the error; what else is tracked is as it was -/
def Reads' {A : Type} (C CF : Addr) (enc : Hp → V → A → Prop) (R : Reader A) (r na : Addr) (L : List Int) (p : Nat) (H : Hp) (Q : VK) (E : XK) : Prop :=
  (R (L.drop p) = none → ∀ H', But r H H' → E (.ref CF) none H') ∧
  (∀ u rest, R (L.drop p) = some (u, rest) → ∀ H' v p', RdAt C H' r na p' → But r H H' → L.drop p' = rest → p' ≤ L.length → enc H' v u → Q v H')
def encI : Hp → V → Int → Prop := fun _ v z => v = .int z
theorem drop_succ {L : List Int} {p : Nat} {z : Int} {rest : List Int} (h : L.drop p = z :: rest) : L.drop (p + 1) = rest ∧ p + 1 ≤ L.length := by
  have hp : p < L.length := by
    apply Classical.byContradiction
    intro hn
    rw [List.drop_eq_nil_of_le (by omega)] at h
    cases h
  have e := List.drop_eq_getElem_cons hp
  rw [e] at h
  cases h
  exact ⟨rfl, hp⟩
def spWithin (K : PySem.W.Frag) (C CF : Addr) : Sp := fun vs H Q E => ∃ (r na : Addr) (L : List Int) (p : Nat) (lo hi : Int), vs = [.ref r, .int lo, .int hi] ∧ RdAt C H r na p ∧ SqL K H na (L.map V.int) ∧ p ≤ L.length ∧
  Reads' C CF encI (readInt lo hi) r na L p H Q E
theorem has_within {C CF : Addr} (T : Txt K mg) (R : TR K mg C CF) : HasM P w K mg base (L2.CX P w) 3 C "number_within" p_Reader_number_within (spWithin K C CF) := by
  have GN := has_number (P := P) (w := w) (base := base) T R
  refine R.number_within.has fun f fd F => F.okX c_Reader_number_within (fun vs H Q E h => ?_) (fun cdv A outer s H vs Q E hr h => ⟨_,
    pss_cons (ps_set (i := 3) c_Reader_number_within.nd rfl (.inl rfl) (pe_methX0 (pv 0) R.cl GN hr (fun σ => passAt (takes_of rfl rfl rfl rfl) σ)))
      (pss_cons (ps_if (PW.pt (pw_or (pt_cmpR op_lt (pv 3) (pv 1) (nomark _)) (pw_or1 (pt_cmpR op_gt (pv 3) (pv 2) (nomark _))))) (pss_one (ps_raise rfl (takes_of rfl rfl rfl rfl) (Bits.pmk_own0 PySem.F.excBase_Exception R.xF R.gF R.kF (raises_own R.bF R.tF) rfl))) pss_nil)
      (pss_one (ps_ret (pv 3)))), ?_⟩)
  · obtain ⟨r, na, L, p, lo, hi, rfl, _⟩ := h
    rfl
  · obtain ⟨r, na, L, p, lo, hi, rfl, hR, hL, hp, hN, hS⟩ := h
    obtain ⟨dx, hr0⟩ := id hR
    refine ⟨_, rfl, r, dx, _, rfl, hr0, rF_no (by decide +kernel) (by decide +kernel) na p, r, na, L, p, rfl, hR, hL, hp, fun hd => ?_, fun z rest hd H' hR' hB => ?_⟩
    · exact hN (by rw [hd]; rfl) H (But.refl r H)
    · rw [hd] at hN hS
      obtain ⟨h1, h2⟩ := drop_succ hd
      refine ⟨_, rfl, _, rfl, _, _, rfl, rfl, _, rfl, ?_⟩
      refine ite2 (fun c => ?_) (fun c => ?_)
      · have c : z < lo := of_decide_eq_true c
        exact if_true_of rfl (hN (Mth.readInt_out rest (by omega)) H' hB)
      · have c : ¬ z < lo := fun q => c (decide_eq_true q)
        refine ⟨_, rfl, _, rfl, _, _, rfl, rfl, _, rfl, ite2 (fun c2 => ?_) (fun c2 => ?_)⟩
        · have c2 : hi < z := of_decide_eq_true c2
          exact hN (Mth.readInt_out rest (by omega)) H' hB
        · have c2 : ¬ hi < z := fun q => c2 (decide_eq_true q)
          exact ⟨_, rfl, hS z rest (Mth.readInt_in rest (by omega)) H' _ (p + 1) hR' hB h1 h2 rfl⟩

def spFinish (K : PySem.W.Frag) (C CF : Addr) : Sp := fun vs H Q E => ∃ (r na : Addr) (L : List Int) (p : Nat), vs = [.ref r] ∧ RdAt C H r na p ∧ SqL K H na (L.map V.int) ∧
  (L.drop p = [] → Q .non H) ∧ (L.drop p ≠ [] → E (.ref CF) none H)
theorem has_finish {C CF : Addr} (T : Txt K mg) (R : TR K mg C CF) : HasM P w K mg base (L2.CX P w) 2 C "finish" p_Reader_finish (spFinish K C CF) := by
  have GE := has_atend (P := P) (w := w) (base := base) T R
  refine R.finish.has fun f fd F => F.okX c_Reader_finish (fun vs H Q E h => ?_) (fun cdv A outer s H vs Q E hr h => ⟨_,
    pss_one (ps_if (pt_not (pt_val (pe_methX0 (E := fun _ => E0) (pv 0) R.cl GE hr pass00))) (pss_one (ps_raise rfl (takes_of rfl rfl rfl rfl) (Bits.pmk_own0 PySem.F.excBase_Exception R.xF R.gF R.kF (raises_own R.bF R.tF) rfl))) pss_nil), ?_⟩)
  · obtain ⟨r, na, L, p, rfl, _⟩ := h
    rfl
  · obtain ⟨r, na, L, p, rfl, hR, hL, hN, hS⟩ := h
    obtain ⟨dx, hr0⟩ := id hR
    refine ⟨_, rfl, r, dx, _, rfl, hr0, rF_no (by decide +kernel) (by decide +kernel) na p, r, na, L, p, rfl, hR, hL, _, rfl, ?_⟩
    by_cases c : L.length ≤ p
    · rw [decide_eq_true c]
      exact if_false_of rfl (hN (List.drop_eq_nil_of_le c))
    · rw [decide_eq_false c]
      refine if_true_of rfl (hS ?_)
      intro e
      apply c
      exact List.drop_eq_nil_iff.1 e

/-- a row: how many, they -/
def spRow (K : PySem.W.Frag) (C : Addr) : Sp := fun vs H Q _ => ∃ (r na : Addr) (L : List Int) (p n : Nat) (rest : List Int), vs = [.ref r] ∧ RdAt C H r na p ∧ SqL K H na (L.map V.int) ∧ L.drop p = (n : Int) :: rest ∧ n ≤ rest.length ∧
  ∀ H' q, RdAt C H' r na (p + 1 + n) → But r H H' → H q = none → H' q = some (.lst ((rest.take n).map V.int)) → Q (.ref q) H'
theorem has_row {C CF : Addr} (T : Txt K mg) (R : TR K mg C CF) : HasM P w K mg base CX0 3 C "row" p_Reader_row (spRow K C) := by
  have GN := has_number (P := P) (w := w) (base := base) T R
  refine R.row.has fun f fd F => F.ok c_Reader_row (fun vs H Q E h => ?_) (fun cdv A outer s H vs Q E hr h => ⟨_,
    pss_cons (ps_set (i := 1) c_Reader_row.nd rfl (.inl rfl) (pe_methX0 (E := fun _ => fun _ _ _ => False) (pv 0) R.cl GN hr (fun σ => Bits.passNone σ)))
      (pss_cons (ps_set (i := 2) c_Reader_row.nd rfl (.inl rfl) (pe_slice sl_list (pe_fld (pv 0) rfl) (po_some (pe_fld (pv 0) rfl)) (po_some (pe_op op_add (pe_fld (pv 0) rfl) (pv 1)))))
      (pss_cons (ps_fldaug (pv 0) (pv 1) in_add)
      (pss_one (ps_ret (pv 2))))), ?_⟩)
  · obtain ⟨r, na, L, p, n, rest, rfl, _⟩ := h
    rfl
  · obtain ⟨r, na, L, p, n, rest, rfl, hR, hL, hd, hn, q⟩ := h
    obtain ⟨dx, hr0⟩ := id hR
    obtain ⟨h1, h2⟩ := drop_succ hd
    refine ⟨_, rfl, r, dx, _, rfl, hr0, rF_no (by decide +kernel) (by decide +kernel) na p, r, na, L, p, rfl, hR, hL, by omega, (fun e => by rw [hd] at e; cases e), fun z rest' hd' H' hR' hB => ?_⟩
    rw [hd] at hd'
    cases hd'
    obtain ⟨dx', hr'⟩ := id hR'
    have hL' : SqL K H' na (L.map V.int) := hB.seq hr0 hL
    have hlen : L.length = p + 1 + rest.length := by
      have := congrArg List.length h1
      rw [List.length_drop] at this
      omega
    have hcut : cutV (L.map V.int) (some (((p + 1 : Nat)) : Int)) (some (((p + 1 + n : Nat)) : Int)) = (rest.take n).map V.int := by
      rw [cut_mid (by rw [List.length_map]; omega) (by omega), ← List.map_drop, h1, ← List.map_take]
      congr 2
      omega
    refine ⟨_, rfl, r, C, dx', _, _, rfl, hr', R.cl, R.nN, rF_numbers na (p + 1), _, rfl, r, C, dx', _, _, rfl, hr', R.cl, R.nP, rF_place na (p + 1), _, rfl, _, rfl, r, C, dx', _, _, rfl, hr', R.cl, R.nP, rF_place na (p + 1), _, rfl, _, _, rfl, rfl, ((p + 1 + n : Nat) : Int), (by show V.int (((p + 1 : Nat) : Int) + (n : Int)) = V.int _; rfl),
      na, _, rfl, hL', fun d hd0 => ?_⟩
    rw [hcut]
    have hrd : d ≠ r := by
      rintro rfl
      rw [hr'] at hd0
      cases hd0
    have hr2 : upd H' d (.lst ((rest.take n).map V.int)) r = some (.ins C dx' (rF na (p + 1))) := Same.new hd0 _ _ hr'
    refine ⟨_, rfl, r, C, dx', _, _, rfl, hr2, R.cl, R.nP, rF_place na (p + 1), _, rfl, _, _, rfl, rfl, dx', _, hr2, (by show 2 < 1000; decide), ?_⟩
    refine ⟨_, rfl, q _ d ⟨dx', ?_⟩ ((hB.trans (But.of (Same.new hd0))).trans But.upd) ?_ ?_⟩
    · rw [upd_same]
      exact congrArg (fun z => some (HO.ins C dx' z)) (rF_put na (p + 1) (p + 1 + n))
    · cases hH : H d with
      | none => rfl
      | some o =>
        have := hB d o hH hrd
        rw [hd0] at this
        cases this
    · rw [upd_ne hrd, upd_same]
end LL
/-! P4b -/
namespace LL
open PySem PySem.Spec PyProof.Rows L2
open VaaclBase hiding Given Move Program Piece run
open Vaacld
variable {P : PySem.Program} {w : World} {K : PySem.W.Frag} {mg : Str → Option Value} {base : Heap}

theorem RdAt.same {C r na : Addr} {p : Nat} {H H' : Hp} (h : RdAt C H r na p) (s : Same H H') : RdAt C H' r na p := by
  obtain ⟨dx, h⟩ := h
  exact ⟨dx, s _ _ h⟩
theorem eqV_int (a b : Int) : eqV (.int a) (.int b) = decide (a = b) := rfl
theorem in_div (d : Int) : inV (.int d) (([2, 3, 4, 6] : List Int).map V.int) = decide (d ∈ ([2, 3, 4, 6] : List Int)) := by
  unfold inV
  rw [List.any_map, Bool.eq_iff_iff]
  simp only [Function.comp, List.any_cons, List.any_nil, eqV_int, Bool.or_false, Bool.or_eq_true, decide_eq_true_eq, List.mem_cons, List.not_mem_nil, or_false]
  omega

/-! ### read_test -/
def spRTest (K : PySem.W.Frag) (C CF : Addr) : Sp := fun vs H Q E => ∃ (r na : Addr) (L : List Int) (p n : Nat), vs = [.ref r, .int n] ∧ 1 ≤ n ∧ RdAt C H r na p ∧ SqL K H na (L.map V.int) ∧ p ≤ L.length ∧
  Reads' C CF (TestAt K) (readTest n) r na L p H Q E
theorem has_rtest {C CF : Addr} (D : Ds K mg) (T : Txt K mg) (R : TR K mg C CF) : Has P w K mg base (L2.CX P w) 4 "read_test" p_read_test (spRTest K C CF) := by
  have GW := has_within (P := P) (w := w) (base := base) T R
  have GN := has_number (P := P) (w := w) (base := base) T R
  obtain ⟨aD, gD, sD⟩ := T.DIVISORS
  refine D.read_test.has fun f fd F => F.okX c_read_test (fun vs H Q E h => ?_) (fun cdv A outer s H vs Q E hr h => ⟨_,
    pss_cons (ps_set (i := 2) c_read_test.nd rfl (.inl rfl) (pe_methX (pv 0) R.cl GW hr (fun σ => passAt (takes_of rfl rfl rfl rfl) σ) (pa_cons (pe_gi rfl T.AT_MOST) (pa_cons (pe_gi rfl T.REMAINDER) pa_nil))))
      (pss_cons (ps_set (i := 3) c_read_test.nd rfl (.inl rfl) (pe_methX (pv 0) R.cl GW hr (fun σ => passAt (takes_of rfl rfl rfl rfl) σ) (pa_cons pe_int (pa_cons (pe_op op_sub (pv 1) pe_int) pa_nil))))
      (pss_cons (ps_if (pt_cmpR op_eq (pv 2) (pe_gi rfl T.REMAINDER) (nomark _))
        (pss_cons (ps_set (i := 4) c_read_test.nd rfl (.inl rfl) (pe_methX0 (pv 0) R.cl GN (hr.mono (by decide)) (fun σ => passAt (takes_of rfl rfl rfl rfl) σ)))
          (pss_cons (ps_if (pt_cmpR op_notIn_seq (pv 4) (pe_glob (v := .ref aD) rfl gD rfl) rfl) (pss_one (ps_raise rfl (takes_of rfl rfl rfl rfl) (Bits.pmk_own0 PySem.F.excBase_Exception R.xF R.gF R.kF (raises_own R.bF R.tF) rfl))) pss_nil)
          (pss_one (ps_ret (pe_tup (pa_cons (pv 2) (pa_cons (pv 3) (pa_cons (pv 4) (pa_cons (pe_methX (pv 0) R.cl GW hr (fun σ => passAt (takes_of rfl rfl rfl rfl) σ) (pa_cons pe_int (pa_cons (pe_op op_sub (pv 4) pe_int) pa_nil))) pa_nil))))))))) pss_nil)
      (pss_cons (ps_if (pt_cmpR op_eq (pv 2) (pe_gi rfl T.BELOW) (nomark _))
        (pss_cons (ps_set (i := 5) c_read_test.nd rfl (.inl rfl) (pe_methX (pv 0) R.cl GW hr (fun σ => passAt (takes_of rfl rfl rfl rfl) σ) (pa_cons pe_int (pa_cons (pe_op op_sub (pv 1) pe_int) pa_nil))))
          (pss_one (ps_ret (pe_tup (pa_cons (pv 2) (pa_cons (pv 3) (pa_cons (pv 5) (pa_cons (pe_methX (pv 0) R.cl GW hr (fun σ => passAt (takes_of rfl rfl rfl rfl) σ) (pa_cons (pe_un un_neg (pe_gi rfl T.MOST_IN_TESTS)) (pa_cons (pe_gi rfl T.MOST_IN_TESTS) pa_nil))) pa_nil)))))))) pss_nil)
      (pss_one (ps_ret (pe_tup (pa_cons (pv 2) (pa_cons (pv 3) (pa_cons (pe_methX (pv 0) R.cl GW hr (fun σ => passAt (takes_of rfl rfl rfl rfl) σ) (pa_cons (pe_un un_neg (pe_gi rfl T.MOST_IN_TESTS)) (pa_cons (pe_gi rfl T.MOST_IN_TESTS) pa_nil))) pa_nil))))))))), ?_⟩)
  · obtain ⟨r, na, L, p, n, rfl, _⟩ := h
    rfl
  · obtain ⟨r, na, L, p, n, rfl, hn, hR, hL, hp, hN, hS⟩ := h
    rw [Mth.pTest_eq hn] at hN
    simp only [Mth.pTest_eq hn] at hS
    unfold Mth.pTest at hN hS
    have no : ∀ q : Nat, List.lookup ("number_within" : Str) (rF na q) = none := rF_no (by decide +kernel) (by decide +kernel) na
    have no2 : ∀ q : Nat, List.lookup ("number" : Str) (rF na q) = none := rF_no (by decide +kernel) (by decide +kernel) na
    have four : 4 ≤ sizeLine := by decide
    have three : 3 ≤ sizeLine := by decide
    obtain ⟨dx, hr0⟩ := id hR
    refine ⟨_, rfl, r, dx, _, rfl, hr0, no p, r, na, L, p, 0, 3, rfl, hR, hL, hp, fun e H1 hB1 => ?_, fun k x1 e H1 v p1 hR1 hB1 hd1 hp1 hv => ?_⟩
    · rw [e] at hN
      exact hN rfl H1 hB1
    · obtain rfl : v = .int k := hv
      have hk := (Mth.readInt_some e).2
      rw [e] at hN hS
      simp only at hN hS
      rw [← hd1] at hN hS
      have hL1 := hB1.seq hr0 hL
      obtain ⟨dx1, hr1⟩ := id hR1
      refine ⟨_, rfl, r, dx1, _, rfl, hr1, no p1, _, rfl, _, _, rfl, rfl, r, na, L, p1, 0, (n : Int) - 1, rfl, hR1, hL1, hp1, fun e2 H2 hB2 => ?_, fun c x2 e2 H2 v p2 hR2 hB2 hd2 hp2 hv => ?_⟩
      · rw [e2] at hN
        exact hN rfl H2 (hB1.trans hB2)
      · obtain rfl : v = .int c := hv
        have hc := (Mth.readInt_some e2).2
        rw [e2] at hN hS
        simp only at hN hS
        rw [← hd2] at hN hS
        have hB12 := hB1.trans hB2
        have hL2 := hB2.seq hr1 hL1
        obtain ⟨dx2, hr2⟩ := id hR2
        refine ⟨_, rfl, rfl, _, rfl, ?_⟩
        by_cases hk3 : k = 3
        · subst hk3
          simp only [if_true] at hN hS
          refine if_true_of rfl ?_
          refine ⟨_, rfl, r, dx2, _, rfl, hr2, no2 p2, r, na, L, p2, rfl, hR2, hL2, hp2, fun e3 => ?_, fun d x3 e3 H3 hR3 hB3 => ?_⟩
          · rw [e3] at hN
            exact hN rfl H2 hB12
          · rw [e3] at hN hS
            simp only at hN hS
            obtain ⟨hd3, hp3⟩ := drop_succ e3
            have hB13 := hB12.trans hB3
            have hL3 := hB3.seq hr2 hL2
            obtain ⟨dx3, hr3⟩ := id hR3
            refine ⟨_, rfl, aD, _, rfl, .inr (sD H3), rfl, rfl, _, rfl, ?_⟩
            rw [in_div]
            by_cases hdd : d ∈ ([2, 3, 4, 6] : List Int)
            · rw [decide_eq_true hdd]
              rw [if_pos hdd] at hN
              simp only [if_pos hdd] at hS
              rw [← hd3] at hN hS
              refine if_false_of rfl ?_
              refine ⟨_, rfl, _, rfl, _, rfl, _, rfl, r, dx3, _, rfl, hr3, no (p2 + 1), _, rfl, _, _, rfl, rfl, r, na, L, p2 + 1, 0, d - 1, rfl, hR3, hL3, hp3, fun e4 H4 hB4 => ?_, fun m x4 e4 H4 v p4 hR4 hB4 hd4 hp4 hv => ?_⟩
              · rw [e4] at hN
                exact hN rfl H4 (hB13.trans hB4)
              · obtain rfl : v = .int m := hv
                have hm := (Mth.readInt_some e4).2
                rw [e4] at hS
                simp only at hS
                refine ⟨four, fun t ht => ?_⟩
                have st := Same.new (o := HO.tup [.int 3, .int c, .int d, .int m]) ht
                have hdn : 0 ≤ d := by
                  have : d = 2 ∨ d = 3 ∨ d = 4 ∨ d = 6 := by simpa using hdd
                  omega
                refine hS _ _ rfl _ (.ref t) p4 (hR4.same st) ((hB13.trans hB4).trans (But.of st)) hd4 hp4 ⟨t, rfl, SqT.of ?_⟩
                rw [upd_same]
                show _ = some (HO.tup [.int 3, .int ((c.toNat : Nat) : Int), .int ((d.toNat : Nat) : Int), .int ((m.toNat : Nat) : Int)])
                rw [Int.toNat_of_nonneg hc.1, Int.toNat_of_nonneg hdn, Int.toNat_of_nonneg hm.1]
            · rw [decide_eq_false hdd]
              rw [if_neg hdd] at hN
              refine if_true_of rfl ?_
              exact hN rfl H3 hB13
        · simp only [if_neg hk3] at hN hS
          refine if_false_of (decide_eq_false (fun q => hk3 (V.int.inj q))) ?_
          refine ⟨_, rfl, rfl, _, rfl, ?_⟩
          by_cases hk2 : k = 2
          · subst hk2
            simp only [if_true] at hN hS
            refine if_true_of rfl ?_
            refine ⟨_, rfl, r, dx2, _, rfl, hr2, no p2, _, rfl, _, _, rfl, rfl, r, na, L, p2, 0, (n : Int) - 1, rfl, hR2, hL2, hp2, fun e3 H3 hB3 => ?_, fun o x3 e3 H3 v p3 hR3 hB3 hd3 hp3 hv => ?_⟩
            · rw [e3] at hN
              exact hN rfl H3 (hB12.trans hB3)
            · obtain rfl : v = .int o := hv
              have ho := (Mth.readInt_some e3).2
              rw [e3] at hN hS
              simp only at hN hS
              rw [← hd3] at hN hS
              have hB13 := hB12.trans hB3
              have hL3 := hB3.seq hr2 hL2
              obtain ⟨dx3, hr3⟩ := id hR3
              refine ⟨_, rfl, _, rfl, _, rfl, _, rfl, r, dx3, _, rfl, hr3, no p3, _, rfl, r, na, L, p3, -999999, 999999, rfl, hR3, hL3, hp3, fun e4 H4 hB4 => ?_, fun z x4 e4 H4 v p4 hR4 hB4 hd4 hp4 hv => ?_⟩
              · rw [e4] at hN
                exact hN rfl H4 (hB13.trans hB4)
              · obtain rfl : v = .int z := hv
                rw [e4] at hS
                simp only at hS
                refine ⟨four, fun t ht => ?_⟩
                have st := Same.new (o := HO.tup [.int 2, .int c, .int o, .int z]) ht
                refine hS _ _ rfl _ (.ref t) p4 (hR4.same st) ((hB13.trans hB4).trans (But.of st)) hd4 hp4 ⟨t, rfl, SqT.of ?_⟩
                rw [upd_same]
                show _ = some (HO.tup [.int 2, .int ((c.toNat : Nat) : Int), .int ((o.toNat : Nat) : Int), .int z])
                rw [Int.toNat_of_nonneg hc.1, Int.toNat_of_nonneg ho.1]
          · simp only [if_neg hk2] at hN hS
            refine if_false_of (decide_eq_false (fun q => hk2 (V.int.inj q))) ?_
            refine ⟨_, rfl, _, rfl, _, rfl, r, dx2, _, rfl, hr2, no p2, _, rfl, r, na, L, p2, -999999, 999999, rfl, hR2, hL2, hp2, fun e4 H4 hB4 => ?_, fun z x4 e4 H4 v p4 hR4 hB4 hd4 hp4 hv => ?_⟩
            · rw [e4] at hN
              exact hN rfl H4 (hB12.trans hB4)
            · obtain rfl : v = .int z := hv
              rw [e4] at hS
              simp only at hS
              refine ⟨three, fun t ht => ?_⟩
              have st := Same.new (o := HO.tup [.int k, .int c, .int z]) ht
              refine hS _ _ rfl _ (.ref t) p4 (hR4.same st) ((hB12.trans hB4).trans (But.of st)) hd4 hp4 ⟨t, rfl, SqT.of ?_⟩
              rw [upd_same]
              have hk01 : k = 0 ∨ k = 1 := by omega
              rcases hk01 with rfl | rfl
              · show _ = some (HO.tup [.int 0, .int ((c.toNat : Nat) : Int), .int z])
                rw [Int.toNat_of_nonneg hc.1]
              · show _ = some (HO.tup [.int 1, .int ((c.toNat : Nat) : Int), .int z])
                rw [Int.toNat_of_nonneg hc.1]

/-! ### read_part -/
def spRPart (K : PySem.W.Frag) (C CF : Addr) : Sp := fun vs H Q E => ∃ (r na : Addr) (L : List Int) (p n : Nat), vs = [.ref r, .int n] ∧ 1 ≤ n ∧ RdAt C H r na p ∧ SqL K H na (L.map V.int) ∧ p ≤ L.length ∧
  Reads' C CF (PartAt K) (readGiven n) r na L p H Q E
theorem has_rpart {C CF : Addr} (D : Ds K mg) (T : Txt K mg) (R : TR K mg C CF) : Has P w K mg base (L2.CX P w) 4 "read_part" p_read_part (spRPart K C CF) := by
  have GW := has_within (P := P) (w := w) (base := base) T R
  refine D.read_part.has fun f fd F => F.okX c_read_part (fun vs H Q E h => ?_) (fun cdv A outer s H vs Q E hr h => ⟨_,
    pss_cons (ps_set (i := 2) c_read_part.nd rfl (.inl rfl) (pe_methX (pv 0) R.cl GW hr (fun σ => passAt (takes_of rfl rfl rfl rfl) σ) (pa_cons (pe_gi rfl T.GIVEN_NUMBER) (pa_cons (pe_gi rfl T.GIVEN_COUNTER) pa_nil))))
      (pss_cons (ps_if (pt_cmpR op_eq (pv 2) (pe_gi rfl T.GIVEN_NUMBER) (nomark _))
        (pss_one (ps_ret (pe_tup (pa_cons (pv 2) (pa_cons (pe_methX (pv 0) R.cl GW hr (fun σ => passAt (takes_of rfl rfl rfl rfl) σ) (pa_cons (pe_un un_neg (pe_gi rfl T.MOST_IN_MOVES)) (pa_cons (pe_gi rfl T.MOST_IN_MOVES) pa_nil))) pa_nil))))) pss_nil)
      (pss_cons (ps_set (i := 3) c_read_part.nd rfl (.inl rfl) (pe_methX (pv 0) R.cl GW hr (fun σ => passAt (takes_of rfl rfl rfl rfl) σ) (pa_cons pe_int (pa_cons (pe_op op_sub (pv 1) pe_int) pa_nil))))
      (pss_one (ps_ret (pe_tup (pa_cons (pv 2) (pa_cons (pv 3) (pa_cons (pe_methX (pv 0) R.cl GW hr (fun σ => passAt (takes_of rfl rfl rfl rfl) σ) (pa_cons (pe_un un_neg (pe_gi rfl T.MOST_IN_MOVES)) (pa_cons (pe_gi rfl T.MOST_IN_MOVES) pa_nil))) pa_nil)))))))), ?_⟩)
  · obtain ⟨r, na, L, p, n, rfl, _⟩ := h
    rfl
  · obtain ⟨r, na, L, p, n, rfl, hn, hR, hL, hp, hN, hS⟩ := h
    rw [Mth.pGiven_eq hn] at hN
    simp only [Mth.pGiven_eq hn] at hS
    unfold Mth.pGiven at hN hS
    have no : ∀ q : Nat, List.lookup ("number_within" : Str) (rF na q) = none := rF_no (by decide +kernel) (by decide +kernel) na
    have three : 3 ≤ sizeLine := by decide
    have two : 2 ≤ sizeLine := by decide
    obtain ⟨dx, hr0⟩ := id hR
    refine ⟨_, rfl, r, dx, _, rfl, hr0, no p, r, na, L, p, 0, 1, rfl, hR, hL, hp, fun e H1 hB1 => ?_, fun k x1 e H1 v p1 hR1 hB1 hd1 hp1 hv => ?_⟩
    · rw [e] at hN
      exact hN rfl H1 hB1
    · obtain rfl : v = .int k := hv
      have hk := (Mth.readInt_some e).2
      rw [e] at hN hS
      simp only at hN hS
      rw [← hd1] at hN hS
      have hL1 := hB1.seq hr0 hL
      obtain ⟨dx1, hr1⟩ := id hR1
      refine ⟨_, rfl, rfl, _, rfl, ?_⟩
      by_cases hk0 : k = 0
      · subst hk0
        simp only [if_true] at hN hS
        refine if_true_of rfl ?_
        refine ⟨_, rfl, _, rfl, r, dx1, _, rfl, hr1, no p1, _, rfl, r, na, L, p1, -99, 99, rfl, hR1, hL1, hp1, fun e4 H4 hB4 => ?_, fun z x4 e4 H4 v p4 hR4 hB4 hd4 hp4 hv => ?_⟩
        · rw [e4] at hN
          exact hN rfl H4 (hB1.trans hB4)
        · obtain rfl : v = .int z := hv
          rw [e4] at hS
          simp only at hS
          refine ⟨two, fun t ht => ?_⟩
          have st := Same.new (o := HO.tup [.int 0, .int z]) ht
          exact hS _ _ rfl _ (.ref t) p4 (hR4.same st) ((hB1.trans hB4).trans (But.of st)) hd4 hp4 ⟨t, rfl, SqT.of upd_same⟩
      · simp only [if_neg hk0] at hN hS
        obtain rfl : k = 1 := by omega
        refine if_false_of rfl ?_
        refine ⟨_, rfl, r, dx1, _, rfl, hr1, no p1, _, rfl, _, _, rfl, rfl, r, na, L, p1, 0, (n : Int) - 1, rfl, hR1, hL1, hp1, fun e2 H2 hB2 => ?_, fun c x2 e2 H2 v p2 hR2 hB2 hd2 hp2 hv => ?_⟩
        · rw [e2] at hN
          exact hN rfl H2 (hB1.trans hB2)
        · obtain rfl : v = .int c := hv
          have hc := (Mth.readInt_some e2).2
          rw [e2] at hN hS
          simp only at hN hS
          rw [← hd2] at hN hS
          have hB12 := hB1.trans hB2
          have hL2 := hB2.seq hr1 hL1
          obtain ⟨dx2, hr2⟩ := id hR2
          refine ⟨_, rfl, _, rfl, _, rfl, r, dx2, _, rfl, hr2, no p2, _, rfl, r, na, L, p2, -99, 99, rfl, hR2, hL2, hp2, fun e4 H4 hB4 => ?_, fun z x4 e4 H4 v p4 hR4 hB4 hd4 hp4 hv => ?_⟩
          · rw [e4] at hN
            exact hN rfl H4 (hB12.trans hB4)
          · obtain rfl : v = .int z := hv
            rw [e4] at hS
            simp only at hS
            refine ⟨three, fun t ht => ?_⟩
            have st := Same.new (o := HO.tup [.int 1, .int c, .int z]) ht
            refine hS _ _ rfl _ (.ref t) p4 (hR4.same st) ((hB12.trans hB4).trans (But.of st)) hd4 hp4 ⟨t, rfl, SqT.of ?_⟩
            rw [upd_same]
            show _ = some (HO.tup [.int 1, .int ((c.toNat : Nat) : Int), .int z])
            rw [Int.toNat_of_nonneg hc.1]
end LL
/-! P4c -/
namespace LL
open PySem PySem.Spec PyProof.Rows L2
open VaaclBase hiding Given Move Program Piece run
open Vaacld
variable {P : PySem.Program} {w : World} {K : PySem.W.Frag} {mg : Str → Option Value} {base : Heap}

/-- a row of readings: [read(reader) for .. in range(k)] -/
theorem tLc_read {A : Type} {enc : Hp → V → A → Prop} {R : Reader A} {wi : TI} {te : TE} {σ : L2.St} {H : Hp} {Q : VK} {E : XK} {C CF r na : Addr} {L : List Int} {p i k : Nat}
    (hst : ∀ (H H' : Hp) (v : V) (u : A), (∀ a xs, SqT K H a xs → SqT K H' a xs) → enc H v u → enc H' v u)
    (hwi : ∀ Rr : It → Hp → Prop, Rr (Itr 0 k) H → wi σ H Rr) (hR : RdAt C H r na p) (hL : SqL K H na (L.map V.int)) (hp : p ≤ L.length) (hk : k ≤ 1000)
    (hw : ∀ x : V, wipe ((wipe σ [i]).set i (some x)) [i] = wipe σ [i])
    (hte : ∀ (x : V) (H' : Hp) (p' : Nat) (Rq : VK), RdAt C H' r na p' → p' ≤ L.length → SqL K H' na (L.map V.int) → Reads' C CF enc R r na L p' H' Rq E → te ((wipe σ [i]).set i (some x)) H' Rq)
    (hN : readTimes R k (L.drop p) = none → ∀ H', But r H H' → E (.ref CF) none H')
    (hS : ∀ us rest, readTimes R k (L.drop p) = some (us, rest) → ∀ H' D vs p', RdAt C H' r na p' → But r H H' → H D = none → H' D = some (.lst vs) → AllAt (enc H') vs us → L.drop p' = rest → p' ≤ L.length → Q (.ref D) H') :
    tLc wi (gName i) tYes te [i] σ H Q := by
  obtain ⟨dx, hr0⟩ := id hR
  refine hwi _ (fun D hD => lc_range (lo := 0) (n := k) (fun j H' => ∃ us vs p', RdAt C H' r na p' ∧ But r H H' ∧ H' D = some (.lst vs) ∧ AllAt (enc H') vs us ∧ p' ≤ L.length ∧ us.length = j ∧
    readTimes R k (L.drop p) = (readTimes R (k - j) (L.drop p')).map fun z => (us ++ z.1, z.2)) ?_ ?_ ?_)
  · refine ⟨[], [], p, hR.same (Same.new hD), But.of (Same.new hD), upd_same, AllAt.nil, hp, rfl, ?_⟩
    rw [Nat.sub_zero]
    cases readTimes R k (L.drop p) with
    | none => rfl
    | some z => rfl
  · rintro j H2 hj ⟨us, vs, p2, hR2, hB2, hD2, hA2, hp2, hl, he⟩
    obtain ⟨dx2, hr2⟩ := id hR2
    have hDr : D ≠ r := by
      rintro rfl
      rw [hr0] at hD
      cases hD
    have hkj : k - j = (k - (j + 1)) + 1 := by omega
    rw [hkj] at he
    refine ⟨hw _, hte _ H2 p2 _ hR2 hp2 (hB2.seq hr0 hL) ⟨fun e H3 hB3 => ?_, fun u rest e H3 v p3 hR3 hB3 hd3 hp3 hv => ?_⟩⟩
    · refine hN ?_ H3 (hB2.trans hB3)
      rw [he]
      unfold readTimes
      rw [e]
      rfl
    · have hD3 := hB3 _ _ hD2 hDr
      have hst3 : ∀ a xs, SqT K H2 a xs → SqT K (upd H3 D (.lst (vs ++ [v]))) a xs := fun a xs h => L2.SqT.updL (hB3.tup hr2 h) hD3
      refine ⟨vs, hD3, small1000 (by rw [hA2.1]; omega), us ++ [u], vs ++ [v], p3, ?_, ?_, upd_same, ?_, hp3, by simp [hl], ?_⟩
      · obtain ⟨dx3, hr3⟩ := hR3
        exact ⟨dx3, by rw [upd_ne (fun z => hDr z.symm)]; exact hr3⟩
      · intro b o hb hn
        rw [upd_ne (ne_of_none hb hD)]
        exact hB3 b o (hB2 b o hb hn) hn
      · refine AllAt.snoc (hA2.mono fun v' u' h => hst _ _ _ _ hst3 h) ?_
        exact hst _ _ _ _ (fun a xs h => L2.SqT.updL h hD3) hv
      · rw [he]
        have e2 : readTimes R (k - (j + 1) + 1) (L.drop p2) = (readTimes R (k - (j + 1)) rest).map fun z => (u :: z.1, z.2) := by
          show (R (L.drop p2)).bind _ = _
          rw [e]
          rfl
        rw [e2, hd3, Option.map_map]
        congr 1
        funext z
        simp
  · rintro H2 ⟨us, vs, p2, hR2, hB2, hD2, hA2, hp2, hl, he⟩
    rw [Nat.sub_self] at he
    refine hS us (L.drop p2) ?_ H2 D vs p2 hR2 hB2 hD hD2 hA2 rfl hp2
    rw [he]
    show some (us ++ [], _) = _
    rw [List.append_nil]

/-! ### read_branch -/
def pBranch (n : Nat) (x : List Int) : Option (Branch × List Int) :=
  match readInt 0 3 x with
  | none => none
  | some (k, x1) => match readTimes (readTest n) k.toNat x1 with
    | none => none
    | some (g, x2) => match readTimes (readGiven n) n x2 with
      | none => none
      | some (m, x3) => some (⟨g, m⟩, x3)
theorem pBranch_eq (n : Nat) (x : List Int) : readBranch n x = pBranch n x := by
  unfold pBranch readBranch readPair readGuard readListed readMove readNat
  show Option.map _ (Option.bind (Option.bind (Option.map _ (readInt 0 3 x)) _) _) = _
  cases readInt 0 3 x with
  | none => rfl
  | some u =>
    obtain ⟨k, x1⟩ := u
    simp only [Option.map_some, Option.bind_some]
    cases readTimes (readTest n) k.toNat x1 with
    | none => rfl
    | some v =>
      obtain ⟨g, x2⟩ := v
      simp only [Option.bind_some]
      cases readTimes (readGiven n) n x2 with
      | none => rfl
      | some z => rfl
def spRBranch (K : PySem.W.Frag) (C CF : Addr) : Sp := fun vs H Q E => ∃ (r na : Addr) (L : List Int) (p n : Nat), vs = [.ref r, .int n] ∧ 1 ≤ n ∧ n ≤ 4 ∧ RdAt C H r na p ∧ SqL K H na (L.map V.int) ∧ p ≤ L.length ∧
  Reads' C CF (BranchAt K) (readBranch n) r na L p H Q E
theorem has_rbranch {C CF : Addr} (D : Ds K mg) (T : Txt K mg) (R : TR K mg C CF) : Has P w K mg base (L2.CX P w) 5 "read_branch" p_read_branch (spRBranch K C CF) := by
  have GW := has_within (P := P) (w := w) (base := base) T R
  have GT := has_rtest (P := P) (w := w) (base := base) D T R
  have GP := has_rpart (P := P) (w := w) (base := base) D T R
  refine D.read_branch.has fun f fd F => F.okX c_read_branch (fun vs H Q E h => ?_) (fun cdv A outer s H vs Q E hr h => ⟨_,
    pss_cons (ps_set (i := 2) c_read_branch.nd rfl (.inl rfl) (pe_methX (pv 0) R.cl GW (hr.mono (by decide)) (fun σ => passAt (takes_of rfl rfl rfl rfl) σ) (pa_cons pe_int (pa_cons (pe_gi rfl T.MOST_TESTS) pa_nil))))
      (pss_cons (LcX.ps_setLcX (i := 3) (own := [("place", 5)]) (g := gName 5) (te := fun WB => tCallS (spRTest K C CF) (WE WB) (tCons (tVar 0) (tCons (tVar 1) tNil))) rfl (takes_of rfl rfl rfl rfl) rfl rfl c_read_branch.nd rfl rfl (sw_true rfl rfl rfl (by decide +kernel)) (pi_range1 rfl T.range (pa_cons (pv 2) pa_nil))
          (blkOk_by (N := n_read_branch) (sc := defScope s_read_branch) (by decide +kernel)) (fun _ _ _ _ _ => pg_name (i := 5) c_read_branch.nd rfl (Or.inl rfl))
          (fun _ _ _ _ _ WB xe tkB => pe_callX GT hr rfl (fun σ => passAt tkB σ) (pa_cons (pv 0) (pa_cons (pv 1) pa_nil))))
      (pss_cons (LcX.ps_setLcX (i := 4) (own := [("counter", 6)]) (g := gName 6) (te := fun WB => tCallS (spRPart K C CF) (WE WB) (tCons (tVar 0) (tCons (tVar 1) tNil))) rfl (takes_of rfl rfl rfl rfl) rfl rfl c_read_branch.nd rfl rfl (sw_true rfl rfl rfl (by decide +kernel)) (pi_range1 rfl T.range (pa_cons (pv 1) pa_nil))
          (blkOk_by (N := n_read_branch) (sc := defScope s_read_branch) (by decide +kernel)) (fun _ _ _ _ _ => pg_name (i := 6) c_read_branch.nd rfl (Or.inl rfl))
          (fun _ _ _ _ _ WB xe tkB => pe_callX GP hr rfl (fun σ => passAt tkB σ) (pa_cons (pv 0) (pa_cons (pv 1) pa_nil))))
      (pss_one (ps_ret (pe_tup (pa_cons (pe_callTy call_tuple_of (by rfl) T.tuple (by decide +kernel) (pa_cons (pv 3) pa_nil)) (pa_cons (pe_callTy call_tuple_of (by rfl) T.tuple (by decide +kernel) (pa_cons (pv 4) pa_nil)) pa_nil))))))), ?_⟩)
  · obtain ⟨r, na, L, p, n, rfl, _⟩ := h
    rfl
  · obtain ⟨r, na, L, p, n, rfl, hn, hn4, hR, hL, hp, hN, hS⟩ := h
    rw [pBranch_eq] at hN
    simp only [pBranch_eq] at hS
    unfold pBranch at hN hS
    have no : ∀ q : Nat, List.lookup ("number_within" : Str) (rF na q) = none := rF_no (by decide +kernel) (by decide +kernel) na
    have two : 2 ≤ sizeLine := by decide
    have h62 : (2 : Int) ^ 62 = 4611686018427387904 := by decide
    obtain ⟨dx, hr0⟩ := id hR
    refine ⟨_, rfl, r, dx, _, rfl, hr0, no p, r, na, L, p, 0, 3, rfl, hR, hL, hp, fun e H1 hB1 => ?_, fun k x1 e H1 v p1 hR1 hB1 hd1 hp1 hv => ?_⟩
    · rw [e] at hN
      exact hN rfl H1 hB1
    · obtain rfl : v = .int k := hv
      have hk := (Mth.readInt_some e).2
      rw [e] at hN hS
      simp only at hN hS
      rw [← hd1] at hN hS
      have hL1 := hB1.seq hr0 hL
      obtain ⟨dx1, hr1⟩ := id hR1
      dsimp only [gName, tSeq, tAsg, LcX.tLcX]
      refine tLc_read (enc := TestAt K) (R := readTest n) (E := E) (C := C) (CF := CF) (r := r) (na := na) (L := L) (p := p1) (k := k.toNat) (fun H H' v u e h => h.keep e)
        (fun Rr q => ⟨_, rfl, k, rfl, by rw [h62]; omega, by rw [h62]; omega, q⟩) hR1 hL1 hp1 (by omega) (fun x => rfl)
        (fun x H' p' Rq hR' hp' hL' hr => ⟨_, rfl, _, rfl, r, na, L, p', n, rfl, hn, hR', hL', hp', hr⟩) (fun e2 H2 hB2 => ?_) (fun g x2 e2 H2 D1 vs2 p2 hR2 hB2 hD0 hD1 hA2 hd2 hp2 => ?_)
      · rw [e2] at hN
        exact hN rfl H2 (hB1.trans hB2)
      · rw [e2] at hN hS
        simp only at hN hS
        rw [← hd2] at hN hS
        have hB12 := hB1.trans hB2
        have hL2 := hB2.seq hr1 hL1
        obtain ⟨dx2, hr2⟩ := id hR2
        refine tLc_read (enc := PartAt K) (R := readGiven n) (E := E) (C := C) (CF := CF) (r := r) (na := na) (L := L) (p := p2) (k := n) (fun H H' v u e h => h.keep e)
          (fun Rr q => ⟨_, rfl, (n : Int), rfl, by rw [h62]; omega, by rw [h62]; omega, q⟩) hR2 hL2 hp2 (by omega) (fun x => rfl)
          (fun x H' p' Rq hR' hp' hL' hr => ⟨_, rfl, _, rfl, r, na, L, p', n, rfl, hn, hR', hL', hp', hr⟩) (fun e3 H3 hB3 => ?_) (fun m x3 e3 H3 D2 vs3 p3 hR3 hB3 hD20 hD2 hA3 hd3 hp3 => ?_)
        · rw [e3] at hN
          exact hN rfl H3 (hB12.trans hB3)
        · rw [e3] at hS
          simp only at hS
          have hD1r : D1 ≠ r := by
            rintro rfl
            rw [hr1] at hD0
            cases hD0
          have hD13 := hB3 _ _ hD1 hD1r
          refine ⟨_, rfl, D1, _, rfl, .inl ⟨SqL.of hD13, fun t1 ht1 => ?_⟩⟩
          have s1 := Same.new (o := HO.tup vs2) ht1
          refine ⟨_, rfl, D2, _, rfl, .inl ⟨SqL.of (s1 _ _ hD2), fun t2 ht2 => ?_⟩⟩
          have s2 := Same.new (o := HO.tup vs3) ht2
          refine ⟨two, fun t ht => ?_⟩
          have s3 := Same.new (o := HO.tup [.ref t1, .ref t2]) ht
          have s123 := (s1.trans s2).trans s3
          refine hS ⟨g, m⟩ x3 rfl _ (.ref t) p3 (hR3.same s123) ((hB12.trans hB3).trans (But.of s123)) hd3 hp3 ⟨t, .ref t1, .ref t2, rfl, SqT.of upd_same, ⟨t1, vs2, rfl, SqT.of ?_, ?_⟩, ⟨t2, vs3, rfl, SqT.of ?_, ?_⟩⟩
          · exact s3 _ _ (s2 _ _ upd_same)
          · exact hA2.mono fun v u h => h.keep fun a xs q => s123.tup (hB3.tup hr2 q)
          · exact s3 _ _ upd_same
          · exact hA3.mono fun v u h => h.same s123
end LL
/-! P4d -/
namespace LL
open PySem PySem.Spec PyProof.Rows L2
open VaaclBase hiding Given Move Program Piece run
open Vaacld
variable {P : PySem.Program} {w : World} {K : PySem.W.Frag} {mg : Str → Option Value} {base : Heap}

/-! ### read_loop -/
def pLoop (n : Nat) (x : List Int) : Option (Loop × List Int) :=
  match readInt 1 3 x with
  | none => none
  | some (k, x1) => readTimes (readBranch n) k.toNat x1
theorem pLoop_eq (n : Nat) (x : List Int) : readLoop n x = pLoop n x := by
  unfold pLoop readLoop readListed readNat
  show Option.bind (Option.map _ (readInt 1 3 x)) _ = _
  cases readInt 1 3 x with
  | none => rfl
  | some u => rfl
/-- what is new against H may differ where r is new -/
theorem But.same {r : Addr} {H H' : Hp} (b : But r H H') (hr : H r = none) : Same H H' := fun c o h => b c o h (ne_of_none h hr)
def spRLoop (K : PySem.W.Frag) (CF : Addr) : Sp := fun vs H Q E => ∃ (na : Addr) (L : List Int) (n : Nat), vs = [.ref na, .int n] ∧ 1 ≤ n ∧ n ≤ 4 ∧ SqL K H na (L.map V.int) ∧
  (whole (readLoop n) L = none → ∀ H', Same H H' → E (.ref CF) none H') ∧ (∀ l, whole (readLoop n) L = some l → ∀ H' v, Same H H' → LoopAt K H' v l → Q v H')
theorem whole_none {A : Type} {a : Reader A} {x : List Int} (h : a x = none) : whole a x = none := by unfold whole; rw [h]
theorem whole_more {A : Type} {a : Reader A} {x r : List Int} {u : A} (h : a x = some (u, r)) (hr : r ≠ []) : whole a x = none := by
  unfold whole; rw [h]
  cases r with
  | nil => exact absurd rfl hr
  | cons z r => rfl
theorem whole_is {A : Type} {a : Reader A} {x : List Int} {u : A} (h : a x = some (u, [])) : whole a x = some u := by unfold whole; rw [h]
theorem has_rloop {C CF : Addr} (D : Ds K mg) (T : Txt K mg) (R : TR K mg C CF) : Has P w K mg base (L2.CX P w) 6 "read_loop" p_read_loop (spRLoop K CF) := by
  have GI := has_rinit (P := P) (w := w) (base := base) R
  have GW := has_within (P := P) (w := w) (base := base) T R
  have GF := has_finish (P := P) (w := w) (base := base) T R
  have GB := has_rbranch (P := P) (w := w) (base := base) D T R
  refine D.read_loop.has fun f fd F => F.okX c_read_loop (fun vs H Q E h => ?_) (fun cdv A outer s H vs Q E hr h => ⟨_,
    pss_cons (ps_set (i := 2) c_read_loop.nd rfl (.inr rfl) (pe_makeH GI (hr.mono (by decide)) rfl R.gC (pa_cons (pv 0) pa_nil)))
      (pss_cons (ps_set (i := 3) c_read_loop.nd rfl (.inl rfl) (pe_methX (pv 2) R.cl GW (hr.mono (by decide)) (fun σ => passAt (takes_of rfl rfl rfl rfl) σ) (pa_cons pe_int (pa_cons (pe_gi rfl T.MOST_BRANCHES) pa_nil))))
      (pss_cons (LcX.ps_setLcX (i := 4) (own := [("place", 5)]) (g := gName 5) (te := fun WB => tCallS (spRBranch K C CF) (WE WB) (tCons (tVar 2) (tCons (tVar 1) tNil))) rfl (takes_of rfl rfl rfl rfl) rfl rfl c_read_loop.nd rfl rfl (sw_true rfl rfl rfl (by decide +kernel)) (pi_range1 rfl T.range (pa_cons (pv 3) pa_nil))
          (blkOk_by (N := n_read_loop) (sc := defScope s_read_loop) (by decide +kernel)) (fun _ _ _ _ _ => pg_name (i := 5) c_read_loop.nd rfl (Or.inl rfl))
          (fun _ _ _ _ _ WB xe tkB => pe_callX GB hr rfl (fun σ => passAt tkB σ) (pa_cons (pv 2) (pa_cons (pv 1) pa_nil))))
      (pss_cons (ps_expr (pe_methX0 (pv 2) R.cl GF (hr.mono (by decide)) (fun σ => passAt (takes_of rfl rfl rfl rfl) σ)))
      (pss_one (ps_ret (pe_callTy call_tuple_of (by rfl) T.tuple (by decide +kernel) (pa_cons (pv 4) pa_nil))))))), ?_⟩)
  · obtain ⟨na, L, n, rfl, _⟩ := h
    rfl
  · obtain ⟨na, L, n, rfl, hn, hn4, hL, hN, hS⟩ := h
    have hro := pLoop_eq n L
    have no : ∀ q : Nat, List.lookup ("number_within" : Str) (rF na q) = none := rF_no (by decide +kernel) (by decide +kernel) na
    have no2 : ∀ q : Nat, List.lookup ("finish" : Str) (rF na q) = none := rF_no (by decide +kernel) (by decide +kernel) na
    have h62 : (2 : Int) ^ 62 = 4611686018427387904 := by decide
    refine ⟨_, rfl, fun r dx nr nd ne => ⟨r, na, dx, rfl, upd_same, fun H1 hR1 hB1 => ⟨rfl, ?_⟩⟩⟩
    have s1 : Same H H1 := made_same nr nd hB1
    have hL1 := s1.seq hL
    obtain ⟨dx1, hr1⟩ := id hR1
    have hd0 : L.drop 0 = L := rfl
    refine ⟨_, rfl, r, dx1, _, rfl, hr1, no 0, r, na, L, 0, 1, 3, rfl, hR1, hL1, Nat.zero_le _, fun e H2 hB2 => ?_, fun k x1 e H2 v p2 hR2 hB2 hd2 hp2 hv => ?_⟩
    · rw [hd0] at e
      refine hN (whole_none ?_) H2 ((But.trans (But.of s1) hB2).same nr)
      rw [hro]; unfold pLoop; rw [e]
    · obtain rfl : v = .int k := hv
      have hk := (Mth.readInt_some e).2
      rw [hd0] at e
      have hro2 : readLoop n L = readTimes (readBranch n) k.toNat (L.drop p2) := by rw [hro]; unfold pLoop; rw [e, hd2]
      have hB12 : But r H H2 := But.trans (But.of s1) hB2
      have hL2 := (hB12.same nr).seq hL
      obtain ⟨dx2, hr2⟩ := id hR2
      dsimp only [gName, tSeq, tAsg, LcX.tLcX]
      refine tLc_read (enc := BranchAt K) (R := readBranch n) (E := E) (C := C) (CF := CF) (r := r) (na := na) (L := L) (p := p2) (k := k.toNat) (fun H H' v u e h => h.keep e)
        (fun Rr q => ⟨_, rfl, k, rfl, by rw [h62]; omega, by rw [h62]; omega, q⟩) hR2 hL2 hp2 (by omega) (fun x => rfl)
        (fun x H' p' Rq hR' hp' hL' hr => ⟨_, rfl, _, rfl, r, na, L, p', n, rfl, hn, hn4, hR', hL', hp', hr⟩) (fun e2 H3 hB3 => ?_) (fun bs x2 e2 H3 D1 vs2 p3 hR3 hB3 hD0 hD1 hA2 hd3 hp3 => ?_)
      · exact hN (whole_none (by rw [hro2, e2])) H3 ((hB12.trans hB3).same nr)
      · rw [e2] at hro2
        have hB13 := hB12.trans hB3
        have hL3 := (hB13.same nr).seq hL
        obtain ⟨dx3, hr3⟩ := id hR3
        refine ⟨_, rfl, r, dx3, _, rfl, hr3, no2 p3, r, na, L, p3, rfl, hR3, hL3, fun hend => ?_, fun hmore => ?_⟩
        · rw [hd3] at hend
          subst hend
          refine ⟨_, rfl, D1, _, rfl, .inl ⟨SqL.of hD1, fun t ht => ?_⟩⟩
          have st := Same.new (o := HO.tup vs2) ht
          exact hS bs (whole_is hro2) _ (.ref t) ((hB13.same nr).trans st) ⟨t, vs2, rfl, SqT.of upd_same, hA2.mono fun v u h => h.same st⟩
        · rw [hd3] at hmore
          exact hN (whole_more hro2 hmore) H3 (hB13.same nr)

/-! ### read_values -/
def spRVals (K : PySem.W.Frag) (CF : Addr) : Sp := fun vs H Q E => ∃ (na : Addr) (L : List Int) (n : Nat), vs = [.ref na, .int n] ∧ n ≤ 4 ∧ SqL K H na (L.map V.int) ∧
  (whole (readBegin n) L = none → ∀ H', Same H H' → E (.ref CF) none H') ∧ (∀ s, whole (readBegin n) L = some s → ∀ H' v, Same H H' → LiAt H' v s → NewV H v → Q v H')
theorem ints_of {H : Hp} {vs : List V} {us : List Int} (h : AllAt (encI H) vs us) : vs = us.map V.int := by
  apply List.ext_getElem?
  intro i
  rw [List.getElem?_map]
  cases hv : vs[i]? with
  | none =>
    have : us[i]? = none := by
      rw [List.getElem?_eq_none_iff] at hv ⊢
      rw [← h.1]; exact hv
    rw [this]
    rfl
  | some v =>
    obtain ⟨u, hu, e⟩ := h.get hv
    rw [hu]
    exact congrArg some e
theorem has_rvals {C CF : Addr} (D : Ds K mg) (T : Txt K mg) (R : TR K mg C CF) : Has P w K mg base (L2.CX P w) 4 "read_values" p_read_values (spRVals K CF) := by
  have GI := has_rinit (P := P) (w := w) (base := base) R
  have GW := has_within (P := P) (w := w) (base := base) T R
  have GF := has_finish (P := P) (w := w) (base := base) T R
  refine D.read_values.has fun f fd F => F.okX c_read_values (fun vs H Q E h => ?_) (fun cdv A outer s H vs Q E hr h => ⟨_,
    pss_cons (ps_set (i := 2) c_read_values.nd rfl (.inr rfl) (pe_makeH GI (hr.mono (by decide)) rfl R.gC (pa_cons (pv 0) pa_nil)))
      (pss_cons (LcX.ps_setLcX (i := 3) (own := [("counter", 4)]) (g := gName 4) (te := fun WB => tMethS C "number_within" (spWithin K C CF) (WE WB) (tVar 2) (tCons (tUn (fun x H Q => ∃ i, x = .int i ∧ Q (.int (-i)) H) (tC (.int 1000000))) (tCons (tC (.int 1000000)) tNil))) rfl (takes_of rfl rfl rfl rfl) rfl rfl c_read_values.nd rfl rfl (sw_true rfl rfl rfl (by decide +kernel)) (pi_range1 rfl T.range (pa_cons (pv 1) pa_nil))
          (blkOk_by (N := n_read_values) (sc := defScope s_read_values) (by decide +kernel)) (fun _ _ _ _ _ => pg_name (i := 4) c_read_values.nd rfl (Or.inl rfl))
          (fun _ _ _ _ _ WB xe tkB => pe_methX (pv 2) R.cl GW hr (fun σ => passAt tkB σ) (pa_cons (pe_un un_neg (pe_gi rfl T.MOST_IN_VALUES)) (pa_cons (pe_gi rfl T.MOST_IN_VALUES) pa_nil))))
      (pss_cons (ps_expr (pe_methX0 (pv 2) R.cl GF (hr.mono (by decide)) (fun σ => passAt (takes_of rfl rfl rfl rfl) σ)))
      (pss_one (ps_ret (pv 3))))), ?_⟩)
  · obtain ⟨na, L, n, rfl, _⟩ := h
    rfl
  · obtain ⟨na, L, n, rfl, hn4, hL, hN, hS⟩ := h
    have no : ∀ q : Nat, List.lookup ("number_within" : Str) (rF na q) = none := rF_no (by decide +kernel) (by decide +kernel) na
    have no2 : ∀ q : Nat, List.lookup ("finish" : Str) (rF na q) = none := rF_no (by decide +kernel) (by decide +kernel) na
    have h62 : (2 : Int) ^ 62 = 4611686018427387904 := by decide
    refine ⟨_, rfl, fun r dx nr nd ne => ⟨r, na, dx, rfl, upd_same, fun H1 hR1 hB1 => ⟨rfl, ?_⟩⟩⟩
    have s1 : Same H H1 := made_same nr nd hB1
    have hL1 := s1.seq hL
    obtain ⟨dx1, hr1⟩ := id hR1
    have hro : readBegin n L = readTimes (readInt (-1000000) 1000000) n (L.drop 0) := rfl
    dsimp only [gName, tSeq, tAsg, LcX.tLcX]
    refine tLc_read (K := K) (enc := encI) (R := readInt (-1000000) 1000000) (E := E) (C := C) (CF := CF) (r := r) (na := na) (L := L) (p := 0) (k := n) (fun H H' v u e h => h)
      (fun Rr q => ⟨_, rfl, (n : Int), rfl, by rw [h62]; omega, by rw [h62]; omega, q⟩) hR1 hL1 (Nat.zero_le _) (by omega) (fun x => rfl)
      (fun x H' p' Rq hR' hp' hL' hr => ?_) (fun e2 H3 hB3 => ?_) (fun us x2 e2 H3 D1 vs2 p3 hR3 hB3 hD0 hD1 hA2 hd3 hp3 => ?_)
    · obtain ⟨dx', hr'⟩ := id hR'
      exact ⟨_, rfl, r, dx', _, rfl, hr', no p', _, rfl, r, na, L, p', -1000000, 1000000, rfl, hR', hL', hp', hr⟩
    · exact hN (whole_none (by rw [hro, e2])) H3 ((But.trans (But.of s1) hB3).same nr)
    · rw [e2] at hro
      have hB13 : But r H H3 := But.trans (But.of s1) hB3
      have hL3 := (hB13.same nr).seq hL
      obtain ⟨dx3, hr3⟩ := id hR3
      refine ⟨_, rfl, r, dx3, _, rfl, hr3, no2 p3, r, na, L, p3, rfl, hR3, hL3, fun hend => ?_, fun hmore => ?_⟩
      · rw [hd3] at hend
        subst hend
        refine ⟨_, rfl, hS us (whole_is hro) H3 (.ref D1) (hB13.same nr) ⟨D1, rfl, ?_⟩ ⟨D1, rfl, s1.free hD0⟩⟩
        rw [hD1, ints_of hA2]
      · rw [hd3] at hmore
        exact hN (whole_more hro hmore) H3 (hB13.same nr)
end LL
/-! P5 -/
namespace LL
open PySem PySem.Spec PyProof.Rows L2
open VaaclBase hiding Given Move Program Piece run
open Vaacld
variable {P : PySem.Program} {w : World} {K : PySem.W.Frag} {mg : Str → Option Value} {base : Heap}

/-! ### phase_numbers -/
def spPNum : Sp := fun vs H Q _ => ∃ (pp : V) (p : List Nat) (k : Nat), vs = [pp, .int k] ∧ LiAt H pp (nats p) ∧ p.length ≤ 3 ∧
  ∀ H' x, Same H H' → LiAt H' x (phaseTold ⟨p, k⟩) → NewV H x → Q x H'
theorem has_pnum (D : Ds K mg) (T : Txt K mg) : Has P w K mg base CX0 1 "phase_numbers" p_phase_numbers spPNum := by
  refine D.phase_numbers.has fun f fd F => F.ok c_phase_numbers (fun vs H Q E h => ?_) (fun cdv A outer s H vs Q E hr h => ⟨_,
    pss_one (ps_ret (pe_op op_cat (pe_op op_cat (pe_lst (pa_cons (pe_callB call_len_seq (by rfl) T.len PySem.boot_len (pa_cons (pv 0) pa_nil)) pa_nil)) (pv 0)) (pe_lst (pa_cons (pv 1) pa_nil)))), ?_⟩)
  · obtain ⟨pp, p, k, rfl, _⟩ := h
    rfl
  · obtain ⟨pp, p, k, rfl, ⟨a, rfl, hP⟩, h3, q⟩ := h
    have one : 1 ≤ sizeLine := by decide
    refine ⟨_, rfl, a, _, rfl, .inl (SqL.of hP), one, fun d1 hd1 => ?_⟩
    have s1 := Same.new (o := HO.lst [.int (((nats p).map V.int).length : Nat)]) hd1
    refine ⟨_, rfl, d1, a, _, _, rfl, rfl, upd_same, s1 _ _ hP, ?_, fun d2 hd2 => ?_⟩
    · rw [natsV_length]; show 1 + p.length ≤ sizeLine; exact Nat.le_trans (by omega : 1 + p.length ≤ 4) (by decide)
    · have s2 := Same.new (o := HO.lst ([V.int (((nats p).map V.int).length : Nat)] ++ (nats p).map V.int)) hd2
      refine ⟨_, rfl, one, fun d3 hd3 => ?_⟩
      have s3 := Same.new (o := HO.lst [.int (k : Nat)]) hd3
      refine ⟨d2, d3, _, _, rfl, rfl, s3 _ _ upd_same, upd_same, ?_, fun d4 hd4 => ?_⟩
      · rw [List.length_append, natsV_length]; show 1 + p.length + 1 ≤ sizeLine; exact Nat.le_trans (by omega : 1 + p.length + 1 ≤ 5) (by decide)
      · have s123 := (s1.trans s2).trans s3
        refine q _ (.ref d4) (s123.trans (Same.new hd4)) ⟨d4, rfl, ?_⟩ ⟨d4, rfl, s123.free hd4⟩
        rw [upd_same, natsV_length]
        show _ = some (HO.lst ((VaaclBase.listed p ++ [Vaacld.int k]).map V.int))
        simp [VaaclBase.listed, nats, Vaacld.int, VaaclBase.int]

/-! ### loop_numbers -/
def TupAt (K : PySem.W.Frag) (H : Hp) (v : V) (xs : List Int) : Prop := ∃ a, v = .ref a ∧ SqT K H a (xs.map V.int)
theorem AllAt.map {α β : Type} {R : V → β → Prop} {f : α → β} {vs : List V} {xs : List α} (h : AllAt (fun v x => R v (f x)) vs xs) : AllAt R vs (xs.map f) := by
  refine ⟨by rw [List.length_map]; exact h.1, fun i v y hv hy => ?_⟩
  rw [List.getElem?_map] at hy
  cases hx : xs[i]? with
  | none => rw [hx] at hy; cases hy
  | some x =>
    rw [hx] at hy
    cases hy
    exact h.2 i v x hv hx
theorem AllAt.append {α : Type} {R : V → α → Prop} {vs ws : List V} {xs ys : List α} (h : AllAt R vs xs) (g : AllAt R ws ys) : AllAt R (vs ++ ws) (xs ++ ys) := by
  refine ⟨by simp [h.1, g.1], fun i v y hv hy => ?_⟩
  by_cases c : i < vs.length
  · rw [List.getElem?_append_left c] at hv
    rw [List.getElem?_append_left (by rw [← h.1]; exact c)] at hy
    exact h.2 i v y hv hy
  · rw [List.getElem?_append_right (by omega)] at hv
    rw [List.getElem?_append_right (by rw [← h.1]; omega), ← h.1] at hy
    exact g.2 _ v y hv hy
theorem flat_len : ∀ (xs : List (List Int)), (∀ x ∈ xs, x.length ≤ 4) → xs.flatten.length ≤ 4 * xs.length
  | [], _ => by simp
  | x :: r, h => by
    have := flat_len r (fun y hy => h y (List.mem_cons_of_mem _ hy))
    have := h x List.mem_cons_self
    simp only [List.flatten_cons, List.length_append, List.length_cons]
    omega
def partsOf (b : Branch) : List (List Int) := b.guard.map flatTest ++ b.move.map flatGiven
theorem partsOf_small (b : Branch) : ∀ x ∈ partsOf b, x.length ≤ 4 := by
  intro x hx
  unfold partsOf at hx
  rcases List.mem_append.1 hx with h | h
  · obtain ⟨t, _, rfl⟩ := List.mem_map.1 h
    cases t <;> simp [flatTest]
  · obtain ⟨g, _, rfl⟩ := List.mem_map.1 h
    unfold flatGiven
    split <;> simp
theorem flatBranch_eq (b : Branch) : flatBranch b = VaaclBase.int b.guard.length :: (partsOf b).flatten := by
  unfold flatBranch flatGuard flatMove partsOf
  rw [List.flatten_append, List.flatMap_def, List.flatMap_def]
  rfl
theorem partsOf_length {n : Nat} {b : Branch} (h : Mth.OkBranch n b) (hn : n ≤ 4) : (partsOf b).length ≤ 7 := by
  unfold partsOf
  rw [List.length_append, List.length_map, List.length_map, h.move.len]
  have := h.few
  omega
theorem flatBranch_length {n : Nat} {b : Branch} (h : Mth.OkBranch n b) (hn : n ≤ 4) : (flatBranch b).length ≤ 29 := by
  rw [flatBranch_eq, List.length_cons]
  have h1 := flat_len (partsOf b) (partsOf_small b)
  have h2 := partsOf_length h hn
  omega
theorem flats_length {n : Nat} (hn : n ≤ 4) : ∀ (l : List Branch), (∀ b ∈ l, Mth.OkBranch n b) → (l.flatMap flatBranch).length ≤ 29 * l.length
  | [], _ => by simp
  | b :: l, h => by
    have h1 := flats_length hn l (fun c hc => h c (List.mem_cons_of_mem _ hc))
    have h2 := flatBranch_length (h b List.mem_cons_self) hn
    simp only [List.flatMap_cons, List.length_append, List.length_cons]
    omega

def spLNum (K : PySem.W.Frag) : Sp := fun vs H Q _ => ∃ (v : V) (l : Loop) (n : Nat), vs = [v] ∧ LoopAt K H v l ∧ Mth.OkLoop n l ∧
  ∀ H' x, Same H H' → LiAt H' x (flatLoop l) → NewV H x → Q x H'
theorem has_lnum (D : Ds K mg) (T : Txt K mg) : Has P w K mg base CX0 1 "loop_numbers" p_loop_numbers (spLNum K) := by
  refine D.loop_numbers.has fun f fd F => F.ok c_loop_numbers (fun vs H Q E h => ?_) (fun cdv A outer s H vs Q E hr h => ⟨_,
    pss_cons (ps_set (i := 1) c_loop_numbers.nd rfl (.inl rfl) (pe_lst (pa_cons (pe_callB call_len_seq (by rfl) T.len PySem.boot_len (pa_cons (pv 0) pa_nil)) pa_nil)))
      (pss_cons (ps_for PassesOwn.never rfl (pi_tup (pv 0)) (pg_tup rfl (pgs_cons (pg_name (i := 2) c_loop_numbers.nd rfl (Or.inl rfl)) (pgs_cons (pg_name (i := 3) c_loop_numbers.nd rfl (Or.inl rfl)) pgs_nil)))
        (pss_cons (ps_expr (pe_bm PySem.F.plainAttrs_list PySem.F.slot_list_append PySem.F.type_list_append mt_append (pv 1) (pa_cons (pe_callB call_len_seq (by rfl) T.len PySem.boot_len (pa_cons (pv 2) pa_nil)) pa_nil)))
        (pss_one (ps_for PassesOwn.never rfl (pi_tup (pe_op op_catA (pv 2) (pv 3))) (pg_name (i := 4) c_loop_numbers.nd rfl (Or.inl rfl))
          (pss_one (ps_expr (pe_bm PySem.F.plainAttrs_list PySem.F.slot_list_extend PySem.F.type_list_extend ExtT.mt_extendT (pv 1) (pa_cons (pv 4) pa_nil))))))))
      (pss_one (ps_ret (pv 1)))), ?_⟩)
  · obtain ⟨v, l, n, rfl, _⟩ := h
    rfl
  · obtain ⟨v, l, n, rfl, ⟨a, bs, rfl, hL, hA⟩, ok, q⟩ := h
    refine ⟨_, rfl, a, _, rfl, .inr hL, (by show 1 ≤ sizeLine; decide), fun d hd => ?_⟩
    rw [hA.1]
    have s1 := Same.new (o := HO.lst [.int (l.length : Nat)]) hd
    refine ⟨_, rfl, a, rfl, ⟨_, s1.tup hL⟩, for_tup (K := K) (a := a) (xs := bs) (fun i σ H' => ∃ x2 x3 x4 : Option V, σ = [some (.ref a), some (.ref d), x2, x3, x4] ∧ Same H H' ∧ H' d = some (.lst ((VaaclBase.int l.length :: (l.take i).flatMap flatBranch).map V.int)))
      ⟨none, none, none, rfl, s1, upd_same⟩ (fun i σ H' _ ⟨_, _, _, _, s2, _⟩ => s2.tup hL) ?_ ?_⟩
    · rintro i x σ H2 hi ⟨x2, x3, x4, rfl, s2, hd2⟩
      obtain ⟨b, hb, hBr⟩ := hA.get hi
      obtain ⟨ba, gv, mv, rfl, hB2, ⟨ga, gs, rfl, hG, hGA⟩, ⟨ma, ms, rfl, hM, hMA⟩⟩ := hBr.same s2
      have okb := ok.all b (List.mem_of_getElem? hb)
      have htk : l.take (i + 1) = l.take i ++ [b] := by rw [List.take_add_one, hb]; rfl
      have hacc : (VaaclBase.int l.length :: (l.take i).flatMap flatBranch).length ≤ 100 := by
        have h1 := flats_length ok.high (l.take i) (fun c hc => ok.all c (List.mem_of_mem_take hc))
        have h2 : (l.take i).length ≤ l.length := by rw [List.length_take]; omega
        have h3 := ok.few
        simp only [List.length_cons]
        omega
      generalize hAC : (VaaclBase.int l.length :: (l.take i).flatMap flatBranch) = acc at *
      refine ⟨ba, _, rfl, hB2, rfl, _, _, rfl, _, _, rfl, rfl, ?_⟩
      refine ⟨_, rfl, .inl ⟨rfl, _, .inl (.inl hd2)⟩, _, rfl, ga, _, rfl, .inr hG, d, _, _, rfl, rfl, hd2, small1000 (by rw [List.length_map]; omega), ?_⟩
      rw [hGA.1]
      have e1 : acc.map V.int ++ [V.int (b.guard.length : Nat)] = (acc ++ [VaaclBase.int b.guard.length]).map V.int := by simp [VaaclBase.int]
      rw [e1]
      have hup : ∀ (aa : Addr) (xs : List V), SqT K H2 aa xs → SqT K (upd H2 d (.lst ((acc ++ [VaaclBase.int b.guard.length]).map V.int))) aa xs := fun aa xs h => L2.SqT.updL h hd2
      have s3 : Same H (upd H2 d (.lst ((acc ++ [VaaclBase.int b.guard.length]).map V.int))) := s2.updNew hd
      have hd3 : upd H2 d (.lst ((acc ++ [VaaclBase.int b.guard.length]).map V.int)) d = some (.lst ((acc ++ [VaaclBase.int b.guard.length]).map V.int)) := upd_same
      have hG3 := hup _ _ hG
      have hM3 := hup _ _ hM
      have hparts : AllAt (TupAt K (upd H2 d (.lst ((acc ++ [VaaclBase.int b.guard.length]).map V.int)))) (gs ++ ms) (partsOf b) :=
        AllAt.append (AllAt.map (hGA.mono fun v t h => h.keep hup)) (AllAt.map (hMA.mono fun v t h => h.keep hup))
      generalize upd H2 d (.lst ((acc ++ [VaaclBase.int b.guard.length]).map V.int)) = H3 at *
      -- the inner loop, wherever the joined tuple lies
      have inner : ∀ (c : Addr) (H4 : Hp), Same H3 H4 → SqT K H4 c (gs ++ ms) → ∀ (N : L2.St → Hp → Prop) (D' : Ends), (∀ σ' H', (∃ x2 x3 x4 : Option V, σ' = [some (.ref a), some (.ref d), x2, x3, x4] ∧ Same H H' ∧ H' d = some (.lst ((VaaclBase.int l.length :: (l.take (i + 1)).flatMap flatBranch).map V.int))) → N σ' H') → D'.nx = N →
          ∃ W : Nat → Nat → L2.St → Hp → Prop, (∃ m, W 0 m [some (.ref a), some (.ref d), some (.ref ga), some (.ref ma), x4] H4) ∧ ∀ i m σ H, W i m σ H →
          ((Itt K c).stop i H ∧ D'.nx σ H) ∨ ((Itt K c).go i H ∧ ∃ N : L2.St → Hp → Prop, (∀ σ' H', N σ' H' → ∃ m', m' < m ∧ W (i + 1) m' σ' H') ∧ ∀ x H', (Itt K c).yld i H x H' → gName 4 x σ H' fun σ2 H2 => (tDrop (tBM K "list" (ExtT.rExtendT K) (tVar 1) (tCons (tVar 4) tNil))) { D' with nx := N, ct := N, bk := D'.nx } σ2 H2) := by
        intro c H4 s4 hc N D' hN hD'
        refine for_tup (K := K) (a := c) (xs := gs ++ ms) (fun j σ H' => ∃ x4 : Option V, σ = [some (.ref a), some (.ref d), some (.ref ga), some (.ref ma), x4] ∧ Same H H' ∧ (∀ aa xs, SqT K H4 aa xs → SqT K H' aa xs) ∧ H' d = some (.lst ((acc ++ [VaaclBase.int b.guard.length] ++ ((partsOf b).take j).flatten).map V.int)))
          ⟨x4, rfl, s3.trans s4, fun _ _ h => h, by rw [s4 _ _ hd3]; simp⟩ (fun j σ H' _ ⟨_, _, _, k4, _⟩ => k4 _ _ hc) ?_ ?_
        · rintro j x σ H5 hj ⟨x5, rfl, s5, k5, hd5⟩
          obtain ⟨xs, hxs, aa, rfl, hT⟩ := hparts.get hj
          have hT5 := k5 _ _ (s4.tup hT)
          have hlen : (acc ++ [VaaclBase.int b.guard.length] ++ ((partsOf b).take j).flatten).length ≤ 130 := by
            have h1 := flat_len ((partsOf b).take j) (fun y hy => partsOf_small b y (List.mem_of_mem_take hy))
            have h2 : ((partsOf b).take j).length ≤ (partsOf b).length := by rw [List.length_take]; omega
            have h3 := partsOf_length okb ok.high
            simp only [List.length_append, List.length_cons, List.length_nil]
            omega
          have hx4 : xs.length ≤ 4 := partsOf_small b xs (List.mem_of_getElem? hxs)
          refine ⟨_, rfl, .inl ⟨rfl, _, .inl (.inl hd5)⟩, _, rfl, d, aa, _, _, rfl, rfl, hd5, hT5, ?_, ?_⟩
          · rw [List.length_map, List.length_map]
            exact Nat.le_trans (by omega : _ ≤ 200) (by decide)
          · refine ⟨some (.ref aa), rfl, s5.updNew hd, fun _ _ h => L2.SqT.updL (k5 _ _ h) hd5, ?_⟩
            rw [upd_same, List.take_add_one, hxs]
            simp
        · rintro σ H5 ⟨x5, rfl, s5, k5, hd5⟩
          rw [hD']
          refine hN _ _ ⟨some (.ref ga), some (.ref ma), x5, rfl, s5, ?_⟩
          rw [hd5, hparts.1, List.take_length, htk, List.flatMap_append, List.flatMap_singleton, flatBranch_eq, ← List.cons_append, hAC]
          simp
      have hms : ms ≠ [] := by
        intro e
        have h1 := hMA.1
        rw [e] at h1
        have h2 := okb.move.len
        have h3 := ok.low
        simp at h1
        omega
      have hsz : gs.length + ms.length ≤ sizeLine := by
        rw [hGA.1, hMA.1, okb.move.len]
        have h1 := okb.few
        have h2 := ok.high
        exact Nat.le_trans (by omega : _ ≤ 7) (by decide)
      refine ⟨_, rfl, _, rfl, ga, ma, gs, ms, rfl, rfl, hG3, hM3, hsz, fun e0 => ?_, fun _ e1 => absurd e1 hms, fun _ _ c hc => ?_⟩
      · subst e0
        refine ⟨ma, rfl, ⟨_, hM3⟩, inner ma H3 (Same.refl _) hM3 _ _ (fun σ' H' h => h) rfl⟩
      · refine ⟨c, rfl, ⟨_, SqT.of upd_same⟩, inner c _ (Same.new hc) (SqT.of upd_same) _ _ (fun σ' H' h => h) rfl⟩
    · rintro σ H2 ⟨x2, x3, x4, rfl, s2, hd2⟩
      rw [hA.1, List.take_length] at hd2
      exact ⟨_, rfl, q H2 (.ref d) s2 ⟨d, rfl, hd2⟩ ⟨d, rfl, hd⟩⟩
end LL
/-! P6a -/
namespace LL
open PySem PySem.Spec PyProof.Rows L2
open VaaclBase hiding Given Move Program Piece run
open Vaacld
variable {P : PySem.Program} {w : World} {K : PySem.W.Frag} {mg : Str → Option Value} {base : Heap}

/-! ### the Session -/
def sF (lv va : V) : List (Str × V) := [("loop", lv), ("amounts", va)]
def SeAt (K : PySem.W.Frag) (S : Addr) (H : Hp) (x : Addr) (st : State) : Prop := ∃ dx lv va, H x = some (.ins S dx (sF lv va)) ∧ LoopAt K H lv st.loop ∧ LiAt H va st.values
theorem sF_loop (lv va : V) : (sF lv va).lookup ("loop" : Str) = some lv := lk_here
theorem sF_amounts (lv va : V) : (sF lv va).lookup ("amounts" : Str) = some va := (lk_past (by decide +kernel)).trans lk_here
theorem sF_no {m : Str} (h1 : (m == ("loop" : Str)) = false) (h2 : (m == ("amounts" : Str)) = false) (lv va : V) : (sF lv va).lookup m = none := (lk_past h1).trans ((lk_past h2).trans rfl)
theorem sF_putL (lv va y : V) : putF "loop" y (sF lv va) = sF y va := put_here
theorem sF_putA (lv va y : V) : putF "amounts" y (sF lv va) = sF lv y := (put_past (by decide +kernel)).trans (congrArg _ put_here)
theorem sF_new (lv va : V) : putF "amounts" va (putF "loop" lv []) = sF lv va := (put_past (by decide +kernel)).trans rfl
theorem SeAt.same {S x : Addr} {H H' : Hp} {st : State} (h : SeAt K S H x st) (s : Same H H') : SeAt K S H' x st := by
  obtain ⟨dx, lv, va, h1, h2, h3⟩ := h
  exact ⟨dx, lv, va, s _ _ h1, h2.same s, h3.same s⟩
theorem LoopAt.but {r C dx : Addr} {fs : List (Str × V)} {H H' : Hp} {v : V} {l : Loop} (h : LoopAt K H v l) (b : But r H H') (hr : H r = some (.ins C dx fs)) : LoopAt K H' v l := h.keep fun _ _ q => b.tup hr q
theorem LiAt.but {r C dx : Addr} {fs : List (Str × V)} {H H' : Hp} {v : V} {s : List Int} (h : LiAt H v s) (b : But r H H') (hr : H r = some (.ins C dx fs)) : LiAt H' v s := by
  obtain ⟨a, rfl, h2⟩ := h
  exact ⟨a, rfl, b _ _ h2 (by rintro rfl; rw [hr] at h2; cases h2)⟩
theorem SeAt.but {S x r C dx : Addr} {fs : List (Str × V)} {H H' : Hp} {st : State} (h : SeAt K S H x st) (b : But r H H') (hr : H r = some (.ins C dx fs)) (hx : x ≠ r) : SeAt K S H' x st := by
  obtain ⟨dx', lv, va, h1, h2, h3⟩ := h
  exact ⟨dx', lv, va, b _ _ h1 hx, h2.but b hr, h3.but b hr⟩

/-- what the top has written of the class Session -/
structure TS' (K : PySem.W.Frag) (mg : Str → Option Value) (S : Addr) : Prop where
  cl : Cls K S
  nL : NoAttr K S "loop"
  nA : NoAttr K S "amounts"
  gS : mg "Session" = some (.ref S)
  init : InitAt K S "Session.__init__" s_Session___init__ p_Session___init__
  take_loop : MethAt K S "take_loop" "Session.take_loop" s_Session_take_loop p_Session_take_loop
  take_values : MethAt K S "take_values" "Session.take_values" s_Session_take_values p_Session_take_values
  tell_chosen : MethAt K S "tell_chosen" "Session.tell_chosen" s_Session_tell_chosen p_Session_tell_chosen
  tell_pattern : MethAt K S "tell_pattern" "Session.tell_pattern" s_Session_tell_pattern p_Session_tell_pattern
  tell_times : MethAt K S "tell_times" "Session.tell_times" s_Session_tell_times p_Session_tell_times
  leap : MethAt K S "leap" "Session.leap" s_Session_leap p_Session_leap
  tell_phases : MethAt K S "tell_phases" "Session.tell_phases" s_Session_tell_phases p_Session_tell_phases
  tell_done : MethAt K S "tell_done" "Session.tell_done" s_Session_tell_done p_Session_tell_done
  go : MethAt K S "go" "Session.go" s_Session_go p_Session_go
  tell_run : MethAt K S "tell_run" "Session.tell_run" s_Session_tell_run p_Session_tell_run
  tell_given : MethAt K S "tell_given" "Session.tell_given" s_Session_tell_given p_Session_tell_given

/-! ### Session() -/
def spSInit (K : PySem.W.Frag) (S : Addr) : Sp := fun vs H Q _ => ∃ (x dx : Addr), vs = [.ref x] ∧ H x = some (.ins S dx []) ∧ ∀ H', SeAt K S H' x Vaacld.start → But x H H' → Q .non H'
theorem first_loop : whole (readLoop 1) [1, 2, 0, 0, -1, 1, 0, 0, 1, 0, 0] = some Vaacld.start.loop := by decide +kernel
theorem has_sinit {S C CF : Addr} (D : Ds K mg) (T : Txt K mg) (R : TR K mg C CF) (Y : TS' K mg S) : HasI P w K mg base CX0 7 S p_Session___init__ (spSInit K S) := by
  have GL := has_rloop (P := P) (w := w) (base := base) D T R
  obtain ⟨aF, gF, sFi⟩ := T.FIRST_LOOP
  refine Y.init.has fun f fd F => F.ok c_Session___init__ (fun vs H Q E h => ?_) (fun cdv A outer s H vs Q E hr h => ⟨_,
    pss_cons (ps_fld (pv 0) (pe_callX (E := fun _ => fun _ _ _ => False) GL hr rfl (fun σ => Bits.passNone σ) (pa_cons (pe_callTy call_list_of (by rfl) T.list (by decide +kernel) (pa_cons (pe_glob (v := .ref aF) rfl gF rfl) pa_nil)) (pa_cons pe_int pa_nil))) rfl)
      (pss_one (ps_fld (pv 0) (pe_lst (pa_cons pe_int pa_nil)) rfl)), ?_⟩)
  · obtain ⟨x, dx, rfl, _⟩ := h
    rfl
  · obtain ⟨x, dx, rfl, hx, q⟩ := h
    refine ⟨aF, _, rfl, .inr (sFi H), fun l hl => ?_⟩
    have s1 := Same.new (o := HO.lst (([1, 2, 0, 0, -1, 1, 0, 0, 1, 0, 0] : List Int).map V.int)) hl
    refine ⟨l, [1, 2, 0, 0, -1, 1, 0, 0, 1, 0, 0], 1, rfl, by decide, by decide, SqL.of upd_same, (fun e => by rw [first_loop] at e; cases e), fun lp e H2 v s2 hv => ?_⟩
    rw [first_loop] at e
    obtain rfl : Vaacld.start.loop = lp := Option.some.inj e
    have hx2 := (s1.trans s2) _ _ hx
    refine ⟨_, rfl, x, S, dx, [], rfl, hx2, Y.cl, Y.nL, (by show 0 < 1000; decide), ?_⟩
    have hB : But x H (upd H2 x (.ins S dx (putF "loop" v []))) := (But.of (s1.trans s2)).trans But.upd
    refine ⟨(by show 1 ≤ sizeLine; decide), fun d hd => ?_⟩
    have s3 := Same.new (o := HO.lst [V.int 0]) hd
    have hx3 := s3 _ _ (upd_same (H := H2) (a := x) (o := .ins S dx (putF "loop" v [])))
    refine ⟨_, rfl, x, S, dx, _, rfl, hx3, Y.cl, Y.nA, (by show 1 < 1000; decide), ?_⟩
    refine q _ ⟨dx, v, .ref d, ?_, ?_, ?_⟩ ((hB.trans (But.of s3)).trans But.upd)
    · rw [upd_same]
      exact congrArg (fun z => some (HO.ins S dx z)) (sF_new v (.ref d))
    · exact ((hv.but (But.upd (r := x)) hx2).same s3).but (But.upd (r := x)) hx3
    · refine ⟨d, rfl, ?_⟩
      rw [upd_ne]
      · rw [upd_same]; rfl
      · rintro rfl
        rw [upd_same] at hd
        cases hd

/-- the session's values lie in another list than d -/
def Sep (S : Addr) (H : Hp) (x d : Addr) : Prop := ∃ dx lv va, H x = some (.ins S dx (sF lv va)) ∧ va ≠ .ref d
theorem sep_of {S x d dx : Addr} {lv va : V} {H : Hp} (h : Sep S H x d) (hx : H x = some (.ins S dx (sF lv va))) : va ≠ .ref d := by
  obtain ⟨dx', lv', va', h1, h2⟩ := h
  rw [hx] at h1
  have h3 : HO.ins S dx (sF lv va) = HO.ins S dx' (sF lv' va') := Option.some.inj h1
  have h4 : sF lv va = sF lv' va' := by injection h3
  have h5 : va = va' := by
    unfold sF at h4
    injection h4 with _ h6
    injection h6 with h7 _
    injection h7
  rw [h5]
  exact h2
/-- what is tracked and apart from the session's values is so still -/
def Apart (S : Addr) (H H' : Hp) (x : Addr) : Prop := ∀ d o, H d = some o → Sep S H x d → Sep S H' x d
theorem Sep.same {S x d : Addr} {H H' : Hp} (h : Sep S H x d) (s : Same H H') : Sep S H' x d := by
  obtain ⟨dx, lv, va, h1, h2⟩ := h
  exact ⟨dx, lv, va, s _ _ h1, h2⟩
theorem Apart.same {S x : Addr} {H H' : Hp} (s : Same H H') : Apart S H H' x := by
  rintro d o _ ⟨dx, lv, va, h1, h2⟩
  exact ⟨dx, lv, va, s _ _ h1, h2⟩
theorem Apart.set {S x dx dx' : Addr} {lv va lv' va' : V} {H H' : Hp} (hx : H x = some (.ins S dx (sF lv va))) (hx' : H' x = some (.ins S dx' (sF lv' va'))) (hp : va' = va ∨ NewV H va') : Apart S H H' x := by
  intro d o hd hs
  refine ⟨dx', lv', va', hx', ?_⟩
  rcases hp with rfl | ⟨b, rfl, hb⟩
  · exact sep_of hs hx
  · exact ref_ne hb hd
/-- a call answered: what is made of the session, the answer in a new list -/
def spCall (K : PySem.W.Frag) (S : Addr) (args : Hp → List V → Call → Prop) : Sp := fun vs H Q _ => ∃ (x : Addr) (as : List V) (st : State) (c : Call), vs = .ref x :: as ∧ args H as c ∧ SeAt K S H x st ∧ Mth.OkSt st ∧
  ∀ H' r, SeAt K S H' x (step st c).1 → But x H H' → Apart S H H' x → LiAt H' r (step st c).2 → NewV H r → Q r H'

/-! ### loop -/
def argLoop (K : PySem.W.Frag) (H : Hp) (as : List V) (c : Call) : Prop := ∃ (n : Int) (na : Addr) (L : List Int), as = [.int n, .ref na] ∧ SqL K H na (L.map V.int) ∧ c = .loop n L
theorem NewV.of {H : Hp} {d : Addr} (h : H d = none) : NewV H (.ref d) := ⟨d, rfl, h⟩
theorem has_take_loop {S C CF : Addr} (D : Ds K mg) (T : Txt K mg) (R : TR K mg C CF) (Y : TS' K mg S) : HasM P w K mg base CX0 7 S "take_loop" p_Session_take_loop (spCall K S (argLoop K)) := by
  have GL := has_rloop (P := P) (w := w) (base := base) D T R
  refine Y.take_loop.has fun f fd F => F.ok c_Session_take_loop (fun vs H Q E h => ?_) (fun cdv A outer s H vs Q E hr h => ⟨_,
    pss_cons (ps_if (PW.pt (pw_or (pt_cmpR op_lt (pv 1) pe_int (nomark _)) (pw_or1 (pt_cmpR op_gt (pv 1) (pe_gi rfl T.MOST_COUNTERS) (nomark _))))) (pss_one (ps_ret (pe_lst (pa_cons (pe_gi rfl T.WRONG_COUNTERS) pa_nil)))) pss_nil)
      (pss_cons (ps_try_only (tb := fun W => tAsg (tCallS (spRLoop K CF) (WE W) (tCons (tVar 2) (tCons (tVar 1) tNil))) (gName 3)) (ts := fun _ _ _ => tRet (tLst (tCons (tC (.int (-1))) tNil))) (Wout := fun _ _ _ _ => False) rfl rfl ⟨rfl, by decide, Or.inl R.gF⟩ takes0
          (fun W pn xe tk _ => pss_one (ps_set (i := 3) c_Session_take_loop.nd rfl (.inl rfl) (pe_callX GL hr rfl (fun σ => passAt tk σ) (pa_cons (pv 2) (pa_cons (pv 1) pa_nil)))))
          (fun _ _ _ _ _ _ _ => pss_one (ps_ret (pe_lst (pa_cons (pe_gi rfl T.NOT_AS_TOLD) pa_nil)))))
      (pss_cons (ps_fld (pv 0) (pv 3) rfl)
      (pss_cons (ps_fld (pv 0) (pe_op op_rep (pe_lst (pa_cons pe_int pa_nil)) (pv 1)) rfl)
      (pss_one (ps_ret (pe_lst (pa_cons (pe_callB call_len_seq (by rfl) T.len PySem.boot_len (pa_cons (pv 3) pa_nil)) pa_nil))))))), ?_⟩)
  · obtain ⟨x, as, st, c, rfl, ⟨n, na, L, rfl, _⟩, _⟩ := h
    rfl
  · obtain ⟨x, as, st, c, rfl, ⟨n, na, L, rfl, hL, rfl⟩, hSe, hok, q⟩ := h
    have one : 1 ≤ sizeLine := by decide
    have hst : step st (.loop n L) = if n < 1 ∨ Vaacld.int VaaclBase.COUNTERS < n then (st, [-2]) else (match whole (readLoop n.toNat) L with
      | none => (st, [-1])
      | some x => (⟨x, List.replicate n.toNat 0⟩, [Vaacld.int x.length])) := rfl
    have hC : Vaacld.int VaaclBase.COUNTERS = 4 := rfl
    rw [hC] at hst
    have wrong : (n < 1 ∨ 4 < n) → ∀ p : Addr, H p = none → Q (.ref p) (upd H p (.lst [.int (-2)])) := by
      intro hn p hp
      rw [if_pos hn] at hst
      have s1 := Same.new (o := HO.lst [.int (-2)]) hp
      refine q _ _ ?_ (But.of s1) (Apart.same s1) ⟨p, rfl, ?_⟩ (NewV.of hp)
      · rw [hst]; exact hSe.same s1
      · rw [upd_same, hst]; rfl
    refine ⟨_, rfl, _, _, rfl, rfl, _, rfl, ?_⟩
    refine ite2 (fun c => ?_) (fun c => ?_)
    · exact if_true_of rfl ⟨one, wrong (.inl (of_decide_eq_true c))⟩
    · have c : ¬ n < 1 := fun z => c (decide_eq_true z)
      refine ⟨_, rfl, _, _, rfl, rfl, _, rfl, ite2 (fun c2 => ?_) (fun c2 => ?_)⟩
      · exact ⟨one, wrong (.inr (of_decide_eq_true c2))⟩
      · have c2 : ¬ 4 < n := fun z => c2 (decide_eq_true z)
        rw [if_neg (by omega)] at hst
        have hnn : ((n.toNat : Nat) : Int) = n := Int.toNat_of_nonneg (by omega)
        refine ⟨_, rfl, _, rfl, na, L, n.toNat, (by rw [hnn]), by omega, by omega, hL, fun e H2 s2 => ?_, fun l e H2 v s2 hv => ?_⟩
        · rw [e] at hst
          refine ⟨true, R.eF, fun _ a ha => ?_, fun z => Bool.noConfusion z⟩
          refine ⟨one, fun p hp => ?_⟩
          have s3 := s2.trans (Same.new (o := HO.lst [.int (-1)]) hp)
          refine q _ _ ?_ (But.of s3) (Apart.same s3) ⟨p, rfl, ?_⟩ (NewV.of (s2.free hp))
          · rw [hst]; exact hSe.same s3
          · rw [upd_same, hst]; rfl
        · rw [e] at hst
          simp only at hst
          obtain ⟨dx, lv, va, hx, hlv, hva⟩ := hSe.same s2
          refine ⟨_, rfl, _, rfl, x, S, dx, _, rfl, hx, Y.cl, Y.nL, (by show 2 < 1000; decide), ?_⟩
          rw [sF_putL]
          have hv3 : LoopAt K (upd H2 x (.ins S dx (sF v va))) v l := hv.but (But.upd (r := x)) hx
          have hx3 : upd H2 x (.ins S dx (sF v va)) x = some (.ins S dx (sF v va)) := upd_same
          have hB3 : But x H (upd H2 x (.ins S dx (sF v va))) := (But.of s2).trans But.upd
          generalize upd H2 x (.ins S dx (sF v va)) = H3 at *
          have h63 : (2 : Int) ^ 63 = 9223372036854775808 := by decide
          refine ⟨one, fun d1 hd1 => ?_⟩
          have s4 := Same.new (o := HO.lst [V.int 0]) hd1
          refine ⟨_, rfl, d1, n, _, rfl, rfl, upd_same, by rw [h63]; omega, by rw [h63]; omega, ?_, fun d2 hd2 => ?_⟩
          · show 1 * n.toNat ≤ sizeLine
            exact Nat.le_trans (by omega : 1 * n.toNat ≤ 4) (by decide)
          · have hrep : (List.replicate n.toNat [V.int 0]).flatten = (List.replicate n.toNat (0 : Int)).map V.int := by
              rw [List.map_replicate]
              induction n.toNat with
              | zero => rfl
              | succ k ih => rw [List.replicate_succ, List.flatten_cons, ih, List.replicate_succ]; rfl
            rw [hrep]
            have s5 := s4.trans (Same.new (o := HO.lst ((List.replicate n.toNat (0 : Int)).map V.int)) hd2)
            have hx5 := s5 _ _ hx3
            have hd5 : upd (upd H3 d1 (.lst [V.int 0])) d2 (.lst ((List.replicate n.toNat (0 : Int)).map V.int)) d2 = some (.lst ((List.replicate n.toNat (0 : Int)).map V.int)) := upd_same
            generalize upd (upd H3 d1 (.lst [V.int 0])) d2 (.lst ((List.replicate n.toNat (0 : Int)).map V.int)) = H5 at *
            refine ⟨_, rfl, x, S, dx, _, rfl, hx5, Y.cl, Y.nA, (by show 2 < 1000; decide), ?_⟩
            rw [sF_putA]
            have hv6 : LoopAt K (upd H5 x (.ins S dx (sF v (.ref d2)))) v l := (hv3.same s5).but (But.upd (r := x)) hx5
            have hB6 : But x H (upd H5 x (.ins S dx (sF v (.ref d2)))) := (hB3.trans (But.of s5)).trans But.upd
            have hd20 : H d2 = none := by
              cases hH : H d2 with
              | none => rfl
              | some o =>
                have hd2' := s4.free hd2
                by_cases hdx : d2 = x
                · subst hdx
                  rw [hx3] at hd2'
                  cases hd2'
                · have := hB3 d2 o hH hdx
                  rw [hd2'] at this
                  cases this
            have hd2x : d2 ≠ x := by
              rintro rfl
              rw [hd5] at hx5
              cases hx5
            have hSe6 : SeAt K S (upd H5 x (.ins S dx (sF v (.ref d2)))) x ⟨l, List.replicate n.toNat 0⟩ := ⟨dx, v, .ref d2, upd_same, hv6, d2, rfl, by rw [upd_ne hd2x]; exact hd5⟩
            have hap : Apart S H (upd H5 x (.ins S dx (sF v (.ref d2)))) x := by
              obtain ⟨dx0, lv0, va0, hx0, _⟩ := id hSe
              exact Apart.set hx0 upd_same (.inr ⟨d2, rfl, hd20⟩)
            generalize upd H5 x (.ins S dx (sF v (.ref d2))) = H6 at *
            obtain ⟨la, bs, rfl, hL6, hA6⟩ := id hv6
            refine ⟨_, rfl, la, _, rfl, .inr hL6, one, fun p hp => ?_⟩
            have s7 := Same.new (o := HO.lst [V.int (bs.length : Nat)]) hp
            refine q _ _ ?_ (hB6.trans (But.of s7)) (fun d o h1 h2 => (hap d o h1 h2).same s7) ⟨p, rfl, ?_⟩ ?_
            · rw [hst]; exact hSe6.same s7
            · rw [upd_same, hst, hA6.1]; rfl
            · refine ⟨p, rfl, ?_⟩
              cases hH : H p with
              | none => rfl
              | some o =>
                by_cases hpx : p = x
                · subst hpx
                  obtain ⟨_, _, _, h6, _⟩ := hSe6
                  rw [h6] at hp
                  cases hp
                · have := hB6 p o hH hpx
                  rw [hp] at this
                  cases this
end LL
/-! P6b -/
namespace LL
open PySem PySem.Spec PyProof.Rows L2
open VaaclBase hiding Given Move Program Piece run
open Vaacld
variable {P : PySem.Program} {w : World} {K : PySem.W.Frag} {mg : Str → Option Value} {base : Heap}

/-- a call that changes nothing: its answer in a new list -/
theorem ans {S x : Addr} {H : Hp} {Q : VK} {st : State} {c : Call} (hSe : SeAt K S H x st) (hst : (step st c).1 = st)
    (q : ∀ H' r, SeAt K S H' x (step st c).1 → But x H H' → Apart S H H' x → LiAt H' r (step st c).2 → NewV H r → Q r H') :
    ∀ (H' : Hp), Same H H' → ∀ ys : List V, ys = (step st c).2.map V.int → ∀ p : Addr, H' p = none → Q (.ref p) (upd H' p (.lst ys)) := by
  rintro H' s ys rfl p hp
  have s2 := s.trans (Same.new (o := HO.lst ((step st c).2.map V.int)) hp)
  exact q _ _ (by rw [hst]; exact hSe.same s2) (But.of s2) (Apart.same s2) ⟨p, rfl, upd_same⟩ (NewV.of (s.free hp))
def argNone (c0 : Call) : Hp → List V → Call → Prop := fun _ as c => as = [] ∧ c = c0
theorem one : 1 ≤ sizeLine := by decide
theorem two : 2 ≤ sizeLine := by decide
theorem three : 3 ≤ sizeLine := by decide
theorem many100 {n : Nat} (h : n ≤ 1000) : n ≤ sizeLine := Nat.le_of_lt (small1000 h)

/-! ### values -/
def argVals (K : PySem.W.Frag) (H : Hp) (as : List V) (c : Call) : Prop := ∃ (na : Addr) (L : List Int), as = [.ref na] ∧ SqL K H na (L.map V.int) ∧ c = .values L
theorem has_take_values {S C CF : Addr} (D : Ds K mg) (T : Txt K mg) (R : TR K mg C CF) (Y : TS' K mg S) : HasM P w K mg base CX0 5 S "take_values" p_Session_take_values (spCall K S (argVals K)) := by
  have GV := has_rvals (P := P) (w := w) (base := base) D T R
  refine Y.take_values.has fun f fd F => F.ok c_Session_take_values (fun vs H Q E h => ?_) (fun cdv A outer s H vs Q E hr h => ⟨_,
    pss_cons (ps_try_only (tb := fun W => sFld K (tVar 0) (tCallS (spRVals K CF) (WE W) (tCons (tVar 1) (tCons (tCB (rLen K) (tCons (tFld K (tVar 0) "amounts") tNil)) tNil))) "amounts") (ts := fun _ _ _ => tRet (tLst (tCons (tC (.int (-1))) tNil))) (Wout := fun _ _ _ _ => False) rfl rfl ⟨rfl, by decide, Or.inl R.gF⟩ takes0
          (fun W pn xe tk _ => pss_one (ps_fld (pv 0) (pe_callX GV hr rfl (fun σ => passAt tk σ) (pa_cons (pv 1) (pa_cons (pe_callB (lenK K) (by rfl) T.len PySem.boot_len (pa_cons (pe_fld (pv 0) rfl) pa_nil)) pa_nil))) rfl))
          (fun _ _ _ _ _ _ _ => pss_one (ps_ret (pe_lst (pa_cons (pe_gi rfl T.NOT_AS_TOLD) pa_nil)))))
      (pss_one (ps_ret (pe_lst (pa_cons pe_int pa_nil)))), ?_⟩)
  · obtain ⟨x, as, st, c, rfl, ⟨na, L, rfl, _⟩, _⟩ := h
    rfl
  · obtain ⟨x, as, st, c, rfl, ⟨na, L, rfl, hL, rfl⟩, hSe, hok, q⟩ := h
    have hst : step st (.values L) = (match whole (readBegin st.values.length) L with
      | none => (st, [-1])
      | some v => ({ st with values := v }, [0])) := rfl
    obtain ⟨dx, lv, va, hx, hlv, hva⟩ := id hSe
    obtain ⟨ua, rfl, hu⟩ := id hva
    have h4 := hok.loop.high
    refine ⟨_, rfl, _, rfl, x, S, dx, _, _, rfl, hx, Y.cl, Y.nA, sF_amounts lv _, ua, _, rfl, .inl (SqL.of hu), na, L, st.values.length, (by rw [List.length_map]), h4, hL, fun e H2 s2 => ?_, fun v e H2 r s2 hr2 hnew => ?_⟩
    · rw [e] at hst
      refine ⟨true, R.eF, fun _ a ha => ?_, fun z => Bool.noConfusion z⟩
      refine ⟨one, fun p hp => ?_⟩
      have s3 := s2.trans (Same.new (o := HO.lst [.int (-1)]) hp)
      refine q _ _ ?_ (But.of s3) (Apart.same s3) ⟨p, rfl, ?_⟩ (NewV.of (s2.free hp))
      · rw [hst]; exact hSe.same s3
      · rw [upd_same, hst]; rfl
    · rw [e] at hst
      simp only at hst
      have hx2 := s2 _ _ hx
      refine ⟨_, rfl, x, S, dx, _, rfl, hx2, Y.cl, Y.nA, (by show 2 < 1000; decide), ?_⟩
      rw [sF_putA]
      refine ⟨one, fun p hp => ?_⟩
      have s4 := Same.new (o := HO.lst [V.int 0]) hp
      have hSe3 : SeAt K S (upd H2 x (.ins S dx (sF lv r))) x { st with values := v } := ⟨dx, lv, r, upd_same, (hlv.same s2).but (But.upd (r := x)) hx2, hr2.but (But.upd (r := x)) hx2⟩
      have hpH : H2 p = none := by
        by_cases hpx : p = x
        · subst hpx
          rw [upd_same] at hp
          cases hp
        · rw [upd_ne hpx] at hp
          exact hp
      have hap : Apart S H (upd H2 x (.ins S dx (sF lv r))) x := Apart.set hx upd_same (.inr hnew)
      refine q _ _ ?_ (((But.of s2).trans But.upd).trans (But.of s4)) (fun d o h1 h2 => (hap d o h1 h2).same s4) ⟨p, rfl, ?_⟩ (NewV.of (s2.free hpH))
      · rw [hst]; exact hSe3.same s4
      · rw [upd_same, hst]; rfl

/-! ### chosen, pattern, times -/
theorem has_tell_chosen {S : Addr} (D : Ds K mg) (T : Txt K mg) (Y : TS' K mg S) : HasM P w K mg base CX0 4 S "tell_chosen" p_Session_tell_chosen (spCall K S (argNone .chosen)) := by
  have GC := has_chosen (P := P) (w := w) (base := base) D T
  refine Y.tell_chosen.has fun f fd F => F.ok c_Session_tell_chosen (fun vs H Q E h => ?_) (fun cdv A outer s H vs Q E hr h => ⟨_,
    pss_cons (ps_set (i := 1) c_Session_tell_chosen.nd rfl (.inl rfl) (pe_callH GC hr rfl (pa_cons (pe_fld (pv 0) rfl) (pa_cons (pe_fld (pv 0) rfl) pa_nil))))
      (pss_one (ps_ret (pe_ifExp (pt_cmpR op_isN (pv 1) pe_non (nomark _)) (pe_lst (pa_cons pe_int pa_nil)) (pe_lst (pa_cons pe_int (pa_cons (pv 1) pa_nil)))))), ?_⟩)
  · obtain ⟨x, as, st, c, rfl, ⟨rfl, _⟩, _⟩ := h
    rfl
  · obtain ⟨x, as, st, c, rfl, ⟨rfl, rfl⟩, hSe, hok, q⟩ := h
    have fin := ans hSe rfl q
    obtain ⟨dx, lv, va, hx, hlv, hva⟩ := id hSe
    have hst : (step st .chosen).2 = (match chosen st.loop st.values with
      | none => [0]
      | some b => [1, Vaacld.int b]) := rfl
    rw [hst] at fin
    refine ⟨_, rfl, x, S, dx, _, _, rfl, hx, Y.cl, Y.nL, sF_loop lv va, _, rfl, x, S, dx, _, _, rfl, hx, Y.cl, Y.nA, sF_amounts lv va, lv, va, st.loop, st.values, rfl, hlv, hva, hok.loop, fun H2 s2 => ?_⟩
    refine ⟨_, rfl, rfl, _, rfl, ?_⟩
    cases hc : chosen st.loop st.values with
    | none =>
      rw [hc] at fin
      exact if_true_of rfl ⟨one, fin H2 s2 _ rfl⟩
    | some b =>
      rw [hc] at fin
      exact if_false_of rfl ⟨_, rfl, two, fin H2 s2 _ rfl⟩

theorem has_tell_pattern {S : Addr} (D : Ds K mg) (T : Txt K mg) (Y : TS' K mg S) : HasM P w K mg base CX0 6 S "tell_pattern" p_Session_tell_pattern (spCall K S (argNone .pattern)) := by
  have GP := has_pat (P := P) (w := w) (base := base) D T
  refine Y.tell_pattern.has fun f fd F => F.ok c_Session_tell_pattern (fun vs H Q E h => ?_) (fun cdv A outer s H vs Q E hr h => ⟨_,
    pss_cons (ps_set (i := 1) c_Session_tell_pattern.nd rfl (.inl rfl) (pe_callH GP hr rfl (pa_cons (pe_fld (pv 0) rfl) (pa_cons (pe_fld (pv 0) rfl) pa_nil))))
      (pss_one (ps_ret (pe_op op_cat (pe_lst (pa_cons (pe_callB call_len_seq (by rfl) T.len PySem.boot_len (pa_cons (pv 1) pa_nil)) pa_nil)) (pv 1)))), ?_⟩)
  · obtain ⟨x, as, st, c, rfl, ⟨rfl, _⟩, _⟩ := h
    rfl
  · obtain ⟨x, as, st, c, rfl, ⟨rfl, rfl⟩, hSe, hok, q⟩ := h
    have fin := ans hSe rfl q
    obtain ⟨dx, lv, va, hx, hlv, hva⟩ := id hSe
    have hst : (step st .pattern).2 = VaaclBase.listed (Mth.patL st.loop st.values) := by
      show (match patternAt st.loop st.values with
        | none => [0]
        | some p => VaaclBase.listed p) = _
      cases hp : patternAt st.loop st.values with
      | none => rw [Mth.patL_nil.2 hp]; rfl
      | some p => unfold Mth.patL; rw [hp]; rfl
    rw [hst] at fin
    refine ⟨_, rfl, x, S, dx, _, _, rfl, hx, Y.cl, Y.nL, sF_loop lv va, _, rfl, x, S, dx, _, _, rfl, hx, Y.cl, Y.nA, sF_amounts lv va, lv, va, st.loop, st.values, rfl, hlv, hva, hok.loop, fun H2 p s2 hp0 hp => ?_⟩
    refine ⟨_, rfl, p, _, rfl, .inl (SqL.of hp), one, fun d hd => ?_⟩
    have s3 := Same.new (o := HO.lst [V.int (((nats (Mth.patL st.loop st.values)).map V.int).length : Nat)]) hd
    refine ⟨_, rfl, d, p, _, _, rfl, rfl, upd_same, s3 _ _ hp, ?_, fin _ (s2.trans s3) _ ?_⟩
    · have h3 := Mth.patL_len (l := st.loop) (s := st.values)
      rw [natsV_length]
      exact many100 (by show 1 + _ ≤ 1000; omega)
    · rw [natsV_length]; rfl

theorem has_tell_times {S : Addr} (D : Ds K mg) (T : Txt K mg) (Y : TS' K mg S) : HasM P w K mg base CX0 7 S "tell_times" p_Session_tell_times (spCall K S (argNone .times)) := by
  have GP := has_pat (P := P) (w := w) (base := base) D T
  have GT := has_times (P := P) (w := w) (base := base) D T
  refine Y.tell_times.has fun f fd F => F.ok c_Session_tell_times (fun vs H Q E h => ?_) (fun cdv A outer s H vs Q E hr h => ⟨_,
    pss_cons (ps_set (i := 1) c_Session_tell_times.nd rfl (.inl rfl) (pe_callH GP (hr.mono (by decide)) rfl (pa_cons (pe_fld (pv 0) rfl) (pa_cons (pe_fld (pv 0) rfl) pa_nil))))
      (pss_cons (ps_if (pt_not (pt_truth (pv 1) (by intro _; rfl))) (pss_one (ps_ret (pe_lst (pa_cons (pe_gi rfl T.NONE_CHOSEN) pa_nil)))) pss_nil)
      (pss_cons (ps_set (i := 2) c_Session_tell_times.nd rfl (.inl rfl) (pe_callH GT hr rfl (pa_cons (pe_fld (pv 0) rfl) (pa_cons (pv 1) (pa_cons (pe_fld (pv 0) rfl) pa_nil)))))
      (pss_one (ps_ret (pe_ifExp (pt_cmpR op_isN (pv 2) pe_non (nomark _)) (pe_lst (pa_cons pe_int pa_nil)) (pe_lst (pa_cons pe_int (pa_cons (pv 2) pa_nil)))))))), ?_⟩)
  · obtain ⟨x, as, st, c, rfl, ⟨rfl, _⟩, _⟩ := h
    rfl
  · obtain ⟨x, as, st, c, rfl, ⟨rfl, rfl⟩, hSe, hok, q⟩ := h
    have fin := ans hSe rfl q
    obtain ⟨dx, lv, va, hx, hlv, hva⟩ := id hSe
    have hst : (step st .times).2 = (match patternAt st.loop st.values with
      | none => [-4]
      | some p => match timesOf st.loop p st.values with
        | none => [0]
        | some q => [1, Vaacld.int q]) := rfl
    rw [hst] at fin
    refine ⟨_, rfl, x, S, dx, _, _, rfl, hx, Y.cl, Y.nL, sF_loop lv va, _, rfl, x, S, dx, _, _, rfl, hx, Y.cl, Y.nA, sF_amounts lv va, lv, va, st.loop, st.values, rfl, hlv, hva, hok.loop, fun H2 p s2 hp0 hp => ?_⟩
    refine ⟨_, rfl, _, .inl ⟨_, SqL.of hp, rfl⟩, ?_⟩
    by_cases hpn : Mth.patL st.loop st.values = []
    · rw [Mth.patL_nil.1 hpn] at fin
      exact if_true_of (by rw [hpn]; rfl) ⟨one, fin H2 s2 _ rfl⟩
    · refine if_false_of (by cases hp : Mth.patL st.loop st.values with | nil => exact absurd hp hpn | cons a r => rfl) ?_
      rw [Mth.patL_some_of hpn] at fin
      have hx2 := s2 _ _ hx
      refine ⟨_, rfl, x, S, dx, _, _, rfl, hx2, Y.cl, Y.nL, sF_loop lv va, _, rfl, _, rfl, x, S, dx, _, _, rfl, hx2, Y.cl, Y.nA, sF_amounts lv va, lv, .ref p, va, st.loop, Mth.patL st.loop st.values, st.values, rfl, hlv.same s2, ⟨p, rfl, hp⟩, hva.same s2, hok.loop, okPat hpn, fun H3 s3 => ?_⟩
      refine ⟨_, rfl, rfl, _, rfl, ?_⟩
      simp only at fin
      cases ht : timesOf st.loop (Mth.patL st.loop st.values) st.values with
      | none =>
        rw [ht] at fin
        exact if_true_of rfl ⟨one, fin H3 (s2.trans s3) _ rfl⟩
      | some k =>
        rw [ht] at fin
        exact if_false_of rfl ⟨_, rfl, two, fin H3 (s2.trans s3) _ rfl⟩

/-! ### run, given -/
def argRun (_ : Hp) (as : List V) (c : Call) : Prop := ∃ n : Int, as = [.int n] ∧ c = .run n
theorem has_tell_run {S : Addr} (D : Ds K mg) (T : Txt K mg) (Y : TS' K mg S) : HasM P w K mg base CX0 5 S "tell_run" p_Session_tell_run (spCall K S argRun) := by
  have GR := has_run (P := P) (w := w) (base := base) D T
  refine Y.tell_run.has fun f fd F => F.ok c_Session_tell_run (fun vs H Q E h => ?_) (fun cdv A outer s H vs Q E hr h => ⟨_,
    pss_cons (ps_if (PW.pt (pw_or (pt_cmpR op_lt (pv 1) pe_int (nomark _)) (pw_or1 (pt_cmpR op_gt (pv 1) (pe_gi rfl T.MOST_ROUNDS) (nomark _))))) (pss_one (ps_ret (pe_lst (pa_cons (pe_gi rfl T.WRONG_ROUNDS) pa_nil)))) pss_nil)
      (pss_cons (ps_asg (pe_callH GR hr rfl (pa_cons (pe_fld (pv 0) rfl) (pa_cons (pe_fld (pv 0) rfl) (pa_cons (pv 1) pa_nil)))) (pg_tup rfl (pgs_cons (pg_name (i := 2) c_Session_tell_run.nd rfl (Or.inl rfl)) (pgs_cons (pg_name (i := 3) c_Session_tell_run.nd rfl (Or.inl rfl)) (pgs_cons (pg_name (i := 4) c_Session_tell_run.nd rfl (Or.inl rfl)) pgs_nil)))))
      (pss_one (ps_ret (pe_op op_cat (pe_lst (pa_cons (pv 2) (pa_cons (pv 3) pa_nil))) (pv 4))))), ?_⟩)
  · obtain ⟨x, as, st, c, rfl, ⟨n, rfl, _⟩, _⟩ := h
    rfl
  · obtain ⟨x, as, st, c, rfl, ⟨n, rfl, rfl⟩, hSe, hok, q⟩ := h
    have h1 : (step st (.run n)).1 = st := by
      show (if n < 0 ∨ Vaacld.int VaaclBase.ROUNDS < n then (st, [-3]) else (st, flatOut (runLoop st.loop n.toNat st.values 0))).1 = st
      split <;> rfl
    have fin := ans hSe h1 q
    obtain ⟨dx, lv, va, hx, hlv, hva⟩ := id hSe
    have hst : (step st (.run n)).2 = if n < 0 ∨ 2000 < n then [-3] else flatOut (runLoop st.loop n.toNat st.values 0) := by
      show (if n < 0 ∨ Vaacld.int VaaclBase.ROUNDS < n then (st, [-3]) else (st, flatOut (runLoop st.loop n.toNat st.values 0))).2 = _
      rw [show Vaacld.int VaaclBase.ROUNDS = 2000 from rfl]
      split <;> rfl
    rw [hst] at fin
    refine ⟨_, rfl, _, _, rfl, rfl, _, rfl, ite2 (fun c => ?_) (fun c => ?_)⟩
    · rw [if_pos (.inl (of_decide_eq_true c))] at fin
      exact if_true_of rfl ⟨one, fin H (Same.refl H) _ rfl⟩
    · have c : ¬ n < 0 := fun z => c (decide_eq_true z)
      refine ⟨_, rfl, _, _, rfl, rfl, _, rfl, ite2 (fun c2 => ?_) (fun c2 => ?_)⟩
      · rw [if_pos (.inr (of_decide_eq_true c2))] at fin
        exact ⟨one, fin H (Same.refl H) _ rfl⟩
      · have c2 : ¬ 2000 < n := fun z => c2 (decide_eq_true z)
        rw [if_neg (by omega)] at fin
        have hnn : ((n.toNat : Nat) : Int) = n := Int.toNat_of_nonneg (by omega)
        refine ⟨_, rfl, x, S, dx, _, _, rfl, hx, Y.cl, Y.nL, sF_loop lv va, _, rfl, x, S, dx, _, _, rfl, hx, Y.cl, Y.nA, sF_amounts lv va, _, rfl, lv, va, st.loop, st.values, n.toNat, (by rw [hnn]), hlv, hva, hok.loop, fun H2 t r s2 ht hr2 => ?_⟩
        obtain ⟨ra, rfl, hra⟩ := hr2
        refine ⟨t, _, rfl, SqT.of ht, rfl, _, _, rfl, _, _, rfl, _, _, rfl, rfl, ?_⟩
        refine ⟨_, rfl, _, rfl, two, fun d hd => ?_⟩
        have s3 := Same.new (o := HO.lst [V.int (VaaclBase.howNumber (runLoop st.loop n.toNat st.values 0).how), V.int ((runLoop st.loop n.toNat st.values 0).rounds : Nat)]) hd
        refine ⟨_, rfl, d, ra, _, _, rfl, rfl, upd_same, s3 _ _ hra, ?_, fin _ (s2.trans s3) _ rfl⟩
        have hlen : ∀ (k : Nat) (s : List Int) (j : Nat), s.length ≤ 4 → (runLoop st.loop k s j).values.length ≤ 4 := by
          intro k
          induction k with
          | zero =>
            intro s j hs
            unfold runLoop
            split <;> exact hs
          | succ k ih =>
            intro s j hs
            unfold runLoop
            split
            · exact hs
            · rename_i b hb
              have hb2 := Mth.chosen_lt hb
              have h5 : (moved (branchAt st.loop b).move s).length ≤ 4 := by
                rw [move_len hok.loop hb2]
                exact hok.loop.high
              simp only
              split
              · exact h5
              · exact ih _ _ h5
        have := hlen n.toNat st.values 0 hok.loop.high
        rw [List.length_map]
        exact many100 (by show 2 + _ ≤ 1000; omega)

theorem has_tell_given {S : Addr} (D : Ds K mg) (T : Txt K mg) (Y : TS' K mg S) : HasM P w K mg base CX0 2 S "tell_given" p_Session_tell_given (spCall K S (argNone .given)) := by
  have GN := has_lnum (P := P) (w := w) (base := base) D T
  refine Y.tell_given.has fun f fd F => F.ok c_Session_tell_given (fun vs H Q E h => ?_) (fun cdv A outer s H vs Q E hr h => ⟨_,
    pss_one (ps_ret (pe_op op_cat (pe_callH GN hr rfl (pa_cons (pe_fld (pv 0) rfl) pa_nil)) (pe_fld (pv 0) rfl))), ?_⟩)
  · obtain ⟨x, as, st, c, rfl, ⟨rfl, _⟩, _⟩ := h
    rfl
  · obtain ⟨x, as, st, c, rfl, ⟨rfl, rfl⟩, hSe, hok, q⟩ := h
    have fin := ans hSe rfl q
    obtain ⟨dx, lv, va, hx, hlv, hva⟩ := id hSe
    obtain ⟨ua, rfl, hu⟩ := id hva
    refine ⟨_, rfl, x, S, dx, _, _, rfl, hx, Y.cl, Y.nL, sF_loop lv _, lv, st.loop, st.values.length, rfl, hlv, hok.loop, fun H2 r s2 hr2 _ => ?_⟩
    obtain ⟨ra, rfl, hra⟩ := hr2
    refine ⟨_, rfl, x, S, dx, _, _, rfl, s2 _ _ hx, Y.cl, Y.nA, sF_amounts lv _, ra, ua, _, _, rfl, rfl, hra, s2 _ _ hu, ?_, fin H2 s2 _ ?_⟩
    · rw [List.length_map, List.length_map]
      have h1 := flats_length hok.loop.high st.loop hok.loop.all
      have h2 := hok.loop.few
      have h3 := hok.loop.high
      exact many100 (by show (_ :: _).length + _ ≤ 1000; rw [List.length_cons]; omega)
    · show _ = (flatLoop st.loop ++ st.values).map V.int
      rw [List.map_append]
end LL
/-! P6c -/
namespace LL
open PySem PySem.Spec PyProof.Rows L2
open VaaclBase hiding Given Move Program Piece run
open Vaacld
variable {P : PySem.Program} {w : World} {K : PySem.W.Frag} {mg : Str → Option Value} {base : Heap}

/-! ### leap -/
theorem phaseTold_length (p : Phase) : (phaseTold p).length = p.pattern.length + 2 := by
  unfold phaseTold VaaclBase.listed
  simp
/-- a call that sets the values: the answer in a new list behind that -/
theorem ansSet {S x dx0 : Addr} {lv0 va0 : V} {H : Hp} {Q : VK} {st : State} {c : Call} {s : List Int} (hx0 : H x = some (.ins S dx0 (sF lv0 va0))) (hst : (step st c).1 = { st with values := s })
    (q : ∀ H' r, SeAt K S H' x (step st c).1 → But x H H' → Apart S H H' x → LiAt H' r (step st c).2 → NewV H r → Q r H') :
    ∀ (H3 : Hp) (dx lv r : _), H3 x = some (.ins S dx (sF lv r)) → (r = va0 ∨ NewV H r) → LoopAt K H3 lv st.loop → LiAt H3 r s → But x H H3 → ∀ (H4 : Hp), Same H3 H4 → ∀ ys : List V, ys = (step st c).2.map V.int → ∀ p : Addr, H4 p = none → Q (.ref p) (upd H4 p (.lst ys)) := by
  rintro H3 dx lv r hx hprov hlv hr hB H4 s4 ys rfl p hp
  have s5 := s4.trans (Same.new (o := HO.lst ((step st c).2.map V.int)) hp)
  have hap : Apart S H H3 x := Apart.set hx0 hx hprov
  refine q _ _ ?_ (hB.trans (But.of s5)) (fun d o h1 h2 => (hap d o h1 h2).same s5) ⟨p, rfl, upd_same⟩ ⟨p, rfl, ?_⟩
  · rw [hst]
    exact ⟨dx, lv, r, s5 _ _ hx, hlv.same s5, hr.same s5⟩
  · cases hH : H p with
    | none => rfl
    | some o =>
      have hp3 := s4.free hp
      by_cases hpx : p = x
      · subst hpx
        rw [hx] at hp3
        cases hp3
      · have := hB p o hH hpx
        rw [hp3] at this
        cases this
theorem has_leap {S : Addr} (D : Ds K mg) (T : Txt K mg) (Y : TS' K mg S) : HasM P w K mg base CX0 7 S "leap" p_Session_leap (spCall K S (argNone .leap)) := by
  have GP := has_pat (P := P) (w := w) (base := base) D T
  have GT := has_times (P := P) (w := w) (base := base) D T
  have GV := has_behind (P := P) (w := w) (base := base) D T
  have GB := has_beyond (P := P) (w := w) (base := base) D T
  have GN := has_pnum (P := P) (w := w) (base := base) D T
  refine Y.leap.has fun f fd F => F.ok c_Session_leap (fun vs H Q E h => ?_) (fun cdv A outer s H vs Q E hr h => ⟨_,
    pss_cons (ps_set (i := 1) c_Session_leap.nd rfl (.inl rfl) (pe_callH GP (hr.mono (by decide)) rfl (pa_cons (pe_fld (pv 0) rfl) (pa_cons (pe_fld (pv 0) rfl) pa_nil))))
      (pss_cons (ps_if (pt_not (pt_truth (pv 1) (by intro _; rfl))) (pss_one (ps_ret (pe_lst (pa_cons pe_int pa_nil)))) pss_nil)
      (pss_cons (ps_set (i := 2) c_Session_leap.nd rfl (.inl rfl) (pe_callH GT hr rfl (pa_cons (pe_fld (pv 0) rfl) (pa_cons (pv 1) (pa_cons (pe_fld (pv 0) rfl) pa_nil)))))
      (pss_cons (ps_if (pt_cmpR op_isN (pv 2) pe_non (nomark _)) (pss_one (ps_ret (pe_op op_cat (pe_lst (pa_cons pe_int (pa_cons (pe_callB call_len_seq (by rfl) T.len PySem.boot_len (pa_cons (pv 1) pa_nil)) pa_nil))) (pv 1)))) pss_nil)
      (pss_cons (ps_set (i := 3) c_Session_leap.nd rfl (.inl rfl) (pe_callH GV (hr.mono (by decide)) rfl (pa_cons (pe_fld (pv 0) rfl) (pa_cons (pv 1) (pa_cons (pe_fld (pv 0) rfl) (pa_cons (pv 2) pa_nil))))))
      (pss_cons (ps_if (pt_val (pe_callH GB (hr.mono (by decide)) rfl (pa_cons (pv 3) pa_nil))) (pss_one (ps_ret (pe_lst (pa_cons (pe_gi rfl T.WOULD_BE_BEYOND) pa_nil)))) pss_nil)
      (pss_cons (ps_fld (pv 0) (pv 3) rfl)
      (pss_one (ps_ret (pe_op op_cat (pe_op op_cat (pe_lst (pa_cons pe_int pa_nil)) (pe_callH GN (hr.mono (by decide)) rfl (pa_cons (pv 1) (pa_cons (pv 2) pa_nil)))) (pv 3)))))))))), ?_⟩)
  · obtain ⟨x, as, st, c, rfl, ⟨rfl, _⟩, _⟩ := h
    rfl
  · obtain ⟨x, as, st, c, rfl, ⟨rfl, rfl⟩, hSe, hok, q⟩ := h
    obtain ⟨dx, lv, va, hx, hlv, hva⟩ := id hSe
    have hst : step st .leap = (match Vaacld.leap st.loop st.values with
      | .over => (st, [0])
      | .never p => (st, 2 :: VaaclBase.listed p)
      | .phase p t => if isBeyond t then (st, [-7]) else ({ st with values := t }, 1 :: (phaseTold p ++ t))) := rfl
    refine ⟨_, rfl, x, S, dx, _, _, rfl, hx, Y.cl, Y.nL, sF_loop lv va, _, rfl, x, S, dx, _, _, rfl, hx, Y.cl, Y.nA, sF_amounts lv va, lv, va, st.loop, st.values, rfl, hlv, hva, hok.loop, fun H2 p s2 hp0 hp => ?_⟩
    refine ⟨_, rfl, _, .inl ⟨_, SqL.of hp, rfl⟩, ?_⟩
    by_cases hpn : Mth.patL st.loop st.values = []
    · have hl : Vaacld.leap st.loop st.values = .over := by
        show Vaacld.leap st.loop st.values = .over
        unfold Vaacld.leap
        rw [Mth.patL_nil.1 hpn]
      rw [hl] at hst
      have fin := ans hSe (by rw [hst]) q
      rw [hst] at fin
      exact if_true_of (by rw [hpn]; rfl) ⟨one, fin H2 s2 _ rfl⟩
    · refine if_false_of (by cases hp : Mth.patL st.loop st.values with | nil => exact absurd hp hpn | cons a r => rfl) ?_
      have hl : Vaacld.leap st.loop st.values = _ := Mth.leap_eq hok.loop rfl (Mth.isBeyond_Bd hok.near) hpn
      have hx2 := s2 _ _ hx
      have h3 := Mth.patL_len (l := st.loop) (s := st.values)
      refine ⟨_, rfl, x, S, dx, _, _, rfl, hx2, Y.cl, Y.nL, sF_loop lv va, _, rfl, _, rfl, x, S, dx, _, _, rfl, hx2, Y.cl, Y.nA, sF_amounts lv va, lv, .ref p, va, st.loop, Mth.patL st.loop st.values, st.values, rfl, hlv.same s2, ⟨p, rfl, hp⟩, hva.same s2, hok.loop, okPat hpn, fun H3 s3 => ?_⟩
      have s23 := s2.trans s3
      have hp3 := s3 _ _ hp
      have hx3 := s3 _ _ hx2
      refine ⟨_, rfl, rfl, _, rfl, ?_⟩
      cases ht : timesOf st.loop (Mth.patL st.loop st.values) st.values with
      | none =>
        rw [ht] at hl
        rw [hl] at hst
        have fin := ans hSe (by rw [hst]) q
        rw [hst] at fin
        refine if_true_of rfl ⟨_, rfl, p, _, rfl, .inl (SqL.of hp3), two, fun d hd => ?_⟩
        have s4 := Same.new (o := HO.lst [V.int 2, V.int (((nats (Mth.patL st.loop st.values)).map V.int).length : Nat)]) hd
        refine ⟨_, rfl, d, p, _, _, rfl, rfl, upd_same, s4 _ _ hp3, ?_, fin _ (s23.trans s4) _ ?_⟩
        · rw [natsV_length]
          exact many100 (by show 2 + _ ≤ 1000; omega)
        · rw [natsV_length]; rfl
      | some k =>
        rw [ht] at hl
        simp only at hl
        rw [hl] at hst
        simp only at hst
        have hk60 := Mth.timesOf_lt hok.loop Mth.patL_mem Mth.patL_len rfl (Mth.isBeyond_Bd hok.near) ht
        refine if_false_of rfl ?_
        refine ⟨_, rfl, x, S, dx, _, _, rfl, hx3, Y.cl, Y.nL, sF_loop lv va, _, rfl, _, rfl, x, S, dx, _, _, rfl, hx3, Y.cl, Y.nA, sF_amounts lv va, _, rfl, lv, .ref p, va, st.loop, Mth.patL st.loop st.values, st.values, k, rfl, hlv.same s23, ⟨p, rfl, hp3⟩, hva.same s23, hok.loop, okPat hpn, hk60, fun H4 r s4 hr4 hnw => ?_⟩
        have s24 := s23.trans s4
        have hlenB : (Mth.it (wholeMove st.loop st.values.length (Mth.patL st.loop st.values)) k st.values).length = st.values.length := by
          rw [Mth.it_length (by rw [(Mth.OkMove.whole hok.loop (fun b hb => Mth.patL_mem b hb)).len])]
        have h4 := hok.loop.high
        generalize Mth.it (wholeMove st.loop st.values.length (Mth.patL st.loop st.values)) k st.values = tv at *
        refine ⟨_, rfl, r, tv, rfl, hr4, by omega, fun H5 s5 => ?_⟩
        have s25 := s24.trans s5
        refine ⟨_, rfl, ite2 (fun cb => ?_) (fun cb => ?_)⟩
        · rw [if_pos cb] at hst
          have fin := ans hSe (by rw [hst]) q
          rw [hst] at fin
          exact ⟨one, fin H5 s25 _ rfl⟩
        · rw [if_neg cb] at hst
          have hx5 := s25 _ _ hx
          refine ⟨_, rfl, _, rfl, x, S, dx, _, rfl, hx5, Y.cl, Y.nA, (by show 2 < 1000; decide), ?_⟩
          rw [sF_putA]
          have hr5 := hr4.same s5
          have hr6 : LiAt (upd H5 x (.ins S dx (sF lv r))) r tv := hr5.but (But.upd (r := x)) hx5
          have fin := ansSet hx (by rw [hst]) q (upd H5 x (.ins S dx (sF lv r))) dx lv r upd_same (hnw.imp id fun h => h.back s23) ((hlv.same s25).but (But.upd (r := x)) hx5) hr6 ((But.of s25).trans But.upd)
          rw [hst] at fin
          have hpx : LiAt (upd H5 x (.ins S dx (sF lv r))) (.ref p) (nats (Mth.patL st.loop st.values)) := LiAt.but (LiAt.same ⟨p, rfl, hp3⟩ (s4.trans s5)) (But.upd (r := x)) hx5
          generalize upd H5 x (.ins S dx (sF lv r)) = H6 at *
          refine ⟨one, fun d hd => ?_⟩
          have s7 := Same.new (o := HO.lst [V.int 1]) hd
          refine ⟨_, rfl, _, rfl, .ref p, Mth.patL st.loop st.values, k, rfl, hpx.same s7, h3, fun H8 y s8 hy _ => ?_⟩
          obtain ⟨ya, rfl, hya⟩ := hy
          have s78 := s7.trans s8
          refine ⟨d, ya, _, _, rfl, rfl, s8 _ _ upd_same, hya, ?_, fun d2 hd2 => ?_⟩
          · rw [List.length_map, phaseTold_length]
            exact many100 (by show 1 + (_ + 2) ≤ 1000; simp only; omega)
          · have s9 := Same.new (o := HO.lst ([V.int 1] ++ (phaseTold ⟨Mth.patL st.loop st.values, k⟩).map V.int)) hd2
            obtain ⟨ra, rfl, hra⟩ := hr6
            refine ⟨_, rfl, d2, ra, _, _, rfl, rfl, upd_same, (s78.trans s9) _ _ hra, ?_, fin _ (s78.trans s9) _ ?_⟩
            · rw [List.length_append, List.length_map, List.length_map, phaseTold_length]
              exact many100 (by show 1 + (_ + 2) + _ ≤ 1000; simp only; omega)
            · show [V.int 1] ++ (phaseTold ⟨Mth.patL st.loop st.values, k⟩).map V.int ++ tv.map V.int = (1 :: (phaseTold ⟨Mth.patL st.loop st.values, k⟩ ++ tv)).map V.int
              simp
end LL
/-! P6d -/
namespace LL
open PySem PySem.Spec PyProof.Rows L2
open VaaclBase hiding Given Move Program Piece run
open Vaacld
variable {P : PySem.Program} {w : World} {K : PySem.W.Frag} {mg : Str → Option Value} {base : Heap}

/-! ### go -/
theorem has_go {S : Addr} (D : Ds K mg) (T : Txt K mg) (Y : TS' K mg S) : HasM P w K mg base CX0 8 S "go" p_Session_go (spCall K S (argNone .go)) := by
  have GL := has_leaps (P := P) (w := w) (base := base) D T
  have GR := has_rounds (P := P) (w := w) (base := base) D T
  refine Y.go.has fun f fd F => F.ok c_Session_go (fun vs H Q E h => ?_) (fun cdv A outer s H vs Q E hr h => ⟨_,
    pss_cons (ps_asg (pe_callH GL hr rfl (pa_cons (pe_fld (pv 0) rfl) (pa_cons (pe_fld (pv 0) rfl) pa_nil))) (pg_tup rfl (pgs_cons (pg_name (i := 1) c_Session_go.nd rfl (Or.inl rfl)) (pgs_cons (pg_name (i := 2) c_Session_go.nd rfl (Or.inl rfl)) (pgs_cons (pg_name (i := 3) c_Session_go.nd rfl (Or.inl rfl)) pgs_nil)))))
      (pss_cons (ps_if (pt_cmpR op_ne (pv 1) (pe_gi rfl T.OVER) (nomark _)) (pss_one (ps_ret (pe_lst (pa_cons (pe_gi rfl T.NOT_OVER) pa_nil)))) pss_nil)
      (pss_cons (ps_fld (pv 0) (pv 3) rfl)
      (pss_one (ps_ret (pe_op op_cat (pe_lst (pa_cons (pe_callH GR (hr.mono (by decide)) rfl (pa_cons (pv 2) pa_nil)) pa_nil)) (pv 3)))))), ?_⟩)
  · obtain ⟨x, as, st, c, rfl, ⟨rfl, _⟩, _⟩ := h
    rfl
  · obtain ⟨x, as, st, c, rfl, ⟨rfl, rfl⟩, hSe, hok, q⟩ := h
    obtain ⟨dx, lv, va, hx, hlv, hva⟩ := id hSe
    have hst : step st .go = if (leaps st.loop st.values).how = .over then ({ st with values := (leaps st.loop st.values).values }, Vaacld.int (allRounds (leaps st.loop st.values).phases) :: (leaps st.loop st.values).values) else (st, [-5]) := rfl
    refine ⟨_, rfl, x, S, dx, _, _, rfl, hx, Y.cl, Y.nL, sF_loop lv va, _, rfl, x, S, dx, _, _, rfl, hx, Y.cl, Y.nA, sF_amounts lv va, lv, va, st.loop, st.values, rfl, hlv, hva, hok.loop, hok.near, fun H2 t pq r ps s2 ht hpq hps hr2 hprov hfew h8 => ?_⟩
    have hlen := (Mth.leaps_ok hok).1
    refine ⟨t, _, rfl, SqT.of ht, rfl, _, _, rfl, _, _, rfl, _, _, rfl, rfl, ?_⟩
    refine ⟨_, rfl, rfl, _, rfl, ?_⟩
    have h4 := hok.loop.high
    generalize leaps st.loop st.values = lp at *
    by_cases hov : lp.how = .over
    · rw [if_pos hov] at hst
      refine if_false_of (by rw [hov]; rfl) ?_
      have hx2 := s2 _ _ hx
      refine ⟨_, rfl, _, rfl, x, S, dx, _, rfl, hx2, Y.cl, Y.nA, (by show 2 < 1000; decide), ?_⟩
      rw [sF_putA]
      have hr3 : LiAt (upd H2 x (.ins S dx (sF lv r))) r lp.values := hr2.but (But.upd (r := x)) hx2
      have fin := ansSet hx (by rw [hst]) q (upd H2 x (.ins S dx (sF lv r))) dx lv r upd_same hprov ((hlv.same s2).but (But.upd (r := x)) hx2) hr3 ((But.of s2).trans But.upd)
      rw [hst] at fin
      have hpqx : pq ≠ x := by
        rintro rfl
        rw [hpq] at hx2
        cases hx2
      have hpq3 : upd H2 x (.ins S dx (sF lv r)) pq = some (.lst ps) := by rw [upd_ne hpqx]; exact hpq
      have hps3 : AllAt (PhaseAt K pq (upd H2 x (.ins S dx (sF lv r)))) ps lp.phases := by
        refine hps.mono fun v ph h => ?_
        obtain ⟨a, b, e1, e2, e3, e4⟩ := h
        refine ⟨a, b, e1, But.tup (But.upd (r := x)) hx2 e2, ?_, e4⟩
        rw [upd_ne]
        · exact e3
        · rintro rfl
          rw [e3] at hx2
          cases hx2
      generalize upd H2 x (.ins S dx (sF lv r)) = H3 at *
      refine ⟨_, rfl, pq, ps, lp.phases, rfl, hpq3, hps3, h8, hfew, fun H4 s4 => ?_⟩
      refine ⟨one, fun d hd => ?_⟩
      have s5 := s4.trans (Same.new (o := HO.lst [V.int (allRounds lp.phases : Nat)]) hd)
      obtain ⟨ra, rfl, hra⟩ := hr3
      refine ⟨_, rfl, d, ra, _, _, rfl, rfl, upd_same, s5 _ _ hra, ?_, fin _ s5 _ rfl⟩
      rw [List.length_map]
      exact many100 (by show 1 + _ ≤ 1000; omega)
    · rw [if_neg hov] at hst
      have fin := ans hSe (by rw [hst]) q
      rw [hst] at fin
      refine if_true_of ?_ ⟨one, fin H2 s2 _ rfl⟩
      cases hh : lp.how with
      | over => exact absurd hh hov
      | never => rfl
      | far => rfl
      | many => rfl

/-! ### phases -/
theorem flats_told : ∀ (ps : List Phase), (∀ p ∈ ps, p.pattern.length ≤ 3) → (ps.flatMap phaseTold).length ≤ 5 * ps.length
  | [], _ => by simp
  | p :: r, h => by
    have h1 := flats_told r (fun c hc => h c (List.mem_cons_of_mem _ hc))
    have h2 := h p List.mem_cons_self
    simp only [List.flatMap_cons, List.length_append, List.length_cons, phaseTold_length]
    omega
theorem has_tell_phases {S : Addr} (D : Ds K mg) (T : Txt K mg) (Y : TS' K mg S) : HasM P w K mg base CX0 8 S "tell_phases" p_Session_tell_phases (spCall K S (argNone .phases)) := by
  have GL := has_leaps (P := P) (w := w) (base := base) D T
  have GR := has_rounds (P := P) (w := w) (base := base) D T
  have GN := has_pnum (P := P) (w := w) (base := base) D T
  refine Y.tell_phases.has fun f fd F => F.ok c_Session_tell_phases (fun vs H Q E h => ?_) (fun cdv A outer s H vs Q E hr h => ⟨_,
    pss_cons (ps_asg (pe_callH GL hr rfl (pa_cons (pe_fld (pv 0) rfl) (pa_cons (pe_fld (pv 0) rfl) pa_nil))) (pg_tup rfl (pgs_cons (pg_name (i := 1) c_Session_tell_phases.nd rfl (Or.inl rfl)) (pgs_cons (pg_name (i := 2) c_Session_tell_phases.nd rfl (Or.inl rfl)) (pgs_cons (pg_name (i := 3) c_Session_tell_phases.nd rfl (Or.inl rfl)) pgs_nil)))))
      (pss_cons (ps_set (i := 4) c_Session_tell_phases.nd rfl (.inl rfl) (pe_lst (pa_cons (pv 1) (pa_cons (pe_callH GR (hr.mono (by decide)) rfl (pa_cons (pv 2) pa_nil)) (pa_cons (pe_callB call_len_seq (by rfl) T.len PySem.boot_len (pa_cons (pv 2) pa_nil)) pa_nil)))))
      (pss_cons (ps_for PassesOwn.never rfl (pi_list (pv 2)) (pg_tup rfl (pgs_cons (pg_name (i := 5) c_Session_tell_phases.nd rfl (Or.inl rfl)) (pgs_cons (pg_name (i := 6) c_Session_tell_phases.nd rfl (Or.inl rfl)) pgs_nil)))
        (pss_one (ps_expr (pe_bm PySem.F.plainAttrs_list PySem.F.slot_list_extend PySem.F.type_list_extend mt_extend (pv 4) (pa_cons (pe_callH GN (hr.mono (by decide)) rfl (pa_cons (pv 5) (pa_cons (pv 6) pa_nil))) pa_nil)))))
      (pss_one (ps_ret (pe_op op_cat (pv 4) (pv 3)))))), ?_⟩)
  · obtain ⟨x, as, st, c, rfl, ⟨rfl, _⟩, _⟩ := h
    rfl
  · obtain ⟨x, as, st, c, rfl, ⟨rfl, rfl⟩, hSe, hok, q⟩ := h
    have fin := ans hSe rfl q
    obtain ⟨dx, lv, va, hx, hlv, hva⟩ := id hSe
    have hst : (step st .phases).2 = leaptTold (leaps st.loop st.values) := rfl
    rw [hst] at fin
    refine ⟨_, rfl, x, S, dx, _, _, rfl, hx, Y.cl, Y.nL, sF_loop lv va, _, rfl, x, S, dx, _, _, rfl, hx, Y.cl, Y.nA, sF_amounts lv va, lv, va, st.loop, st.values, rfl, hlv, hva, hok.loop, hok.near, fun H2 t pq r ps s2 ht hpq hps hr2 hprov hfew h8 => ?_⟩
    have hlen := (Mth.leaps_ok hok).1
    have h4 := hok.loop.high
    generalize leaps st.loop st.values = lp at *
    refine ⟨t, _, rfl, SqT.of ht, rfl, _, _, rfl, _, _, rfl, _, _, rfl, rfl, ?_⟩
    refine ⟨_, rfl, _, rfl, pq, ps, lp.phases, rfl, hpq, hps, h8, hfew, fun H3 s3 => ?_⟩
    refine ⟨_, rfl, pq, _, rfl, .inl (SqL.of (s3 _ _ hpq)), three, fun d hd => ?_⟩
    rw [hps.1]
    have s4 : Same H2 (upd H3 d (.lst [V.int (Vaacld.howNumber lp.how), V.int (allRounds lp.phases : Nat), V.int (lp.phases.length : Nat)])) := s3.trans (Same.new hd)
    have hd2 : H2 d = none := s3.free hd
    refine ⟨_, rfl, pq, rfl, ⟨_, SqL.of (s4 _ _ hpq)⟩, for_list (K := K) (a := pq) (xs := ps) (fun i σ H' => ∃ x5 x6 : Option V, σ = [some (.ref x), some (.int (Vaacld.howNumber lp.how)), some (.ref pq), some r, some (.ref d), x5, x6] ∧ Same H2 H' ∧
        H' d = some (.lst ((Vaacld.howNumber lp.how :: Vaacld.int (allRounds lp.phases) :: Vaacld.int lp.phases.length :: (lp.phases.take i).flatMap phaseTold).map V.int)))
      ⟨none, none, rfl, s4, upd_same⟩ (fun i σ H' _ ⟨_, _, _, s5, _⟩ => s5.seq (SqL.of hpq)) ?_ ?_⟩
    · rintro i v σ H5 hi ⟨x5, x6, rfl, s5, hd5⟩
      obtain ⟨ph, hph, a, b, rfl, e2, e3, e4⟩ := hps.get hi
      have hmem : ph ∈ lp.phases := List.mem_of_getElem? hph
      have htk : lp.phases.take (i + 1) = lp.phases.take i ++ [ph] := by rw [List.take_add_one, hph]; rfl
      refine ⟨a, _, rfl, s5.tup e2, rfl, _, _, rfl, _, _, rfl, rfl, ?_⟩
      refine ⟨_, rfl, .inl ⟨rfl, _, .inl (.inl hd5)⟩, _, rfl, _, rfl, .ref b, ph.pattern, ph.times, rfl, ⟨b, rfl, s5 _ _ e3⟩, hfew ph hmem, fun H6 y s6 hy _ => ?_⟩
      obtain ⟨ya, rfl, hya⟩ := hy
      refine ⟨d, ya, _, _, rfl, rfl, s6 _ _ hd5, hya, ?_, ?_⟩
      · rw [List.length_map, List.length_map, phaseTold_length]
        have h1 := flats_told (lp.phases.take i) (fun p hp => hfew p (List.mem_of_mem_take hp))
        have h2 : (lp.phases.take i).length ≤ lp.phases.length := by rw [List.length_take]; omega
        have h3 := hfew ph hmem
        exact many100 (by simp only [List.length_cons]; omega)
      · refine ⟨some (.ref b), some (.int (ph.times : Nat)), rfl, (s5.trans s6).updNew hd2, ?_⟩
        rw [upd_same, htk]
        simp
    · rintro σ H5 ⟨x5, x6, rfl, s5, hd5⟩
      rw [hps.1, List.take_length] at hd5
      obtain ⟨ra, rfl, hra⟩ := hr2
      refine ⟨_, rfl, _, rfl, d, ra, _, _, rfl, rfl, hd5, s5 _ _ hra, ?_, fin H5 (s2.trans s5) _ ?_⟩
      · rw [List.length_map, List.length_map]
        have h1 := flats_told lp.phases hfew
        exact many100 (by simp only [List.length_cons]; omega)
      · rw [← List.map_append]
        rfl

/-! ### done -/
theorem has_tell_done {S : Addr} (D : Ds K mg) (T : Txt K mg) (Y : TS' K mg S) : HasM P w K mg base CX0 8 S "tell_done" p_Session_tell_done (spCall K S (argNone .done)) := by
  have GL := has_leaps (P := P) (w := w) (base := base) D T
  have GD := has_done (P := P) (w := w) (base := base) D T
  refine Y.tell_done.has fun f fd F => F.ok c_Session_tell_done (fun vs H Q E h => ?_) (fun cdv A outer s H vs Q E hr h => ⟨_,
    pss_cons (ps_asg (pe_callH GL hr rfl (pa_cons (pe_fld (pv 0) rfl) (pa_cons (pe_fld (pv 0) rfl) pa_nil))) (pg_tup rfl (pgs_cons (pg_name (i := 1) c_Session_tell_done.nd rfl (Or.inl rfl)) (pgs_cons (pg_name (i := 2) c_Session_tell_done.nd rfl (Or.inr rfl)) (pgs_cons (pg_name (i := 3) c_Session_tell_done.nd rfl (Or.inl rfl)) pgs_nil)))))
      (pss_one (ps_ret (pe_op op_cat (pe_lst (pa_cons (pv 1) pa_nil)) (pe_lc (own := [("number", 4)]) (g := gName 4) (tt := tYes) rfl c_Session_tell_done.nd (pi_range1 rfl T.range (pa_cons (pe_callB call_len_seq (by rfl) T.len PySem.boot_len (pa_cons (pe_fld (pv 0) rfl) pa_nil)) pa_nil))
        (blkOk_by (N := n_Session_tell_done) (sc := defScope s_Session_tell_done) (by decide +kernel)) (fun _ _ _ _ _ => pg_name (i := 4) c_Session_tell_done.nd rfl (Or.inl rfl)) (fun _ _ _ _ _ => pts_nil)
        (fun _ _ _ _ _ => pe_callH GD (hr.mono (by decide)) rfl (pa_cons (pv 4) (pa_cons (pv 2) pa_nil))))))), ?_⟩)
  · obtain ⟨x, as, st, c, rfl, ⟨rfl, _⟩, _⟩ := h
    rfl
  · obtain ⟨x, as, st, c, rfl, ⟨rfl, rfl⟩, hSe, hok, q⟩ := h
    have fin := ans hSe rfl q
    obtain ⟨dx, lv, va, hx, hlv, hva⟩ := id hSe
    have hst : (step st .done).2 = Vaacld.howNumber (leaps st.loop st.values).how :: (List.range st.loop.length).map fun b => Vaacld.int (doneIn (leaps st.loop st.values).phases b) := rfl
    rw [hst] at fin
    refine ⟨_, rfl, x, S, dx, _, _, rfl, hx, Y.cl, Y.nL, sF_loop lv va, _, rfl, x, S, dx, _, _, rfl, hx, Y.cl, Y.nA, sF_amounts lv va, lv, va, st.loop, st.values, rfl, hlv, hva, hok.loop, hok.near, fun H2 t pq r ps s2 ht hpq hps hr2 hprov hfew h8 => ?_⟩
    generalize leaps st.loop st.values = lp at *
    refine ⟨t, _, rfl, SqT.of ht, rfl, _, _, rfl, _, _, rfl, _, _, rfl, rfl, ?_⟩
    refine ⟨_, rfl, one, fun d hd => ?_⟩
    have s3 := Same.new (o := HO.lst [V.int (Vaacld.howNumber lp.how)]) hd
    have hx3 := s3 _ _ (s2 _ _ hx)
    have hlv3 := (hlv.same s2).same s3
    have hdd : upd H2 d (.lst [V.int (Vaacld.howNumber lp.how)]) d = some (.lst [V.int (Vaacld.howNumber lp.how)]) := upd_same
    have hpq3 := s3 _ _ hpq
    have hps3 : AllAt (PhaseAt K pq (upd H2 d (.lst [V.int (Vaacld.howNumber lp.how)]))) ps lp.phases := hps.mono fun _ _ h => h.same s3
    have s23 := s2.trans s3
    generalize upd H2 d (.lst [V.int (Vaacld.howNumber lp.how)]) = H3 at *
    obtain ⟨la, bs, rfl, hL3, hA3⟩ := id hlv3
    have h3l := hok.loop.few
    have h62 : (2 : Int) ^ 62 = 4611686018427387904 := by decide
    refine ⟨_, rfl, x, S, dx, _, _, rfl, hx3, Y.cl, Y.nL, sF_loop _ va, la, _, rfl, .inr hL3, ((bs.length : Nat) : Int), rfl, by rw [h62]; omega, by rw [h62, hA3.1]; omega, fun D0 hD => ?_⟩
    rw [Int.toNat_natCast, hA3.1]
    refine lc_range (lo := 0) (n := st.loop.length) (fun i H' => Same H3 H' ∧ H' D0 = some (.lst (((List.range i).map fun b => Vaacld.int (doneIn lp.phases b)).map V.int)))
      ⟨Same.new hD, upd_same⟩ ?_ ?_
    · rintro i H4 hi ⟨s4, h4⟩
      refine ⟨rfl, _, rfl, _, rfl, i, pq, ps, lp.phases, ?_, s4 _ _ hpq3, hps3.mono fun _ _ h => h.same s4, h8, hfew, fun H5 s5 => ?_⟩
      · rw [Int.zero_add]
      · refine ⟨_, s5 _ _ h4, ?_, (s4.trans s5).updNew hD, ?_⟩
        · rw [List.length_map, List.length_map, List.length_range]
          exact small1000 (by omega)
        · rw [upd_same, List.range_succ, List.map_append, List.map_append]
          rfl
    · rintro H4 ⟨s4, h4⟩
      refine ⟨d, D0, _, _, rfl, rfl, s4 _ _ hdd, h4, ?_, fin H4 (s23.trans s4) _ rfl⟩
      rw [List.length_map, List.length_map, List.length_range]
      exact many100 (by show 1 + _ ≤ 1000; omega)
end LL
/-! P6e -/
namespace LL
open PySem PySem.Spec PyProof.Rows L2
open VaaclBase hiding Given Move Program Piece run
open Vaacld
variable {P : PySem.Program} {w : World} {K : PySem.W.Frag} {mg : Str → Option Value} {base : Heap}

/-! ### the calls, one behind another -/
theorem rows1 {x : List Int} {xs : List (List Int)} {t : List Int} (h : PyFlat.rows 1 x = some (xs, t)) :
    ∃ (m : Nat) (r : List Int), x = (m : Int) :: r ∧ m ≤ r.length ∧ xs = [r.take m] ∧ t = r.drop m := by
  unfold PyFlat.rows at h
  cases x with
  | nil => cases h
  | cons n r =>
    unfold PyFlat.row at h
    by_cases c : 0 ≤ n ∧ n.toNat ≤ r.length
    · simp only [if_pos c] at h
      unfold PyFlat.rows at h
      cases h
      refine ⟨n.toNat, r, ?_, c.2, rfl, rfl⟩
      rw [Int.toNat_of_nonneg c.1]
    · simp only [if_neg c] at h
      cases h
theorem call_cases {x : List Int} {c : List (List Int)} {t : List Int} (h : PyFlat.call PyVaacld.shape x = some (c, t)) :
    (∃ (n : Int) (m : Nat) (r : List Int), x = 0 :: n :: (m : Int) :: r ∧ m ≤ r.length ∧ c = [[0, n], r.take m] ∧ t = r.drop m) ∨
    (∃ (m : Nat) (r : List Int), x = 1 :: (m : Int) :: r ∧ m ≤ r.length ∧ c = [[1], r.take m] ∧ t = r.drop m) ∨
    (∃ z : Int, (z = 2 ∨ z = 3 ∨ z = 4 ∨ z = 5 ∨ z = 6 ∨ z = 7 ∨ z = 8 ∨ z = 10) ∧ x = z :: t ∧ c = [[z]]) ∨
    (∃ n : Int, x = 9 :: n :: t ∧ c = [[9, n]]) := by
  cases x with
  | nil => cases h
  | cons p r =>
    have hs : PyFlat.call PyVaacld.shape (p :: r) = match PyVaacld.shape p with
      | none => none
      | some (n, k) => if r.length < n then none else match PyFlat.rows k (r.drop n) with
        | none => none
        | some (xs, t) => some ((p :: r.take n) :: xs, t) := rfl
    rw [hs] at h
    by_cases h0 : p = 0
    · subst h0
      have e : PyVaacld.shape 0 = some (1, 1) := rfl
      rw [e] at h
      simp only at h
      cases r with
      | nil => cases h
      | cons n r =>
        rw [if_neg (by simp)] at h
        cases hr : PyFlat.rows 1 ((n :: r).drop 1) with
        | none => rw [hr] at h; cases h
        | some u =>
          obtain ⟨xs, t'⟩ := u
          rw [hr] at h
          cases h
          obtain ⟨m, r2, e1, e2, e3, e4⟩ := rows1 hr
          have e1 : r = (m : Int) :: r2 := e1
          subst e1 e3 e4
          exact .inl ⟨n, m, r2, rfl, e2, rfl, rfl⟩
    · by_cases h1 : p = 1
      · subst h1
        have e : PyVaacld.shape 1 = some (0, 1) := rfl
        rw [e] at h
        simp only at h
        rw [if_neg (by omega)] at h
        cases hr : PyFlat.rows 1 (r.drop 0) with
        | none => rw [hr] at h; cases h
        | some u =>
          obtain ⟨xs, t'⟩ := u
          rw [hr] at h
          cases h
          obtain ⟨m, r2, e1, e2, e3, e4⟩ := rows1 hr
          have e1 : r = (m : Int) :: r2 := e1
          subst e1 e3 e4
          exact .inr (.inl ⟨m, r2, rfl, e2, rfl, rfl⟩)
      · by_cases h9 : p = 9
        · subst h9
          have e : PyVaacld.shape 9 = some (1, 0) := rfl
          rw [e] at h
          simp only at h
          cases r with
          | nil => cases h
          | cons n r =>
            rw [if_neg (by simp)] at h
            cases h
            exact .inr (.inr (.inr ⟨n, rfl, rfl⟩))
        · by_cases hz : p = 2 ∨ p = 3 ∨ p = 4 ∨ p = 5 ∨ p = 6 ∨ p = 7 ∨ p = 8 ∨ p = 10
          · have e : PyVaacld.shape p = some (0, 0) := by
              rcases hz with rfl | rfl | rfl | rfl | rfl | rfl | rfl | rfl <;> rfl
            rw [e] at h
            simp only at h
            rw [if_neg (by omega)] at h
            cases h
            exact .inr (.inr (.inl ⟨p, hz, rfl, rfl⟩))
          · have e : PyVaacld.shape p = none := by
              unfold PyVaacld.shape
              simp only [not_or] at hz
              obtain ⟨z2, z3, z4, z5, z6, z7, z8, z10⟩ := hz
              rw [if_neg h0, if_neg h1, if_neg z2, if_neg z3, if_neg z4, if_neg z5, if_neg z6, if_neg z7, if_neg z8, if_neg h9, if_neg z10]
            rw [e] at h
            cases h

/-- all but two objects as it was -/
def But2 (x r : Addr) (H H' : Hp) : Prop := ∀ b o, H b = some o → b ≠ x → b ≠ r → H' b = some o
theorem But2.ofr {x r : Addr} {H H' : Hp} (h : But r H H') : But2 x r H H' := fun b o hb _ hr => h b o hb hr
theorem But2.ofx {x r : Addr} {H H' : Hp} (h : But x H H') : But2 x r H H' := fun b o hb hx _ => h b o hb hx
theorem But2.trans {x r : Addr} {H H1 H2 : Hp} (a : But2 x r H H1) (b : But2 x r H1 H2) : But2 x r H H2 := fun c o h n m => b c o (a c o h n m) n m
def spNext (K : PySem.W.Frag) (S C : Addr) : Sp := fun vs H Q _ => ∃ (x r na : Addr) (st : State) (L : List Int) (p : Nat) (c : List (List Int)) (t : List Int), vs = [.ref x, .ref r] ∧ x ≠ r ∧ SeAt K S H x st ∧ Mth.OkSt st ∧
  RdAt C H r na p ∧ SqL K H na (L.map V.int) ∧ p ≤ L.length ∧ PyFlat.call PyVaacld.shape (L.drop p) = some (c, t) ∧
  ∀ H' a p', SeAt K S H' x (VaacldNeutral.step st (PyVaacld.whole c)).1 → RdAt C H' r na p' → L.drop p' = t → p' ≤ L.length → But2 x r H H' → Apart S H H' x → LiAt H' a (VaacldNeutral.step st (PyVaacld.whole c)).2 → NewV H a → Q a H'
theorem has_next {S C CF : Addr} (D : Ds K mg) (T : Txt K mg) (R : TR K mg C CF) (Y : TS' K mg S) : Has P w K mg base CX0 9 "answer_next" p_answer_next (spNext K S C) := by
  have GN := has_number (P := P) (w := w) (base := base) T R
  have GR := has_row (P := P) (w := w) (base := base) T R
  have G0 := has_take_loop (P := P) (w := w) (base := base) D T R Y
  have G1 := has_take_values (P := P) (w := w) (base := base) D T R Y
  have G2 := has_tell_chosen (P := P) (w := w) (base := base) D T Y
  have G3 := has_tell_pattern (P := P) (w := w) (base := base) D T Y
  have G4 := has_tell_times (P := P) (w := w) (base := base) D T Y
  have G5 := has_leap (P := P) (w := w) (base := base) D T Y
  have G6 := has_tell_phases (P := P) (w := w) (base := base) D T Y
  have G7 := has_tell_done (P := P) (w := w) (base := base) D T Y
  have G8 := has_go (P := P) (w := w) (base := base) D T Y
  have G10 := has_tell_given (P := P) (w := w) (base := base) D T Y
  have G9 := has_tell_run (P := P) (w := w) (base := base) D T Y
  refine D.answer_next.has fun f fd F => F.ok c_answer_next (fun vs H Q E h => ?_) (fun cdv A outer s H vs Q E hr h => ⟨_,
    pss_cons (ps_set (i := 2) c_answer_next.nd rfl (.inl rfl) (pe_methX0 (E := fun _ => fun _ _ _ => False) (pv 1) R.cl GN (hr.mono (by decide)) (fun σ => Bits.passNone σ)))
      (pss_cons (ps_if (pt_cmpR op_eq (pv 2) (pe_gi rfl T.LOOP) (nomark _)) (pss_cons (ps_set (i := 3) c_answer_next.nd rfl (.inl rfl) (pe_methX0 (E := fun _ => fun _ _ _ => False) (pv 1) R.cl GN (hr.mono (by decide)) (fun σ => Bits.passNone σ))) (pss_one (ps_ret (pe_methX (E := fun _ => E0) (pv 0) Y.cl G0 (hr.mono (by decide)) pass00 (pa_cons (pv 3) (pa_cons (pe_methX0 (E := fun _ => E0) (pv 1) R.cl GR (hr.mono (by decide)) pass00) pa_nil)))))) pss_nil)
      (pss_cons (ps_if (pt_cmpR op_eq (pv 2) (pe_gi rfl T.VALUES) (nomark _)) (pss_one (ps_ret (pe_methX (E := fun _ => E0) (pv 0) Y.cl G1 (hr.mono (by decide)) pass00 (pa_cons (pe_methX0 (E := fun _ => E0) (pv 1) R.cl GR (hr.mono (by decide)) pass00) pa_nil)))) pss_nil)
      (pss_cons (ps_if (pt_cmpR op_eq (pv 2) (pe_gi rfl T.CHOSEN) (nomark _)) (pss_one (ps_ret (pe_methX0 (E := fun _ => E0) (pv 0) Y.cl G2 (hr.mono (by decide)) pass00))) pss_nil)
      (pss_cons (ps_if (pt_cmpR op_eq (pv 2) (pe_gi rfl T.PATTERN) (nomark _)) (pss_one (ps_ret (pe_methX0 (E := fun _ => E0) (pv 0) Y.cl G3 (hr.mono (by decide)) pass00))) pss_nil)
      (pss_cons (ps_if (pt_cmpR op_eq (pv 2) (pe_gi rfl T.TIMES) (nomark _)) (pss_one (ps_ret (pe_methX0 (E := fun _ => E0) (pv 0) Y.cl G4 (hr.mono (by decide)) pass00))) pss_nil)
      (pss_cons (ps_if (pt_cmpR op_eq (pv 2) (pe_gi rfl T.LEAP) (nomark _)) (pss_one (ps_ret (pe_methX0 (E := fun _ => E0) (pv 0) Y.cl G5 (hr.mono (by decide)) pass00))) pss_nil)
      (pss_cons (ps_if (pt_cmpR op_eq (pv 2) (pe_gi rfl T.PHASES) (nomark _)) (pss_one (ps_ret (pe_methX0 (E := fun _ => E0) (pv 0) Y.cl G6 (hr.mono (by decide)) pass00))) pss_nil)
      (pss_cons (ps_if (pt_cmpR op_eq (pv 2) (pe_gi rfl T.DONE) (nomark _)) (pss_one (ps_ret (pe_methX0 (E := fun _ => E0) (pv 0) Y.cl G7 (hr.mono (by decide)) pass00))) pss_nil)
      (pss_cons (ps_if (pt_cmpR op_eq (pv 2) (pe_gi rfl T.GO) (nomark _)) (pss_one (ps_ret (pe_methX0 (E := fun _ => E0) (pv 0) Y.cl G8 (hr.mono (by decide)) pass00))) pss_nil)
      (pss_cons (ps_if (pt_cmpR op_eq (pv 2) (pe_gi rfl T.RUN) (nomark _)) (pss_one (ps_ret (pe_methX (E := fun _ => E0) (pv 0) Y.cl G9 (hr.mono (by decide)) pass00 (pa_cons (pe_methX0 (E := fun _ => fun _ _ _ => False) (pv 1) R.cl GN (hr.mono (by decide)) (fun σ => Bits.passNone σ)) pa_nil)))) pss_nil)
      (pss_one (ps_ret (pe_methX0 (E := fun _ => E0) (pv 0) Y.cl G10 (hr.mono (by decide)) pass00))))))))))))), ?_⟩)
  · obtain ⟨x, r, na, st, L, p, c, t, rfl, _⟩ := h
    rfl
  · obtain ⟨x, r, na, st, L, p, c, t, rfl, hxr, hSe, hok, hR, hL, hp, hcall, q⟩ := h
    obtain ⟨dxr, hr0⟩ := id hR
    have no : ∀ q : Nat, List.lookup ("number" : Str) (rF na q) = none := rF_no (by decide +kernel) (by decide +kernel) na
    have no2 : ∀ q : Nat, List.lookup ("row" : Str) (rF na q) = none := rF_no (by decide +kernel) (by decide +kernel) na
    -- the reader goes on; the session stays
    have keep : ∀ (H1 : Hp), But r H H1 → SeAt K S H1 x st ∧ SqL K H1 na (L.map V.int) := fun H1 hB => ⟨hSe.but hB hr0 hxr, hB.seq hr0 hL⟩
    have newB : ∀ (H1 : Hp) (a : V), But r H H1 → NewV H1 a → (∀ b, a = .ref b → b ≠ r) → NewV H a := by
      rintro H1 a hB ⟨b, rfl, hb⟩ hbr
      refine ⟨b, rfl, ?_⟩
      cases hH : H b with
      | none => rfl
      | some o =>
        have := hB b o hH (hbr b rfl)
        rw [hb] at this
        cases this
    -- a call without arguments or with those read: behind the reader's H1
    have fin : ∀ (k : Call) (H1 : Hp) (p1 : Nat), VaacldNeutral.step st (PyVaacld.whole c) = Vaacld.step st k → RdAt C H1 r na p1 → L.drop p1 = t → p1 ≤ L.length → But r H H1 →
        ∀ H' a, SeAt K S H' x (Vaacld.step st k).1 → But x H1 H' → Apart S H1 H' x → LiAt H' a (Vaacld.step st k).2 → NewV H1 a → Q a H' := by
      intro k H1 p1 hk hR1 hd1 hp1 hB1 H' a hSe' hB' hap ha hn
      obtain ⟨dx1, hr1⟩ := id hR1
      refine q H' a p1 (by rw [hk]; exact hSe') ⟨dx1, hB' _ _ hr1 (fun z => hxr z.symm)⟩ hd1 hp1 ((But2.ofr hB1).trans (But2.ofx hB')) (fun d o h1 h2 => ?_) (by rw [hk]; exact ha) (newB H1 a hB1 hn ?_)
      · obtain ⟨dxs, lvs, vas, hxs, hvs⟩ := h2
        by_cases hdr : d = r
        · subst hdr
          -- the reader is no list
          obtain ⟨dx2, lv2, va2, hx2, _, hva2⟩ := hSe'
          refine ⟨dx2, lv2, va2, hx2, ?_⟩
          obtain ⟨ua, rfl, hu⟩ := hva2
          intro e
          cases e
          have := hB' _ _ hr1 (fun z => hxr z.symm)
          rw [hu] at this
          cases this
        · exact hap d o (hB1 d o h1 hdr) ⟨dxs, lvs, vas, hB1 _ _ hxs hxr, hvs⟩
      rintro b rfl rfl
      obtain ⟨b', e, hb'⟩ := hn
      cases e
      rw [hr1] at hb'
      cases hb'
    rcases call_cases hcall with ⟨n, m, rr, hd, hm, rfl, rfl⟩ | ⟨m, rr, hd, hm, rfl, rfl⟩ | ⟨z, hz, hd, rfl⟩ | ⟨n, hd, rfl⟩
    · refine ⟨_, rfl, r, dxr, _, rfl, hr0, no p, r, na, L, p, rfl, hR, hL, hp, (fun e => by rw [hd] at e; cases e), fun z rest hd' H1 hR1 hB1 => ?_⟩
      rw [hd] at hd'
      cases hd'
      obtain ⟨hd1, hp1⟩ := drop_succ hd
      obtain ⟨hSe1, hL1⟩ := keep H1 hB1
      obtain ⟨dx1, hr1⟩ := id hR1
      refine ⟨_, rfl, rfl, _, rfl, if_true_of rfl ?_⟩
      refine ⟨_, rfl, r, dx1, _, rfl, hr1, no (p + 1), r, na, L, p + 1, rfl, hR1, hL1, hp1, (fun e => by rw [hd1] at e; cases e), fun z rest hd' H2 hR2 hB2 => ?_⟩
      rw [hd1] at hd'
      cases hd'
      obtain ⟨hd2, hp2⟩ := drop_succ hd1
      have hB12 := hB1.trans hB2
      obtain ⟨hSe2, hL2⟩ := keep H2 hB12
      obtain ⟨dx2, hr2⟩ := id hR2
      obtain ⟨dxs, lv, va, hx2, _⟩ := id hSe2
      refine ⟨_, rfl, x, dxs, _, rfl, hx2, sF_no (by decide +kernel) (by decide +kernel) lv va, _, rfl, _, rfl, r, dx2, _, rfl, hr2, no2 (p + 1 + 1), r, na, L, p + 1 + 1, m, rr, rfl, hR2, hL2, hd2, hm, fun H3 qa hR3 hB3 hq0 hq => ?_⟩
      have hB13 := hB12.trans hB3
      obtain ⟨hSe3, hL3⟩ := keep H3 hB13
      have hlen : L.length = p + 1 + 1 + 1 + rr.length := by
        have h1 := congrArg List.length hd2
        rw [List.length_drop, List.length_cons] at h1
        omega
      refine ⟨x, _, st, .loop n (rr.take m), rfl, ⟨n, qa, _, rfl, SqL.of hq, rfl⟩, hSe3, hok, fin (.loop n (rr.take m)) H3 (p + 1 + 1 + 1 + m) rfl hR3 ?_ (by omega) hB13⟩
      rw [← List.drop_drop]
      rw [← List.drop_drop, hd2]
      rfl
    · refine ⟨_, rfl, r, dxr, _, rfl, hr0, no p, r, na, L, p, rfl, hR, hL, hp, (fun e => by rw [hd] at e; cases e), fun z rest hd' H1 hR1 hB1 => ?_⟩
      rw [hd] at hd'
      cases hd'
      obtain ⟨hd1, hp1⟩ := drop_succ hd
      obtain ⟨hSe1, hL1⟩ := keep H1 hB1
      obtain ⟨dx1, hr1⟩ := id hR1
      obtain ⟨dxs, lv, va, hx1, _⟩ := id hSe1
      refine ⟨_, rfl, rfl, _, rfl, if_false_of rfl ⟨_, rfl, rfl, _, rfl, if_true_of rfl ?_⟩⟩
      refine ⟨_, rfl, x, dxs, _, rfl, hx1, sF_no (by decide +kernel) (by decide +kernel) lv va, _, rfl, r, dx1, _, rfl, hr1, no2 (p + 1), r, na, L, p + 1, m, rr, rfl, hR1, hL1, hd1, hm, fun H3 qa hR3 hB3 hq0 hq => ?_⟩
      have hB13 := hB1.trans hB3
      obtain ⟨hSe3, hL3⟩ := keep H3 hB13
      have hlen : L.length = p + 1 + 1 + rr.length := by
        have h1 := congrArg List.length hd1
        rw [List.length_drop, List.length_cons] at h1
        omega
      refine ⟨x, _, st, .values (rr.take m), rfl, ⟨qa, _, rfl, SqL.of hq, rfl⟩, hSe3, hok, fin (.values (rr.take m)) H3 (p + 1 + 1 + m) rfl hR3 ?_ (by omega) hB13⟩
      rw [← List.drop_drop]
      rw [← List.drop_drop, hd1]
      rfl
    · refine ⟨_, rfl, r, dxr, _, rfl, hr0, no p, r, na, L, p, rfl, hR, hL, hp, (fun e => by rw [hd] at e; cases e), fun z' rest hd' H1 hR1 hB1 => ?_⟩
      rw [hd] at hd'
      cases hd'
      obtain ⟨hd1, hp1⟩ := drop_succ hd
      obtain ⟨hSe1, hL1⟩ := keep H1 hB1
      obtain ⟨dxs, lv, va, hx1, _⟩ := id hSe1
      rcases hz with rfl | rfl | rfl | rfl | rfl | rfl | rfl | rfl
      · refine ⟨_, rfl, rfl, _, rfl, if_false_of rfl ⟨_, rfl, rfl, _, rfl, if_false_of rfl ⟨_, rfl, rfl, _, rfl, if_true_of rfl ?_⟩⟩⟩
        exact ⟨_, rfl, x, dxs, _, rfl, hx1, sF_no (by decide +kernel) (by decide +kernel) lv va, x, [], st, .chosen, rfl, ⟨rfl, rfl⟩, hSe1, hok, fin .chosen H1 (p + 1) rfl hR1 hd1 hp1 hB1⟩
      · refine ⟨_, rfl, rfl, _, rfl, if_false_of rfl ⟨_, rfl, rfl, _, rfl, if_false_of rfl ⟨_, rfl, rfl, _, rfl, if_false_of rfl ⟨_, rfl, rfl, _, rfl, if_true_of rfl ?_⟩⟩⟩⟩
        exact ⟨_, rfl, x, dxs, _, rfl, hx1, sF_no (by decide +kernel) (by decide +kernel) lv va, x, [], st, .pattern, rfl, ⟨rfl, rfl⟩, hSe1, hok, fin .pattern H1 (p + 1) rfl hR1 hd1 hp1 hB1⟩
      · refine ⟨_, rfl, rfl, _, rfl, if_false_of rfl ⟨_, rfl, rfl, _, rfl, if_false_of rfl ⟨_, rfl, rfl, _, rfl, if_false_of rfl ⟨_, rfl, rfl, _, rfl, if_false_of rfl ⟨_, rfl, rfl, _, rfl, if_true_of rfl ?_⟩⟩⟩⟩⟩
        exact ⟨_, rfl, x, dxs, _, rfl, hx1, sF_no (by decide +kernel) (by decide +kernel) lv va, x, [], st, .times, rfl, ⟨rfl, rfl⟩, hSe1, hok, fin .times H1 (p + 1) rfl hR1 hd1 hp1 hB1⟩
      · refine ⟨_, rfl, rfl, _, rfl, if_false_of rfl ⟨_, rfl, rfl, _, rfl, if_false_of rfl ⟨_, rfl, rfl, _, rfl, if_false_of rfl ⟨_, rfl, rfl, _, rfl, if_false_of rfl ⟨_, rfl, rfl, _, rfl, if_false_of rfl ⟨_, rfl, rfl, _, rfl, if_true_of rfl ?_⟩⟩⟩⟩⟩⟩
        exact ⟨_, rfl, x, dxs, _, rfl, hx1, sF_no (by decide +kernel) (by decide +kernel) lv va, x, [], st, .leap, rfl, ⟨rfl, rfl⟩, hSe1, hok, fin .leap H1 (p + 1) rfl hR1 hd1 hp1 hB1⟩
      · refine ⟨_, rfl, rfl, _, rfl, if_false_of rfl ⟨_, rfl, rfl, _, rfl, if_false_of rfl ⟨_, rfl, rfl, _, rfl, if_false_of rfl ⟨_, rfl, rfl, _, rfl, if_false_of rfl ⟨_, rfl, rfl, _, rfl, if_false_of rfl ⟨_, rfl, rfl, _, rfl, if_false_of rfl ⟨_, rfl, rfl, _, rfl, if_true_of rfl ?_⟩⟩⟩⟩⟩⟩⟩
        exact ⟨_, rfl, x, dxs, _, rfl, hx1, sF_no (by decide +kernel) (by decide +kernel) lv va, x, [], st, .phases, rfl, ⟨rfl, rfl⟩, hSe1, hok, fin .phases H1 (p + 1) rfl hR1 hd1 hp1 hB1⟩
      · refine ⟨_, rfl, rfl, _, rfl, if_false_of rfl ⟨_, rfl, rfl, _, rfl, if_false_of rfl ⟨_, rfl, rfl, _, rfl, if_false_of rfl ⟨_, rfl, rfl, _, rfl, if_false_of rfl ⟨_, rfl, rfl, _, rfl, if_false_of rfl ⟨_, rfl, rfl, _, rfl, if_false_of rfl ⟨_, rfl, rfl, _, rfl, if_false_of rfl ⟨_, rfl, rfl, _, rfl, if_true_of rfl ?_⟩⟩⟩⟩⟩⟩⟩⟩
        exact ⟨_, rfl, x, dxs, _, rfl, hx1, sF_no (by decide +kernel) (by decide +kernel) lv va, x, [], st, .done, rfl, ⟨rfl, rfl⟩, hSe1, hok, fin .done H1 (p + 1) rfl hR1 hd1 hp1 hB1⟩
      · refine ⟨_, rfl, rfl, _, rfl, if_false_of rfl ⟨_, rfl, rfl, _, rfl, if_false_of rfl ⟨_, rfl, rfl, _, rfl, if_false_of rfl ⟨_, rfl, rfl, _, rfl, if_false_of rfl ⟨_, rfl, rfl, _, rfl, if_false_of rfl ⟨_, rfl, rfl, _, rfl, if_false_of rfl ⟨_, rfl, rfl, _, rfl, if_false_of rfl ⟨_, rfl, rfl, _, rfl, if_false_of rfl ⟨_, rfl, rfl, _, rfl, if_true_of rfl ?_⟩⟩⟩⟩⟩⟩⟩⟩⟩
        exact ⟨_, rfl, x, dxs, _, rfl, hx1, sF_no (by decide +kernel) (by decide +kernel) lv va, x, [], st, .go, rfl, ⟨rfl, rfl⟩, hSe1, hok, fin .go H1 (p + 1) rfl hR1 hd1 hp1 hB1⟩
      · refine ⟨_, rfl, rfl, _, rfl, if_false_of rfl ⟨_, rfl, rfl, _, rfl, if_false_of rfl ⟨_, rfl, rfl, _, rfl, if_false_of rfl ⟨_, rfl, rfl, _, rfl, if_false_of rfl ⟨_, rfl, rfl, _, rfl, if_false_of rfl ⟨_, rfl, rfl, _, rfl, if_false_of rfl ⟨_, rfl, rfl, _, rfl, if_false_of rfl ⟨_, rfl, rfl, _, rfl, if_false_of rfl ⟨_, rfl, rfl, _, rfl, if_false_of rfl ⟨_, rfl, rfl, _, rfl, if_false_of rfl ?_⟩⟩⟩⟩⟩⟩⟩⟩⟩⟩
        exact ⟨_, rfl, x, dxs, _, rfl, hx1, sF_no (by decide +kernel) (by decide +kernel) lv va, x, [], st, .given, rfl, ⟨rfl, rfl⟩, hSe1, hok, fin .given H1 (p + 1) rfl hR1 hd1 hp1 hB1⟩
    · refine ⟨_, rfl, r, dxr, _, rfl, hr0, no p, r, na, L, p, rfl, hR, hL, hp, (fun e => by rw [hd] at e; cases e), fun z rest hd' H1 hR1 hB1 => ?_⟩
      rw [hd] at hd'
      cases hd'
      obtain ⟨hd1, hp1⟩ := drop_succ hd
      obtain ⟨hSe1, hL1⟩ := keep H1 hB1
      obtain ⟨dx1, hr1⟩ := id hR1
      obtain ⟨dxs, lv, va, hx1, _⟩ := id hSe1
      refine ⟨_, rfl, rfl, _, rfl, if_false_of rfl ⟨_, rfl, rfl, _, rfl, if_false_of rfl ⟨_, rfl, rfl, _, rfl, if_false_of rfl ⟨_, rfl, rfl, _, rfl, if_false_of rfl ⟨_, rfl, rfl, _, rfl, if_false_of rfl ⟨_, rfl, rfl, _, rfl, if_false_of rfl ⟨_, rfl, rfl, _, rfl, if_false_of rfl ⟨_, rfl, rfl, _, rfl, if_false_of rfl ⟨_, rfl, rfl, _, rfl, if_false_of rfl ⟨_, rfl, rfl, _, rfl, if_true_of rfl ?_⟩⟩⟩⟩⟩⟩⟩⟩⟩⟩
      refine ⟨_, rfl, x, dxs, _, rfl, hx1, sF_no (by decide +kernel) (by decide +kernel) lv va, _, rfl, r, dx1, _, rfl, hr1, no (p + 1), r, na, L, p + 1, rfl, hR1, hL1, hp1, (fun e => by rw [hd1] at e; cases e), fun z rest hd' H2 hR2 hB2 => ?_⟩
      rw [hd1] at hd'
      cases hd'
      obtain ⟨hd2, hp2⟩ := drop_succ hd1
      have hB12 := hB1.trans hB2
      obtain ⟨hSe2, hL2⟩ := keep H2 hB12
      exact ⟨x, _, st, .run n, rfl, ⟨n, rfl, rfl⟩, hSe2, hok, fin (.run n) H2 (p + 1 + 1) rfl hR2 hd2 hp2 hB12⟩
end LL
/-! P6f -/
namespace LL
open PySem PySem.Spec PyProof.Rows L2
open VaaclBase hiding Given Move Program Piece run
open Vaacld
variable {P : PySem.Program} {w : World} {K : PySem.W.Frag} {mg : Str → Option Value} {base : Heap}

/-! ### answers -/
/-- calls played, each answer told -/
def toldOf (st : State) (cs : List (List (List Int))) : List Int := PyFlat.told (PyFlat.played VaacldNeutral.step st (cs.map PyVaacld.whole))
theorem toldOf_cons (st : State) (c : List (List Int)) (cs : List (List (List Int))) :
    toldOf st (c :: cs) = (((VaacldNeutral.step st (PyVaacld.whole c)).2.length : Nat) : Int) :: ((VaacldNeutral.step st (PyVaacld.whole c)).2 ++ toldOf (VaacldNeutral.step st (PyVaacld.whole c)).1 cs) := rfl
theorem calls_cons {f : Nat} {x : List Int} {cs : List (List (List Int))} (h : PyFlat.calls PyVaacld.shape f x = some cs) (hx : x ≠ []) :
    ∃ c t cs' f', PyFlat.call PyVaacld.shape x = some (c, t) ∧ PyFlat.calls PyVaacld.shape f' t = some cs' ∧ cs = c :: cs' := by
  cases x with
  | nil => exact absurd rfl hx
  | cons p r =>
    cases f with
    | zero => cases h
    | succ f =>
      have hs : PyFlat.calls PyVaacld.shape (f + 1) (p :: r) = match PyFlat.call PyVaacld.shape (p :: r) with
        | none => none
        | some (c, t) => match PyFlat.calls PyVaacld.shape f t with
          | none => none
          | some cs => some (c :: cs) := rfl
      rw [hs] at h
      cases hc : PyFlat.call PyVaacld.shape (p :: r) with
      | none => rw [hc] at h; cases h
      | some u =>
        obtain ⟨c, t⟩ := u
        rw [hc] at h
        simp only at h
        cases ht : PyFlat.calls PyVaacld.shape f t with
        | none => rw [ht] at h; cases h
        | some cs' =>
          rw [ht] at h
          cases h
          exact ⟨c, t, cs', f, rfl, ht, rfl⟩
theorem calls_nil {f : Nat} {cs : List (List (List Int))} (h : PyFlat.calls PyVaacld.shape f [] = some cs) : cs = [] := by
  cases f <;> (cases h; rfl)
theorem neutral_ok {st : State} (h : Mth.OkSt st) (c : List (List Int)) : Mth.OkSt (VaacldNeutral.step st c).1 := by
  unfold VaacldNeutral.step
  split
  · exact Mth.step_ok h _
  · exact h
theorem asked_said {L : List Int} (h : PyVaacld.answers_asked L = true) : ∃ cs, PyFlat.calls PyVaacld.shape L.length L = some cs ∧ PyVaacld.answers L = toldOf Vaacld.start cs ∧ (PyVaacld.answers L).length ≤ 10000000 := by
  unfold PyVaacld.answers_asked at h
  cases hc : PyFlat.calls PyVaacld.shape L.length L with
  | none => rw [hc] at h; cases h
  | some cs =>
    rw [hc] at h
    simp only [Bool.and_eq_true] at h
    refine ⟨cs, rfl, ?_, of_decide_eq_true h.2⟩
    unfold PyVaacld.answers PyVaacld.calls
    rw [hc]
    rfl
def spAns (K : PySem.W.Frag) : Sp := fun vs H Q _ => ∃ (a : Addr) (L : List Int), vs = [.ref a] ∧ SqL K H a (L.map V.int) ∧ PyVaacld.answers_asked L = true ∧
  ∀ (H' : Hp) (p : Addr), H' p = some (.lst ((PyVaacld.answers L).map V.int)) → Q (.ref p) H'
def wAns (K : PySem.W.Frag) (S C : Addr) (a x r d : Addr) (L : List Int) (m : Nat) (σ : L2.St) (H' : Hp) : Prop :=
  ∃ (st : State) (p f : Nat) (cs : List (List (List Int))) (acc : List Int) (v : Option V), m = L.length - p ∧ p ≤ L.length ∧ σ = [some (.ref a), some (.ref x), some (.ref r), some (.ref d), v] ∧ x ≠ r ∧ SeAt K S H' x st ∧ Sep S H' x d ∧ Mth.OkSt st ∧ RdAt C H' r a p ∧ SqL K H' a (L.map V.int) ∧
    H' d = some (.lst (acc.map V.int)) ∧ (d ≠ a ∨ ∀ H, SqL K H a (L.map V.int)) ∧ PyFlat.calls PyVaacld.shape f (L.drop p) = some cs ∧ PyVaacld.answers L = acc ++ toldOf st cs
theorem ok_answers {S C CF f : Addr} {fd : FuncData} (F : Fun K "answers" "answers" s_answers f fd) (D : Ds K mg) (T : Txt K mg) (R : TR K mg C CF) (Y : TS' K mg S) : FnOk P w K mg base CX0 10 f fd p_answers (spAns K) := by
  have GS := has_sinit (P := P) (w := w) (base := base) D T R Y
  have GI := has_rinit (P := P) (w := w) (base := base) R
  have GE := has_atend (P := P) (w := w) (base := base) T R
  have GN := has_next (P := P) (w := w) (base := base) D T R Y
  refine F.ok c_answers (fun vs H Q E h => ?_) (fun cdv A outer s H vs Q E hr h => ⟨_,
    pss_cons (ps_set (i := 1) c_answers.nd rfl (.inl rfl) (pe_makeH0 GS (hr.mono (by decide)) rfl Y.gS))
      (pss_cons (ps_set (i := 2) c_answers.nd rfl (.inl rfl) (pe_makeH GI (hr.mono (by decide)) rfl R.gC (pa_cons (pv 0) pa_nil)))
      (pss_cons (ps_set (i := 3) c_answers.nd rfl (.inl rfl) (pe_lst pa_nil))
      (pss_cons (ps_while PassesOwn.never (pt_not (pt_val (pe_methX0 (E := fun _ => E0) (pv 2) R.cl GE (hr.mono (by decide)) pass00)))
        (pss_cons (ps_set (i := 4) c_answers.nd rfl (.inl rfl) (pe_callH GN hr rfl (pa_cons (pv 1) (pa_cons (pv 2) pa_nil))))
        (pss_cons (ps_expr (pe_bm PySem.F.plainAttrs_list PySem.F.slot_list_append PySem.F.type_list_append mt_append (pv 3) (pa_cons (pe_callB call_len_seq (by rfl) T.len PySem.boot_len (pa_cons (pv 4) pa_nil)) pa_nil)))
        (pss_one (ps_expr (pe_bm PySem.F.plainAttrs_list PySem.F.slot_list_extend PySem.F.type_list_extend mt_extend (pv 3) (pa_cons (pv 4) pa_nil)))))))
      (pss_one (ps_ret (pv 3)))))), ?_⟩)
  · obtain ⟨a, L, rfl, _⟩ := h
    rfl
  · obtain ⟨a, L, rfl, hL, hask, q⟩ := h
    obtain ⟨cs0, hcs0, hans, h10⟩ := asked_said hask
    have hsz : (PyVaacld.answers L).length < sizeLine := Nat.lt_of_le_of_lt h10 (by decide)
    -- session = Session()
    refine fun x dx nx nd ne => ⟨x, dx, rfl, upd_same, fun H1 hSe1 hB1 => ⟨rfl, ?_⟩⟩
    have s1 : Same H H1 := made_same nx nd hB1
    -- reader = Reader(calls)
    refine ⟨_, rfl, fun r dr nr nd2 ne2 => ⟨r, a, dr, rfl, upd_same, fun H2 hR2 hB2 => ⟨rfl, ?_⟩⟩⟩
    have s2 : Same H1 H2 := made_same nr nd2 hB2
    have hxr : x ≠ r := by
      obtain ⟨dx', lv, va, hx, _⟩ := hSe1
      rintro rfl
      rw [hx] at nr
      cases nr
    refine ⟨Nat.zero_le _, fun d hd => ?_⟩
    have s3 := Same.new (o := HO.lst ([] : List V)) hd
    have s13 := (s1.trans s2).trans s3
    have hda : d ≠ a ∨ ∀ H, SqL K H a (L.map V.int) := by
      have hL2 := (s1.trans s2).seq hL
      rcases hL2 with (h | ⟨o, h⟩) | h
      · exact .inl (by rintro rfl; rw [h] at hd; cases hd)
      · exact .inl (by rintro rfl; rw [h] at hd; cases hd)
      · exact .inr fun _ => .inr h
    have hsep0 : Sep S (upd H2 d (.lst [])) x d := by
      obtain ⟨dxs, lvs, vas, hxs, _, hvs⟩ := id hSe1
      exact ⟨dxs, lvs, vas, s3 _ _ (s2 _ _ hxs), (hvs.same s2).ne hd⟩
    refine ⟨wAns K S C a x r d L, ⟨L.length, Vaacld.start, 0, L.length, cs0, [], none, by simp, Nat.zero_le _, rfl, hxr, (hSe1.same s2).same s3, hsep0, Mth.start_ok, hR2.same s3, s13.seq hL, upd_same, hda, hcs0, hans⟩, ?_⟩
    rintro m σ H3 ⟨st, p, fu, cs, acc, v, rfl, hp, rfl, -, hSe, hsep, hok, hR, hL3, hd3, hda, hcs, hacc⟩
    obtain ⟨dr3, hr3⟩ := id hR
    have hlacc : acc.length ≤ (PyVaacld.answers L).length := by rw [hacc, List.length_append]; omega
    refine ⟨_, rfl, r, dr3, _, rfl, hr3, rF_no (by decide +kernel) (by decide +kernel) a p, r, a, L, p, rfl, hR, hL3, _, rfl, ?_⟩
    by_cases hend : L.length ≤ p
    · rw [decide_eq_true hend]
      refine if_false_of rfl ⟨_, rfl, q H3 d ?_⟩
      rw [List.drop_eq_nil_of_le hend] at hcs
      rw [calls_nil hcs] at hacc
      rw [hd3, hacc]
      show _ = some (HO.lst ((acc ++ []).map V.int))
      rw [List.append_nil]
    · rw [decide_eq_false hend]
      refine if_true_of rfl ⟨fun σ' H' => ∃ m', m' < L.length - p ∧ wAns K S C a x r d L m' σ' H', fun _ _ h => h, ?_⟩
      obtain ⟨c, t, cs', fu', hcall, hcs', rfl⟩ := calls_cons hcs (fun e => hend (List.drop_eq_nil_iff.1 e))
      refine ⟨_, rfl, _, rfl, x, r, a, st, L, p, c, t, rfl, hxr, hSe, hok, hR, hL3, hp, hcall, fun H4 y p4 hSe4 hR4 hd4 hp4 hB4 hap4 hy hny => ?_⟩
      rw [toldOf_cons] at hacc
      have hok4 := neutral_ok hok (PyVaacld.whole c)
      generalize VaacldNeutral.step st (PyVaacld.whole c) = sa at *
      obtain ⟨ya, rfl, hya⟩ := hy
      have hdx : d ≠ x := by
        obtain ⟨_, _, _, hx, _⟩ := hSe
        rintro rfl
        rw [hx] at hd3
        cases hd3
      have hdr : d ≠ r := by
        rintro rfl
        rw [hr3] at hd3
        cases hd3
      have hd4' : H4 d = some (.lst (acc.map V.int)) := hB4 _ _ hd3 hdx hdr
      have hyd : ya ≠ d := by
        obtain ⟨b, e, hb⟩ := hny
        cases e
        rintro rfl
        rw [hd3] at hb
        cases hb
      have hlt : acc.length + 1 + sa.2.length ≤ (PyVaacld.answers L).length := by
        rw [hacc]
        simp only [List.length_append, List.length_cons]
        omega
      refine ⟨_, rfl, .inl ⟨rfl, _, .inl (.inl hd4')⟩, _, rfl, ya, _, rfl, .inl (SqL.of hya), d, _, _, rfl, rfl, hd4', by rw [List.length_map]; omega, ?_⟩
      rw [List.length_map]
      have e1 : acc.map V.int ++ [V.int (sa.2.length : Nat)] = (acc ++ [((sa.2.length : Nat) : Int)]).map V.int := by simp
      rw [e1]
      have hya5 : upd H4 d (.lst ((acc ++ [((sa.2.length : Nat) : Int)]).map V.int)) ya = some (.lst (sa.2.map V.int)) := by rw [upd_ne hyd]; exact hya
      refine ⟨_, rfl, .inl ⟨rfl, _, .inl (.inl upd_same)⟩, _, rfl, d, ya, _, _, rfl, rfl, upd_same, hya5, ?_, ?_⟩
      · rw [List.length_map, List.length_map, List.length_append, List.length_singleton]
        omega
      · rw [← List.map_append]
        obtain ⟨dx3, lv3, va3, hx3, _⟩ := id hSe
        have hL4 : SqL K H4 a (L.map V.int) := by
          rcases hL3 with (h | ⟨o, h⟩) | h
          · exact .inl (.inl (hB4 _ _ h (by rintro rfl; rw [hx3] at h; cases h) (by rintro rfl; rw [hr3] at h; cases h)))
          · exact .inl (.inr ⟨o, hB4 _ _ h (by rintro rfl; rw [hx3] at h; cases h) (by rintro rfl; rw [hr3] at h; cases h)⟩)
          · exact .inr h
        have hupL : ∀ (o1 o2 : HO), SqL K (upd (upd H4 d o1) d o2) a (L.map V.int) := by
          intro o1 o2
          rcases hda with hda | hw
          · rcases hL4 with (h | ⟨o, h⟩) | h
            · exact .inl (.inl (by rw [upd_ne (fun e => hda e.symm), upd_ne (fun e => hda e.symm)]; exact h))
            · exact .inl (.inr ⟨o, by rw [upd_ne (fun e => hda e.symm), upd_ne (fun e => hda e.symm)]; exact h⟩)
            · exact .inr h
          · exact hw _
        have hp4' : p < p4 := by
          have h1 := congrArg List.length hd4
          rw [List.length_drop] at h1
          have h2 : t.length < (L.drop p).length := by
            rcases call_cases hcall with ⟨n, m, rr, hd, hm, _, ht⟩ | ⟨m, rr, hd, hm, _, ht⟩ | ⟨z, _, hd, _⟩ | ⟨n, hd, _⟩
            · rw [hd, ht]
              simp only [List.length_drop, List.length_cons]
              omega
            · rw [hd, ht]
              simp only [List.length_drop, List.length_cons]
              omega
            · rw [hd]
              simp only [List.length_cons]
              omega
            · rw [hd]
              simp only [List.length_cons]
              omega
          rw [List.length_drop] at h2
          omega
        have hsep4 := hap4 d _ hd3 hsep
        obtain ⟨dx4, lv4, va4, hx4, hlv4, hva4⟩ := hSe4
        obtain ⟨dr4, hr4⟩ := hR4
        have hud : ∀ (o1 o2 : HO) (b : Addr), b ≠ d → upd (upd H4 d o1) d o2 b = H4 b := fun o1 o2 b hb => by rw [upd_ne hb, upd_ne hb]
        have htup : ∀ (o1 o2 : HO) (b : Addr) (xs : List V), SqT K H4 b xs → SqT K (upd (upd H4 d o1) d o2) b xs := by
          intro o1 o2 b xs h
          rcases h with (h | ⟨o, h⟩) | h
          · exact .inl (.inl (by rw [hud]; exact h; rintro rfl; rw [hd4'] at h; cases h))
          · exact .inl (.inr ⟨o, by rw [hud]; exact h; rintro rfl; rw [hd4'] at h; cases h⟩)
          · exact .inr h
        obtain ⟨ua, rfl, hua⟩ := hva4
        have hud2 : ua ≠ d := fun e => sep_of hsep4 hx4 (congrArg V.ref e)
        refine ⟨L.length - p4, by omega, sa.1, p4, fu', cs', acc ++ [((sa.2.length : Nat) : Int)] ++ sa.2, some (.ref ya), rfl, hp4, rfl, hxr, ⟨dx4, lv4, .ref ua, ?_, hlv4.keep (htup _ _), ua, rfl, ?_⟩, ⟨dx4, lv4, .ref ua, ?_, sep_of hsep4 hx4⟩, hok4, ⟨dr4, ?_⟩, hupL _ _, ?_, hda, ?_, ?_⟩
        · rw [hud _ _ _ (fun e => hdx e.symm)]; exact hx4
        · rw [hud _ _ _ hud2]; exact hua
        · rw [hud _ _ _ (fun e => hdx e.symm)]; exact hx4
        · rw [hud _ _ _ (fun e => hdr e.symm)]; exact hr4
        · rw [upd_same]
        · rw [hd4]; exact hcs'
        · rw [hacc]
          simp
end LL
/-! P7a -/
namespace LL
open PySem PySem.Spec PyProof.Rows L2
open PySem.W (Codec)
section
variable {K : PySem.W.Frag} {mg : Str → Option Value} {h : Heap}
theorem isP (Q : PySem.W.Frag → (Str → Option Value) → Prop) (_ : K.In h) (_ : h.Ns mainGlobals mg) (p : Q K mg) : Q K mg := p
theorem ci_mk {x : Str} {n : Int} {t : Tok} (X : K.In h) (G : h.Ns mainGlobals mg) (a : PySem.W.nsIn K mainGlobals x = some (some (.int n t))) : CI mg x n := ⟨t, PySem.W.mg_of X G a⟩
theorem ct_mk {x : Str} {p : Addr} {ns : List Int} {od : Option Addr} {its : Array Value} {n : Nat} {sl : Array (Option Value)} (X : K.In h) (G : h.Ns mainGlobals mg) (a : PySem.W.nsIn K mainGlobals x = some (some (.ref p)))
    (l : K.lookup p = some ⟨.type "tuple", od, .seq its n, sl⟩) (hz : its.size ≤ sizeLine) (hv : Vals (ns.map V.int) its.toList) : ∃ a, CT K mg x a ns :=
  ⟨p, PySem.W.mg_of X G a, fun _ => .inr ⟨_, its, n, l, rfl, rfl, hz, hv⟩⟩
theorem def_mk {x : Str} {st : Stmt} {ps : List Str} {f : Addr} {oc : Value} {od an : Option Addr} {osl : Array (Option Value)} {kV dc pm cdv ct : Value} (X : K.In h) (G : h.Ns mainGlobals mg) (a : PySem.W.nsIn K mainGlobals x = some (some (.ref f)))
    (l : K.lookup f = some ⟨oc, od, .func (PySem.W.fnOf x x (defArgs st) (defBody st) (defScope st) .none kV dc pm an cdv ct), osl⟩) (c : PySem.W.codeIn K cdv x = true) (k : PySem.W.keepIn K (.ref f) = true)
    (b : ∀ (kV doc pm : Value) (an : Option Addr) (cdv ct : Value) (us : List Value), us.length = ps.length → bindArgs (PySem.W.fnOf x x (defArgs st) (defBody st) (defScope st) .none kV doc pm an cdv ct) ⟨us, []⟩ = pure (ps.zip us)) : DefAt K mg x st ps :=
  ⟨f, _, PySem.W.mg_of X G a, fun_mk l c k, (fun_mk l c k).binds b⟩
theorem meth_mk {C : Addr} {m qual : Str} {st : Stmt} {ps : List Str} {f : Addr} {oc : Value} {od an : Option Addr} {osl : Array (Option Value)} {kV dc pm cdv ct : Value} (a : PySem.W.findIn K (.ref C) m = some (some (.ref f))) (i : PySem.W.isFn K (.ref f) = true)
    (l : K.lookup f = some ⟨oc, od, .func (PySem.W.fnOf m qual (defArgs st) (defBody st) (defScope st) .none kV dc pm an cdv ct), osl⟩) (c : PySem.W.codeIn K cdv qual = true) (k : PySem.W.keepIn K (.ref f) = true)
    (b : ∀ (kV doc pm : Value) (an : Option Addr) (cdv ct : Value) (us : List Value), us.length = ps.length → bindArgs (PySem.W.fnOf m qual (defArgs st) (defBody st) (defScope st) .none kV doc pm an cdv ct) ⟨us, []⟩ = pure (ps.zip us)) : MethAt K C m qual st ps :=
  ⟨f, _, ⟨a, i, k⟩, fun_mk l c k, (fun_mk l c k).binds b⟩
theorem init_mk {C : Addr} {qual : Str} {st : Stmt} {ps : List Str} {f : Addr} {oc : Value} {od an : Option Addr} {osl : Array (Option Value)} {kV dc pm cdv ct : Value} (mk : PySem.W.makesIn K C = true) (kc : PySem.W.keepIn K (.ref C) = true) (a : PySem.W.findIn K (.ref C) "__init__" = some (some (.ref f))) (i : PySem.W.isFn K (.ref f) = true)
    (l : K.lookup f = some ⟨oc, od, .func (PySem.W.fnOf "__init__" qual (defArgs st) (defBody st) (defScope st) .none kV dc pm an cdv ct), osl⟩) (c : PySem.W.codeIn K cdv qual = true) (k : PySem.W.keepIn K (.ref f) = true)
    (b : ∀ (kV doc pm : Value) (an : Option Addr) (cdv ct : Value) (us : List Value), us.length = ps.length → bindArgs (PySem.W.fnOf "__init__" qual (defArgs st) (defBody st) (defScope st) .none kV doc pm an cdv ct) ⟨us, []⟩ = pure (ps.zip us)) : InitAt K C qual st ps :=
  ⟨f, _, ⟨mk, a, i, kc⟩, fun_mk l c k, (fun_mk l c k).binds b⟩
/-- an error of the class at S is what «except S» names -/
theorem exm_self {S : Addr} (h1 : PySem.W.subIn K (.ref S) (.type "BaseException") = some true) (h2 : PySem.W.isClsIn K S = true) (h3 : PySem.W.typeIn K (.ref S) = some (.type "type")) (h4 : PySem.W.subIn K (.ref S) (.ref S) = some true) :
    PySem.W.exmOne K (.ref S) (.ref S) = some true := by
  have e1 : (PySem.W.subIn K (.ref S) (.type "BaseException") == some true) = true := by rw [h1] <;> rfl
  have e2 : ((PySem.W.clsIn K S).isSome && PySem.W.typeIn K (.ref S) == some (.type "type")) = true := by
    have h2' : (PySem.W.clsIn K S).isSome = true := h2
    rw [h2', h3] <;> rfl
  show (if (PySem.W.subIn K (.ref S) (.type "BaseException") == some true) = true then (if ((PySem.W.clsIn K S).isSome && PySem.W.typeIn K (.ref S) == some (.type "type")) = true then PySem.W.subIn K (.ref S) (.ref S) else none) else none) = some true
  rw [if_pos e1, if_pos e2]
  exact h4
theorem fin_mk {P : PySem.Program} {w : World} {S C CF fa f : Addr} {oc : Value} {od an : Option Addr} {osl : Array (Option Value)} {kV dc pm cdv ct : Value} (X : K.In h) (G : h.Ns mainGlobals mg) (hfa : mg "answers" = some (.ref fa)) (a : PySem.W.nsIn K mainGlobals "answers" = some (some (.ref f)))
    (l : K.lookup f = some ⟨oc, od, .func (PySem.W.fnOf "answers" "answers" (defArgs s_answers) (defBody s_answers) (defScope s_answers) .none kV dc pm an cdv ct), osl⟩) (c : PySem.W.codeIn K cdv "answers" = true) (k : PySem.W.keepIn K (.ref f) = true)
    (D : Ds K mg) (T : Txt K mg) (R : TR K mg C CF) (Y : TS' K mg S) :
    ∃ fd : FuncData, (∀ (s : Shared) (us : List Value), us.length = (["calls"] : List Str).length → BindsTo s fd ⟨us, []⟩ ((["calls"] : List Str).zip us)) ∧ ∀ base : Heap, K.In base → base.Ns mainGlobals mg → FnOk P w K mg base CX0 10 fa fd ["calls"] (spAns K) := by
  have e := hfa.symm.trans (PySem.W.mg_of X G a)
  cases e
  exact ⟨PySem.W.fnOf "answers" "answers" (defArgs s_answers) (defBody s_answers) (defScope s_answers) .none kV dc pm an cdv ct, fun s us hu => match us, hu with | [_], _ => .of_eq rfl, fun base _ _ => ok_answers (fun_mk l c k) D T R Y⟩
theorem tr_mk {C CF : Addr} (X : K.In h) (G : h.Ns mainGlobals mg) (aC : PySem.W.nsIn K mainGlobals "Reader" = some (some (.ref C))) (aF : PySem.W.nsIn K mainGlobals "NotWhole" = some (some (.ref CF))) (pg : PySem.W.plainGet K C Str.empty = true) (hd : PySem.W.hasDictIn K C = true) (po : PySem.W.plainOver K C = true) (sa : PySem.W.findIn K (.ref C) "__setattr__" = some (some (.builtin "object.__setattr__"))) (mk : PySem.W.makesIn K C = true) (kc : PySem.W.keepIn K (.ref C) = true)
    (nN : PySem.W.findIn K (.ref C) "numbers" = some none) (nP : PySem.W.findIn K (.ref C) "place" = some none)
    (xF : PySem.W.excIn K CF [.type "Exception", .type "BaseException", .type "object"] "Exception.__new__" = true) (kF : PySem.W.keepIn K (.ref CF) = true) (bF : PySem.W.subIn K (.ref CF) (.type "BaseException") = some true) (tF : PySem.W.typeIn K (.ref CF) = some (.type "type"))
    (iF : PySem.W.isClsIn K CF = true) (sF : PySem.W.subIn K (.ref CF) (.ref CF) = some true)
    {f0 : Addr} {oc0 : Value} {od0 an0 : Option Addr} {osl0 : Array (Option Value)} {kV0 dc0 pm0 cdv0 ct0 : Value} (a0 : PySem.W.findIn K (.ref C) "__init__" = some (some (.ref f0))) (i0 : PySem.W.isFn K (.ref f0) = true) (l0 : K.lookup f0 = some ⟨oc0, od0, .func (PySem.W.fnOf "__init__" "Reader.__init__" (defArgs s_Reader___init__) (defBody s_Reader___init__) (defScope s_Reader___init__) .none kV0 dc0 pm0 an0 cdv0 ct0), osl0⟩) (c0 : PySem.W.codeIn K cdv0 "Reader.__init__" = true) (k0 : PySem.W.keepIn K (.ref f0) = true)
    {f1 : Addr} {oc1 : Value} {od1 an1 : Option Addr} {osl1 : Array (Option Value)} {kV1 dc1 pm1 cdv1 ct1 : Value} (a1 : PySem.W.findIn K (.ref C) "at_end" = some (some (.ref f1))) (i1 : PySem.W.isFn K (.ref f1) = true) (l1 : K.lookup f1 = some ⟨oc1, od1, .func (PySem.W.fnOf "at_end" "Reader.at_end" (defArgs s_Reader_at_end) (defBody s_Reader_at_end) (defScope s_Reader_at_end) .none kV1 dc1 pm1 an1 cdv1 ct1), osl1⟩) (c1 : PySem.W.codeIn K cdv1 "Reader.at_end" = true) (k1 : PySem.W.keepIn K (.ref f1) = true)
    {f2 : Addr} {oc2 : Value} {od2 an2 : Option Addr} {osl2 : Array (Option Value)} {kV2 dc2 pm2 cdv2 ct2 : Value} (a2 : PySem.W.findIn K (.ref C) "number" = some (some (.ref f2))) (i2 : PySem.W.isFn K (.ref f2) = true) (l2 : K.lookup f2 = some ⟨oc2, od2, .func (PySem.W.fnOf "number" "Reader.number" (defArgs s_Reader_number) (defBody s_Reader_number) (defScope s_Reader_number) .none kV2 dc2 pm2 an2 cdv2 ct2), osl2⟩) (c2 : PySem.W.codeIn K cdv2 "Reader.number" = true) (k2 : PySem.W.keepIn K (.ref f2) = true)
    {f3 : Addr} {oc3 : Value} {od3 an3 : Option Addr} {osl3 : Array (Option Value)} {kV3 dc3 pm3 cdv3 ct3 : Value} (a3 : PySem.W.findIn K (.ref C) "number_within" = some (some (.ref f3))) (i3 : PySem.W.isFn K (.ref f3) = true) (l3 : K.lookup f3 = some ⟨oc3, od3, .func (PySem.W.fnOf "number_within" "Reader.number_within" (defArgs s_Reader_number_within) (defBody s_Reader_number_within) (defScope s_Reader_number_within) .none kV3 dc3 pm3 an3 cdv3 ct3), osl3⟩) (c3 : PySem.W.codeIn K cdv3 "Reader.number_within" = true) (k3 : PySem.W.keepIn K (.ref f3) = true)
    {f4 : Addr} {oc4 : Value} {od4 an4 : Option Addr} {osl4 : Array (Option Value)} {kV4 dc4 pm4 cdv4 ct4 : Value} (a4 : PySem.W.findIn K (.ref C) "row" = some (some (.ref f4))) (i4 : PySem.W.isFn K (.ref f4) = true) (l4 : K.lookup f4 = some ⟨oc4, od4, .func (PySem.W.fnOf "row" "Reader.row" (defArgs s_Reader_row) (defBody s_Reader_row) (defScope s_Reader_row) .none kV4 dc4 pm4 an4 cdv4 ct4), osl4⟩) (c4 : PySem.W.codeIn K cdv4 "Reader.row" = true) (k4 : PySem.W.keepIn K (.ref f4) = true)
    {f5 : Addr} {oc5 : Value} {od5 an5 : Option Addr} {osl5 : Array (Option Value)} {kV5 dc5 pm5 cdv5 ct5 : Value} (a5 : PySem.W.findIn K (.ref C) "finish" = some (some (.ref f5))) (i5 : PySem.W.isFn K (.ref f5) = true) (l5 : K.lookup f5 = some ⟨oc5, od5, .func (PySem.W.fnOf "finish" "Reader.finish" (defArgs s_Reader_finish) (defBody s_Reader_finish) (defScope s_Reader_finish) .none kV5 dc5 pm5 an5 cdv5 ct5), osl5⟩) (c5 : PySem.W.codeIn K cdv5 "Reader.finish" = true) (k5 : PySem.W.keepIn K (.ref f5) = true)
    : ∃ C CF, TR K mg C CF :=
  ⟨C, CF, ⟨pg, hd, po, sa⟩, nN, nP, PySem.W.mg_of X G aC, PySem.W.mg_of X G aF, xF, kF, bF, tF, exm_self bF iF tF sF, init_mk mk kc a0 i0 l0 c0 k0 (fun _ _ _ _ _ _ us hl => match us, hl with | [_, _], _ => rfl), meth_mk a1 i1 l1 c1 k1 (fun _ _ _ _ _ _ us hl => match us, hl with | [_], _ => rfl), meth_mk a2 i2 l2 c2 k2 (fun _ _ _ _ _ _ us hl => match us, hl with | [_], _ => rfl), meth_mk a3 i3 l3 c3 k3 (fun _ _ _ _ _ _ us hl => match us, hl with | [_, _, _], _ => rfl), meth_mk a4 i4 l4 c4 k4 (fun _ _ _ _ _ _ us hl => match us, hl with | [_], _ => rfl), meth_mk a5 i5 l5 c5 k5 (fun _ _ _ _ _ _ us hl => match us, hl with | [_], _ => rfl)⟩
theorem ts_mk {C : Addr} (X : K.In h) (G : h.Ns mainGlobals mg) (aC : PySem.W.nsIn K mainGlobals "Session" = some (some (.ref C))) (pg : PySem.W.plainGet K C Str.empty = true) (hd : PySem.W.hasDictIn K C = true) (po : PySem.W.plainOver K C = true) (sa : PySem.W.findIn K (.ref C) "__setattr__" = some (some (.builtin "object.__setattr__"))) (mk : PySem.W.makesIn K C = true) (kc : PySem.W.keepIn K (.ref C) = true)
    (nL : PySem.W.findIn K (.ref C) "loop" = some none) (nA : PySem.W.findIn K (.ref C) "amounts" = some none)
    {f0 : Addr} {oc0 : Value} {od0 an0 : Option Addr} {osl0 : Array (Option Value)} {kV0 dc0 pm0 cdv0 ct0 : Value} (a0 : PySem.W.findIn K (.ref C) "__init__" = some (some (.ref f0))) (i0 : PySem.W.isFn K (.ref f0) = true) (l0 : K.lookup f0 = some ⟨oc0, od0, .func (PySem.W.fnOf "__init__" "Session.__init__" (defArgs s_Session___init__) (defBody s_Session___init__) (defScope s_Session___init__) .none kV0 dc0 pm0 an0 cdv0 ct0), osl0⟩) (c0 : PySem.W.codeIn K cdv0 "Session.__init__" = true) (k0 : PySem.W.keepIn K (.ref f0) = true)
    {f1 : Addr} {oc1 : Value} {od1 an1 : Option Addr} {osl1 : Array (Option Value)} {kV1 dc1 pm1 cdv1 ct1 : Value} (a1 : PySem.W.findIn K (.ref C) "take_loop" = some (some (.ref f1))) (i1 : PySem.W.isFn K (.ref f1) = true) (l1 : K.lookup f1 = some ⟨oc1, od1, .func (PySem.W.fnOf "take_loop" "Session.take_loop" (defArgs s_Session_take_loop) (defBody s_Session_take_loop) (defScope s_Session_take_loop) .none kV1 dc1 pm1 an1 cdv1 ct1), osl1⟩) (c1 : PySem.W.codeIn K cdv1 "Session.take_loop" = true) (k1 : PySem.W.keepIn K (.ref f1) = true)
    {f2 : Addr} {oc2 : Value} {od2 an2 : Option Addr} {osl2 : Array (Option Value)} {kV2 dc2 pm2 cdv2 ct2 : Value} (a2 : PySem.W.findIn K (.ref C) "take_values" = some (some (.ref f2))) (i2 : PySem.W.isFn K (.ref f2) = true) (l2 : K.lookup f2 = some ⟨oc2, od2, .func (PySem.W.fnOf "take_values" "Session.take_values" (defArgs s_Session_take_values) (defBody s_Session_take_values) (defScope s_Session_take_values) .none kV2 dc2 pm2 an2 cdv2 ct2), osl2⟩) (c2 : PySem.W.codeIn K cdv2 "Session.take_values" = true) (k2 : PySem.W.keepIn K (.ref f2) = true)
    {f3 : Addr} {oc3 : Value} {od3 an3 : Option Addr} {osl3 : Array (Option Value)} {kV3 dc3 pm3 cdv3 ct3 : Value} (a3 : PySem.W.findIn K (.ref C) "tell_chosen" = some (some (.ref f3))) (i3 : PySem.W.isFn K (.ref f3) = true) (l3 : K.lookup f3 = some ⟨oc3, od3, .func (PySem.W.fnOf "tell_chosen" "Session.tell_chosen" (defArgs s_Session_tell_chosen) (defBody s_Session_tell_chosen) (defScope s_Session_tell_chosen) .none kV3 dc3 pm3 an3 cdv3 ct3), osl3⟩) (c3 : PySem.W.codeIn K cdv3 "Session.tell_chosen" = true) (k3 : PySem.W.keepIn K (.ref f3) = true)
    {f4 : Addr} {oc4 : Value} {od4 an4 : Option Addr} {osl4 : Array (Option Value)} {kV4 dc4 pm4 cdv4 ct4 : Value} (a4 : PySem.W.findIn K (.ref C) "tell_pattern" = some (some (.ref f4))) (i4 : PySem.W.isFn K (.ref f4) = true) (l4 : K.lookup f4 = some ⟨oc4, od4, .func (PySem.W.fnOf "tell_pattern" "Session.tell_pattern" (defArgs s_Session_tell_pattern) (defBody s_Session_tell_pattern) (defScope s_Session_tell_pattern) .none kV4 dc4 pm4 an4 cdv4 ct4), osl4⟩) (c4 : PySem.W.codeIn K cdv4 "Session.tell_pattern" = true) (k4 : PySem.W.keepIn K (.ref f4) = true)
    {f5 : Addr} {oc5 : Value} {od5 an5 : Option Addr} {osl5 : Array (Option Value)} {kV5 dc5 pm5 cdv5 ct5 : Value} (a5 : PySem.W.findIn K (.ref C) "tell_times" = some (some (.ref f5))) (i5 : PySem.W.isFn K (.ref f5) = true) (l5 : K.lookup f5 = some ⟨oc5, od5, .func (PySem.W.fnOf "tell_times" "Session.tell_times" (defArgs s_Session_tell_times) (defBody s_Session_tell_times) (defScope s_Session_tell_times) .none kV5 dc5 pm5 an5 cdv5 ct5), osl5⟩) (c5 : PySem.W.codeIn K cdv5 "Session.tell_times" = true) (k5 : PySem.W.keepIn K (.ref f5) = true)
    {f6 : Addr} {oc6 : Value} {od6 an6 : Option Addr} {osl6 : Array (Option Value)} {kV6 dc6 pm6 cdv6 ct6 : Value} (a6 : PySem.W.findIn K (.ref C) "leap" = some (some (.ref f6))) (i6 : PySem.W.isFn K (.ref f6) = true) (l6 : K.lookup f6 = some ⟨oc6, od6, .func (PySem.W.fnOf "leap" "Session.leap" (defArgs s_Session_leap) (defBody s_Session_leap) (defScope s_Session_leap) .none kV6 dc6 pm6 an6 cdv6 ct6), osl6⟩) (c6 : PySem.W.codeIn K cdv6 "Session.leap" = true) (k6 : PySem.W.keepIn K (.ref f6) = true)
    {f7 : Addr} {oc7 : Value} {od7 an7 : Option Addr} {osl7 : Array (Option Value)} {kV7 dc7 pm7 cdv7 ct7 : Value} (a7 : PySem.W.findIn K (.ref C) "tell_phases" = some (some (.ref f7))) (i7 : PySem.W.isFn K (.ref f7) = true) (l7 : K.lookup f7 = some ⟨oc7, od7, .func (PySem.W.fnOf "tell_phases" "Session.tell_phases" (defArgs s_Session_tell_phases) (defBody s_Session_tell_phases) (defScope s_Session_tell_phases) .none kV7 dc7 pm7 an7 cdv7 ct7), osl7⟩) (c7 : PySem.W.codeIn K cdv7 "Session.tell_phases" = true) (k7 : PySem.W.keepIn K (.ref f7) = true)
    {f8 : Addr} {oc8 : Value} {od8 an8 : Option Addr} {osl8 : Array (Option Value)} {kV8 dc8 pm8 cdv8 ct8 : Value} (a8 : PySem.W.findIn K (.ref C) "tell_done" = some (some (.ref f8))) (i8 : PySem.W.isFn K (.ref f8) = true) (l8 : K.lookup f8 = some ⟨oc8, od8, .func (PySem.W.fnOf "tell_done" "Session.tell_done" (defArgs s_Session_tell_done) (defBody s_Session_tell_done) (defScope s_Session_tell_done) .none kV8 dc8 pm8 an8 cdv8 ct8), osl8⟩) (c8 : PySem.W.codeIn K cdv8 "Session.tell_done" = true) (k8 : PySem.W.keepIn K (.ref f8) = true)
    {f9 : Addr} {oc9 : Value} {od9 an9 : Option Addr} {osl9 : Array (Option Value)} {kV9 dc9 pm9 cdv9 ct9 : Value} (a9 : PySem.W.findIn K (.ref C) "go" = some (some (.ref f9))) (i9 : PySem.W.isFn K (.ref f9) = true) (l9 : K.lookup f9 = some ⟨oc9, od9, .func (PySem.W.fnOf "go" "Session.go" (defArgs s_Session_go) (defBody s_Session_go) (defScope s_Session_go) .none kV9 dc9 pm9 an9 cdv9 ct9), osl9⟩) (c9 : PySem.W.codeIn K cdv9 "Session.go" = true) (k9 : PySem.W.keepIn K (.ref f9) = true)
    {f10 : Addr} {oc10 : Value} {od10 an10 : Option Addr} {osl10 : Array (Option Value)} {kV10 dc10 pm10 cdv10 ct10 : Value} (a10 : PySem.W.findIn K (.ref C) "tell_run" = some (some (.ref f10))) (i10 : PySem.W.isFn K (.ref f10) = true) (l10 : K.lookup f10 = some ⟨oc10, od10, .func (PySem.W.fnOf "tell_run" "Session.tell_run" (defArgs s_Session_tell_run) (defBody s_Session_tell_run) (defScope s_Session_tell_run) .none kV10 dc10 pm10 an10 cdv10 ct10), osl10⟩) (c10 : PySem.W.codeIn K cdv10 "Session.tell_run" = true) (k10 : PySem.W.keepIn K (.ref f10) = true)
    {f11 : Addr} {oc11 : Value} {od11 an11 : Option Addr} {osl11 : Array (Option Value)} {kV11 dc11 pm11 cdv11 ct11 : Value} (a11 : PySem.W.findIn K (.ref C) "tell_given" = some (some (.ref f11))) (i11 : PySem.W.isFn K (.ref f11) = true) (l11 : K.lookup f11 = some ⟨oc11, od11, .func (PySem.W.fnOf "tell_given" "Session.tell_given" (defArgs s_Session_tell_given) (defBody s_Session_tell_given) (defScope s_Session_tell_given) .none kV11 dc11 pm11 an11 cdv11 ct11), osl11⟩) (c11 : PySem.W.codeIn K cdv11 "Session.tell_given" = true) (k11 : PySem.W.keepIn K (.ref f11) = true)
    : ∃ C, TS' K mg C :=
  ⟨C, ⟨pg, hd, po, sa⟩, nL, nA, PySem.W.mg_of X G aC, init_mk mk kc a0 i0 l0 c0 k0 (fun _ _ _ _ _ _ us hl => match us, hl with | [_], _ => rfl), meth_mk a1 i1 l1 c1 k1 (fun _ _ _ _ _ _ us hl => match us, hl with | [_, _, _], _ => rfl), meth_mk a2 i2 l2 c2 k2 (fun _ _ _ _ _ _ us hl => match us, hl with | [_, _], _ => rfl), meth_mk a3 i3 l3 c3 k3 (fun _ _ _ _ _ _ us hl => match us, hl with | [_], _ => rfl), meth_mk a4 i4 l4 c4 k4 (fun _ _ _ _ _ _ us hl => match us, hl with | [_], _ => rfl), meth_mk a5 i5 l5 c5 k5 (fun _ _ _ _ _ _ us hl => match us, hl with | [_], _ => rfl), meth_mk a6 i6 l6 c6 k6 (fun _ _ _ _ _ _ us hl => match us, hl with | [_], _ => rfl), meth_mk a7 i7 l7 c7 k7 (fun _ _ _ _ _ _ us hl => match us, hl with | [_], _ => rfl), meth_mk a8 i8 l8 c8 k8 (fun _ _ _ _ _ _ us hl => match us, hl with | [_], _ => rfl), meth_mk a9 i9 l9 c9 k9 (fun _ _ _ _ _ _ us hl => match us, hl with | [_], _ => rfl), meth_mk a10 i10 l10 c10 k10 (fun _ _ _ _ _ _ us hl => match us, hl with | [_, _], _ => rfl), meth_mk a11 i11 l11 c11 k11 (fun _ _ _ _ _ _ us hl => match us, hl with | [_], _ => rfl)⟩
end
end LL
/-! P7b -/
open PySem PySem.W PyProof.Rows
set_option maxRecDepth 100000 in
set_option maxHeartbeats 0 in
theorem PySem.Challenge.cw_loopleaps_s01_answers_holds : PySem.Challenge.rw_loopleaps_s01_answers.Holds := by
  w_on; k_headS; (case hw => exact ⟨[.list [.int 2]], by decide +kernel, by decide +kernel⟩)
  k_fillS
  refine L2.walk_specK (r := PySem.Challenge.rw_loopleaps_s01_answers) (k := 10) (CX := L2.CX0) (ps := ["calls"]) (sp := LL.spAns) (by decide +kernel) rfl rfl ⟨rfl, by decide, by decide⟩ (fun w h Y => PySem.W.kIn_of Y) ?F ?S (fun _ _ _ _ z => z)
  case F =>
    intro w mg fa h Y KX G hmg
    have h_AT_MOST : LL.CI mg "AT_MOST" 0 := by
      refine' LL.ci_mk KX G ?a
      (case a => k_is)
    have h_AT_LEAST : LL.CI mg "AT_LEAST" 1 := by
      refine' LL.ci_mk KX G ?a
      (case a => k_is)
    have h_BELOW : LL.CI mg "BELOW" 2 := by
      refine' LL.ci_mk KX G ?a
      (case a => k_is)
    have h_REMAINDER : LL.CI mg "REMAINDER" 3 := by
      refine' LL.ci_mk KX G ?a
      (case a => k_is)
    have h_GIVEN_NUMBER : LL.CI mg "GIVEN_NUMBER" 0 := by
      refine' LL.ci_mk KX G ?a
      (case a => k_is)
    have h_GIVEN_COUNTER : LL.CI mg "GIVEN_COUNTER" 1 := by
      refine' LL.ci_mk KX G ?a
      (case a => k_is)
    have h_FARTHEST : LL.CI mg "FARTHEST" 1000000000000 := by
      refine' LL.ci_mk KX G ?a
      (case a => k_is)
    have h_ENDED : LL.CI mg "ENDED" 0 := by
      refine' LL.ci_mk KX G ?a
      (case a => k_is)
    have h_BEYOND : LL.CI mg "BEYOND" 1 := by
      refine' LL.ci_mk KX G ?a
      (case a => k_is)
    have h_GOES_ON : LL.CI mg "GOES_ON" 2 := by
      refine' LL.ci_mk KX G ?a
      (case a => k_is)
    have h_LONGEST : LL.CI mg "LONGEST" 3 := by
      refine' LL.ci_mk KX G ?a
      (case a => k_is)
    have h_RINGS := LL.isP (fun K mg => ∃ a, LL.CT K mg "RINGS" a [1, 1, 2, 6, 12]) KX G (by
      refine' LL.ct_mk KX G ?a ?l ?z ?v
      (case a => k_is); (case l => k_is); (case z => decide); (case v => exact .cons ⟨_, rfl⟩ (.cons ⟨_, rfl⟩ (.cons ⟨_, rfl⟩ (.cons ⟨_, rfl⟩ (.cons ⟨_, rfl⟩ (.nil)))))))
    have h_REMAINDERS : LL.CI mg "REMAINDERS" 12 := by
      refine' LL.ci_mk KX G ?a
      (case a => k_is)
    have h_OVER : LL.CI mg "OVER" 0 := by
      refine' LL.ci_mk KX G ?a
      (case a => k_is)
    have h_NEVER : LL.CI mg "NEVER" 1 := by
      refine' LL.ci_mk KX G ?a
      (case a => k_is)
    have h_FAR : LL.CI mg "FAR" 2 := by
      refine' LL.ci_mk KX G ?a
      (case a => k_is)
    have h_MANY : LL.CI mg "MANY" 3 := by
      refine' LL.ci_mk KX G ?a
      (case a => k_is)
    have h_MOST_PHASES : LL.CI mg "MOST_PHASES" 8 := by
      refine' LL.ci_mk KX G ?a
      (case a => k_is)
    have h_MOST_BRANCHES : LL.CI mg "MOST_BRANCHES" 3 := by
      refine' LL.ci_mk KX G ?a
      (case a => k_is)
    have h_MOST_TESTS : LL.CI mg "MOST_TESTS" 3 := by
      refine' LL.ci_mk KX G ?a
      (case a => k_is)
    have h_MOST_IN_TESTS : LL.CI mg "MOST_IN_TESTS" 999999 := by
      refine' LL.ci_mk KX G ?a
      (case a => k_is)
    have h_MOST_IN_MOVES : LL.CI mg "MOST_IN_MOVES" 99 := by
      refine' LL.ci_mk KX G ?a
      (case a => k_is)
    have h_MOST_IN_VALUES : LL.CI mg "MOST_IN_VALUES" 1000000 := by
      refine' LL.ci_mk KX G ?a
      (case a => k_is)
    have h_DIVISORS := LL.isP (fun K mg => ∃ a, LL.CT K mg "DIVISORS" a [2, 3, 4, 6]) KX G (by
      refine' LL.ct_mk KX G ?a ?l ?z ?v
      (case a => k_is); (case l => k_is); (case z => decide); (case v => exact .cons ⟨_, rfl⟩ (.cons ⟨_, rfl⟩ (.cons ⟨_, rfl⟩ (.cons ⟨_, rfl⟩ (.nil))))))
    have h_LOOP : LL.CI mg "LOOP" 0 := by
      refine' LL.ci_mk KX G ?a
      (case a => k_is)
    have h_VALUES : LL.CI mg "VALUES" 1 := by
      refine' LL.ci_mk KX G ?a
      (case a => k_is)
    have h_CHOSEN : LL.CI mg "CHOSEN" 2 := by
      refine' LL.ci_mk KX G ?a
      (case a => k_is)
    have h_PATTERN : LL.CI mg "PATTERN" 3 := by
      refine' LL.ci_mk KX G ?a
      (case a => k_is)
    have h_TIMES : LL.CI mg "TIMES" 4 := by
      refine' LL.ci_mk KX G ?a
      (case a => k_is)
    have h_LEAP : LL.CI mg "LEAP" 5 := by
      refine' LL.ci_mk KX G ?a
      (case a => k_is)
    have h_PHASES : LL.CI mg "PHASES" 6 := by
      refine' LL.ci_mk KX G ?a
      (case a => k_is)
    have h_DONE : LL.CI mg "DONE" 7 := by
      refine' LL.ci_mk KX G ?a
      (case a => k_is)
    have h_GO : LL.CI mg "GO" 8 := by
      refine' LL.ci_mk KX G ?a
      (case a => k_is)
    have h_RUN : LL.CI mg "RUN" 9 := by
      refine' LL.ci_mk KX G ?a
      (case a => k_is)
    have h_MOST_COUNTERS : LL.CI mg "MOST_COUNTERS" 4 := by
      refine' LL.ci_mk KX G ?a
      (case a => k_is)
    have h_MOST_ROUNDS : LL.CI mg "MOST_ROUNDS" 2000 := by
      refine' LL.ci_mk KX G ?a
      (case a => k_is)
    have h_FIRST_LOOP := LL.isP (fun K mg => ∃ a, LL.CT K mg "FIRST_LOOP" a [1, 2, 0, 0, -1, 1, 0, 0, 1, 0, 0]) KX G (by
      refine' LL.ct_mk KX G ?a ?l ?z ?v
      (case a => k_is); (case l => k_is); (case z => decide); (case v => exact .cons ⟨_, rfl⟩ (.cons ⟨_, rfl⟩ (.cons ⟨_, rfl⟩ (.cons ⟨_, rfl⟩ (.cons ⟨_, rfl⟩ (.cons ⟨_, rfl⟩ (.cons ⟨_, rfl⟩ (.cons ⟨_, rfl⟩ (.cons ⟨_, rfl⟩ (.cons ⟨_, rfl⟩ (.cons ⟨_, rfl⟩ (.nil)))))))))))))
    have h_NOT_AS_TOLD : LL.CI mg "NOT_AS_TOLD" (-1) := by
      refine' LL.ci_mk KX G ?a
      (case a => k_is)
    have h_WRONG_COUNTERS : LL.CI mg "WRONG_COUNTERS" (-2) := by
      refine' LL.ci_mk KX G ?a
      (case a => k_is)
    have h_WRONG_ROUNDS : LL.CI mg "WRONG_ROUNDS" (-3) := by
      refine' LL.ci_mk KX G ?a
      (case a => k_is)
    have h_NONE_CHOSEN : LL.CI mg "NONE_CHOSEN" (-4) := by
      refine' LL.ci_mk KX G ?a
      (case a => k_is)
    have h_NOT_OVER : LL.CI mg "NOT_OVER" (-5) := by
      refine' LL.ci_mk KX G ?a
      (case a => k_is)
    have h_WOULD_BE_BEYOND : LL.CI mg "WOULD_BE_BEYOND" (-7) := by
      refine' LL.ci_mk KX G ?a
      (case a => k_is)
    have h_len : mg "len" = none := by
      refine' PySem.W.mg_none_of KX G ?a
      (case a => k_is)
    have h_all : mg "all" = none := by
      refine' PySem.W.mg_none_of KX G ?a
      (case a => k_is)
    have h_any : mg "any" = none := by
      refine' PySem.W.mg_none_of KX G ?a
      (case a => k_is)
    have h_abs : mg "abs" = none := by
      refine' PySem.W.mg_none_of KX G ?a
      (case a => k_is)
    have h_enumerate : mg "enumerate" = none := by
      refine' PySem.W.mg_none_of KX G ?a
      (case a => k_is)
    have h_range : mg "range" = none := by
      refine' PySem.W.mg_none_of KX G ?a
      (case a => k_is)
    have h_zip : mg "zip" = none := by
      refine' PySem.W.mg_none_of KX G ?a
      (case a => k_is)
    have h_min : mg "min" = none := by
      refine' PySem.W.mg_none_of KX G ?a
      (case a => k_is)
    have h_max : mg "max" = none := by
      refine' PySem.W.mg_none_of KX G ?a
      (case a => k_is)
    have h_sum : mg "sum" = none := by
      refine' PySem.W.mg_none_of KX G ?a
      (case a => k_is)
    have h_divmod : mg "divmod" = none := by
      refine' PySem.W.mg_none_of KX G ?a
      (case a => k_is)
    have h_list : mg "list" = none := by
      refine' PySem.W.mg_none_of KX G ?a
      (case a => k_is)
    have h_tuple : mg "tuple" = none := by
      refine' PySem.W.mg_none_of KX G ?a
      (case a => k_is)
    have T := LL.isP LL.Txt KX G ⟨h_AT_MOST, h_AT_LEAST, h_BELOW, h_REMAINDER, h_GIVEN_NUMBER, h_GIVEN_COUNTER, h_FARTHEST, h_ENDED, h_BEYOND, h_GOES_ON, h_LONGEST, h_RINGS, h_REMAINDERS, h_OVER, h_NEVER, h_FAR, h_MANY, h_MOST_PHASES, h_MOST_BRANCHES, h_MOST_TESTS, h_MOST_IN_TESTS, h_MOST_IN_MOVES, h_MOST_IN_VALUES, h_DIVISORS, h_LOOP, h_VALUES, h_CHOSEN, h_PATTERN, h_TIMES, h_LEAP, h_PHASES, h_DONE, h_GO, h_RUN, h_MOST_COUNTERS, h_MOST_ROUNDS, h_FIRST_LOOP, h_NOT_AS_TOLD, h_WRONG_COUNTERS, h_WRONG_ROUNDS, h_NONE_CHOSEN, h_NOT_OVER, h_WOULD_BE_BEYOND, h_len, h_all, h_any, h_abs, h_enumerate, h_range, h_zip, h_min, h_max, h_sum, h_divmod, h_list, h_tuple⟩
    have d_room_left := LL.isP (fun K mg => LL.DefAt K mg "room_left" LL.s_room_left LL.p_room_left) KX G (by
      refine' LL.def_mk KX G ?a ?l ?c ?k (fun _ _ _ _ _ _ us hl => match us, hl with | [_, _], _ => rfl)
      (case a => k_is); (case l => k_is); (case c => k_is); (case k => k_is))
    have d_holds := LL.isP (fun K mg => LL.DefAt K mg "holds" LL.s_holds LL.p_holds) KX G (by
      refine' LL.def_mk KX G ?a ?l ?c ?k (fun _ _ _ _ _ _ us hl => match us, hl with | [_, _], _ => rfl)
      (case a => k_is); (case l => k_is); (case c => k_is); (case k => k_is))
    have d_chosen_branch := LL.isP (fun K mg => LL.DefAt K mg "chosen_branch" LL.s_chosen_branch LL.p_chosen_branch) KX G (by
      refine' LL.def_mk KX G ?a ?l ?c ?k (fun _ _ _ _ _ _ us hl => match us, hl with | [_, _], _ => rfl)
      (case a => k_is); (case l => k_is); (case c => k_is); (case k => k_is))
    have d_moved := LL.isP (fun K mg => LL.DefAt K mg "moved" LL.s_moved LL.p_moved) KX G (by
      refine' LL.def_mk KX G ?a ?l ?c ?k (fun _ _ _ _ _ _ us hl => match us, hl with | [_, _], _ => rfl)
      (case a => k_is); (case l => k_is); (case c => k_is); (case k => k_is))
    have d_is_beyond := LL.isP (fun K mg => LL.DefAt K mg "is_beyond" LL.s_is_beyond LL.p_is_beyond) KX G (by
      refine' LL.def_mk KX G ?a ?l ?c ?k (fun _ _ _ _ _ _ us hl => match us, hl with | [_], _ => rfl)
      (case a => k_is); (case l => k_is); (case c => k_is); (case k => k_is))
    have d_rounds_run := LL.isP (fun K mg => LL.DefAt K mg "rounds_run" LL.s_rounds_run LL.p_rounds_run) KX G (by
      refine' LL.def_mk KX G ?a ?l ?c ?k (fun _ _ _ _ _ _ us hl => match us, hl with | [_, _, _], _ => rfl)
      (case a => k_is); (case l => k_is); (case c => k_is); (case k => k_is))
    have d_branches_ahead := LL.isP (fun K mg => LL.DefAt K mg "branches_ahead" LL.s_branches_ahead LL.p_branches_ahead) KX G (by
      refine' LL.def_mk KX G ?a ?l ?c ?k (fun _ _ _ _ _ _ us hl => match us, hl with | [_, _, _], _ => rfl)
      (case a => k_is); (case l => k_is); (case c => k_is); (case k => k_is))
    have d_pattern_at := LL.isP (fun K mg => LL.DefAt K mg "pattern_at" LL.s_pattern_at LL.p_pattern_at) KX G (by
      refine' LL.def_mk KX G ?a ?l ?c ?k (fun _ _ _ _ _ _ us hl => match us, hl with | [_, _], _ => rfl)
      (case a => k_is); (case l => k_is); (case c => k_is); (case k => k_is))
    have d_sooner := LL.isP (fun K mg => LL.DefAt K mg "sooner" LL.s_sooner LL.p_sooner) KX G (by
      refine' LL.def_mk KX G ?a ?l ?c ?k (fun _ _ _ _ _ _ us hl => match us, hl with | [_, _], _ => rfl)
      (case a => k_is); (case l => k_is); (case c => k_is); (case k => k_is))
    have d_span_of_test := LL.isP (fun K mg => LL.DefAt K mg "span_of_test" LL.s_span_of_test LL.p_span_of_test) KX G (by
      refine' LL.def_mk KX G ?a ?l ?c ?k (fun _ _ _ _ _ _ us hl => match us, hl with | [_, _, _], _ => rfl)
      (case a => k_is); (case l => k_is); (case c => k_is); (case k => k_is))
    have d_span_of_branch := LL.isP (fun K mg => LL.DefAt K mg "span_of_branch" LL.s_span_of_branch LL.p_span_of_branch) KX G (by
      refine' LL.def_mk KX G ?a ?l ?c ?k (fun _ _ _ _ _ _ us hl => match us, hl with | [_, _, _], _ => rfl)
      (case a => k_is); (case l => k_is); (case c => k_is); (case k => k_is))
    have d_first_miss := LL.isP (fun K mg => LL.DefAt K mg "first_miss" LL.s_first_miss LL.p_first_miss) KX G (by
      refine' LL.def_mk KX G ?a ?l ?c ?k (fun _ _ _ _ _ _ us hl => match us, hl with | [_, _, _, _], _ => rfl)
      (case a => k_is); (case l => k_is); (case c => k_is); (case k => k_is))
    have d_path_followed := LL.isP (fun K mg => LL.DefAt K mg "path_followed" LL.s_path_followed LL.p_path_followed) KX G (by
      refine' LL.def_mk KX G ?a ?l ?c ?k (fun _ _ _ _ _ _ us hl => match us, hl with | [_, _, _, _], _ => rfl)
      (case a => k_is); (case l => k_is); (case c => k_is); (case k => k_is))
    have d_turn_growths := LL.isP (fun K mg => LL.DefAt K mg "turn_growths" LL.s_turn_growths LL.p_turn_growths) KX G (by
      refine' LL.def_mk KX G ?a ?l ?c ?k (fun _ _ _ _ _ _ us hl => match us, hl with | [_, _, _], _ => rfl)
      (case a => k_is); (case l => k_is); (case c => k_is); (case k => k_is))
    have d_times_done := LL.isP (fun K mg => LL.DefAt K mg "times_done" LL.s_times_done LL.p_times_done) KX G (by
      refine' LL.def_mk KX G ?a ?l ?c ?k (fun _ _ _ _ _ _ us hl => match us, hl with | [_, _, _], _ => rfl)
      (case a => k_is); (case l => k_is); (case c => k_is); (case k => k_is))
    have d_values_followed := LL.isP (fun K mg => LL.DefAt K mg "values_followed" LL.s_values_followed LL.p_values_followed) KX G (by
      refine' LL.def_mk KX G ?a ?l ?c ?k (fun _ _ _ _ _ _ us hl => match us, hl with | [_, _, _, _], _ => rfl)
      (case a => k_is); (case l => k_is); (case c => k_is); (case k => k_is))
    have d_values_behind := LL.isP (fun K mg => LL.DefAt K mg "values_behind" LL.s_values_behind LL.p_values_behind) KX G (by
      refine' LL.def_mk KX G ?a ?l ?c ?k (fun _ _ _ _ _ _ us hl => match us, hl with | [_, _, _, _], _ => rfl)
      (case a => k_is); (case l => k_is); (case c => k_is); (case k => k_is))
    have d_leaps_from := LL.isP (fun K mg => LL.DefAt K mg "leaps_from" LL.s_leaps_from LL.p_leaps_from) KX G (by
      refine' LL.def_mk KX G ?a ?l ?c ?k (fun _ _ _ _ _ _ us hl => match us, hl with | [_, _], _ => rfl)
      (case a => k_is); (case l => k_is); (case c => k_is); (case k => k_is))
    have d_rounds_of := LL.isP (fun K mg => LL.DefAt K mg "rounds_of" LL.s_rounds_of LL.p_rounds_of) KX G (by
      refine' LL.def_mk KX G ?a ?l ?c ?k (fun _ _ _ _ _ _ us hl => match us, hl with | [_], _ => rfl)
      (case a => k_is); (case l => k_is); (case c => k_is); (case k => k_is))
    have d_branch_done := LL.isP (fun K mg => LL.DefAt K mg "branch_done" LL.s_branch_done LL.p_branch_done) KX G (by
      refine' LL.def_mk KX G ?a ?l ?c ?k (fun _ _ _ _ _ _ us hl => match us, hl with | [_, _], _ => rfl)
      (case a => k_is); (case l => k_is); (case c => k_is); (case k => k_is))
    have d_read_test := LL.isP (fun K mg => LL.DefAt K mg "read_test" LL.s_read_test LL.p_read_test) KX G (by
      refine' LL.def_mk KX G ?a ?l ?c ?k (fun _ _ _ _ _ _ us hl => match us, hl with | [_, _], _ => rfl)
      (case a => k_is); (case l => k_is); (case c => k_is); (case k => k_is))
    have d_read_part := LL.isP (fun K mg => LL.DefAt K mg "read_part" LL.s_read_part LL.p_read_part) KX G (by
      refine' LL.def_mk KX G ?a ?l ?c ?k (fun _ _ _ _ _ _ us hl => match us, hl with | [_, _], _ => rfl)
      (case a => k_is); (case l => k_is); (case c => k_is); (case k => k_is))
    have d_read_branch := LL.isP (fun K mg => LL.DefAt K mg "read_branch" LL.s_read_branch LL.p_read_branch) KX G (by
      refine' LL.def_mk KX G ?a ?l ?c ?k (fun _ _ _ _ _ _ us hl => match us, hl with | [_, _], _ => rfl)
      (case a => k_is); (case l => k_is); (case c => k_is); (case k => k_is))
    have d_read_loop := LL.isP (fun K mg => LL.DefAt K mg "read_loop" LL.s_read_loop LL.p_read_loop) KX G (by
      refine' LL.def_mk KX G ?a ?l ?c ?k (fun _ _ _ _ _ _ us hl => match us, hl with | [_, _], _ => rfl)
      (case a => k_is); (case l => k_is); (case c => k_is); (case k => k_is))
    have d_read_values := LL.isP (fun K mg => LL.DefAt K mg "read_values" LL.s_read_values LL.p_read_values) KX G (by
      refine' LL.def_mk KX G ?a ?l ?c ?k (fun _ _ _ _ _ _ us hl => match us, hl with | [_, _], _ => rfl)
      (case a => k_is); (case l => k_is); (case c => k_is); (case k => k_is))
    have d_loop_numbers := LL.isP (fun K mg => LL.DefAt K mg "loop_numbers" LL.s_loop_numbers LL.p_loop_numbers) KX G (by
      refine' LL.def_mk KX G ?a ?l ?c ?k (fun _ _ _ _ _ _ us hl => match us, hl with | [_], _ => rfl)
      (case a => k_is); (case l => k_is); (case c => k_is); (case k => k_is))
    have d_phase_numbers := LL.isP (fun K mg => LL.DefAt K mg "phase_numbers" LL.s_phase_numbers LL.p_phase_numbers) KX G (by
      refine' LL.def_mk KX G ?a ?l ?c ?k (fun _ _ _ _ _ _ us hl => match us, hl with | [_, _], _ => rfl)
      (case a => k_is); (case l => k_is); (case c => k_is); (case k => k_is))
    have d_answer_next := LL.isP (fun K mg => LL.DefAt K mg "answer_next" LL.s_answer_next LL.p_answer_next) KX G (by
      refine' LL.def_mk KX G ?a ?l ?c ?k (fun _ _ _ _ _ _ us hl => match us, hl with | [_, _], _ => rfl)
      (case a => k_is); (case l => k_is); (case c => k_is); (case k => k_is))
    have d_answers := LL.isP (fun K mg => LL.DefAt K mg "answers" LL.s_answers LL.p_answers) KX G (by
      refine' LL.def_mk KX G ?a ?l ?c ?k (fun _ _ _ _ _ _ us hl => match us, hl with | [_], _ => rfl)
      (case a => k_is); (case l => k_is); (case c => k_is); (case k => k_is))
    have D := LL.isP LL.Ds KX G ⟨d_room_left, d_holds, d_chosen_branch, d_moved, d_is_beyond, d_rounds_run, d_branches_ahead, d_pattern_at, d_sooner, d_span_of_test, d_span_of_branch, d_first_miss, d_path_followed, d_turn_growths, d_times_done, d_values_followed, d_values_behind, d_leaps_from, d_rounds_of, d_branch_done, d_read_test, d_read_part, d_read_branch, d_read_loop, d_read_values, d_loop_numbers, d_phase_numbers, d_answer_next, d_answers⟩
    have hR := LL.isP (fun K mg => ∃ C CF, LL.TR K mg C CF) KX G (by
      refine' LL.tr_mk KX G ?aC ?aF ?pg ?hd ?po ?sa ?mk ?kc ?nN ?nP ?xF ?kF ?bF ?tF ?iF ?sF ?a0 ?i0 ?l0 ?c0 ?k0 ?a1 ?i1 ?l1 ?c1 ?k1 ?a2 ?i2 ?l2 ?c2 ?k2 ?a3 ?i3 ?l3 ?c3 ?k3 ?a4 ?i4 ?l4 ?c4 ?k4 ?a5 ?i5 ?l5 ?c5 ?k5
      (case aC => k_is); (case aF => k_is); (case pg => k_is); (case hd => k_is); (case po => k_is); (case sa => k_is); (case mk => k_is); (case kc => k_is); (case nN => k_is); (case nP => k_is)
      (case xF => k_exc); (case kF => k_is); (case bF => k_is); (case tF => k_is); (case iF => k_is); (case sF => first | rfl | k_is)
      (case a0 => k_is); (case i0 => k_is); (case l0 => k_is); (case c0 => k_is); (case k0 => k_is)
      (case a1 => k_is); (case i1 => k_is); (case l1 => k_is); (case c1 => k_is); (case k1 => k_is)
      (case a2 => k_is); (case i2 => k_is); (case l2 => k_is); (case c2 => k_is); (case k2 => k_is)
      (case a3 => k_is); (case i3 => k_is); (case l3 => k_is); (case c3 => k_is); (case k3 => k_is)
      (case a4 => k_is); (case i4 => k_is); (case l4 => k_is); (case c4 => k_is); (case k4 => k_is)
      (case a5 => k_is); (case i5 => k_is); (case l5 => k_is); (case c5 => k_is); (case k5 => k_is))
    have hY := LL.isP (fun K mg => ∃ C, LL.TS' K mg C) KX G (by
      refine' LL.ts_mk KX G ?aC ?pg ?hd ?po ?sa ?mk ?kc ?nL ?nA ?a0 ?i0 ?l0 ?c0 ?k0 ?a1 ?i1 ?l1 ?c1 ?k1 ?a2 ?i2 ?l2 ?c2 ?k2 ?a3 ?i3 ?l3 ?c3 ?k3 ?a4 ?i4 ?l4 ?c4 ?k4 ?a5 ?i5 ?l5 ?c5 ?k5 ?a6 ?i6 ?l6 ?c6 ?k6 ?a7 ?i7 ?l7 ?c7 ?k7 ?a8 ?i8 ?l8 ?c8 ?k8 ?a9 ?i9 ?l9 ?c9 ?k9 ?a10 ?i10 ?l10 ?c10 ?k10 ?a11 ?i11 ?l11 ?c11 ?k11
      (case aC => k_is); (case pg => k_is); (case hd => k_is); (case po => k_is); (case sa => k_is); (case mk => k_is); (case kc => k_is); (case nL => k_is); (case nA => k_is)
      (case a0 => k_is); (case i0 => k_is); (case l0 => k_is); (case c0 => k_is); (case k0 => k_is)
      (case a1 => k_is); (case i1 => k_is); (case l1 => k_is); (case c1 => k_is); (case k1 => k_is)
      (case a2 => k_is); (case i2 => k_is); (case l2 => k_is); (case c2 => k_is); (case k2 => k_is)
      (case a3 => k_is); (case i3 => k_is); (case l3 => k_is); (case c3 => k_is); (case k3 => k_is)
      (case a4 => k_is); (case i4 => k_is); (case l4 => k_is); (case c4 => k_is); (case k4 => k_is)
      (case a5 => k_is); (case i5 => k_is); (case l5 => k_is); (case c5 => k_is); (case k5 => k_is)
      (case a6 => k_is); (case i6 => k_is); (case l6 => k_is); (case c6 => k_is); (case k6 => k_is)
      (case a7 => k_is); (case i7 => k_is); (case l7 => k_is); (case c7 => k_is); (case k7 => k_is)
      (case a8 => k_is); (case i8 => k_is); (case l8 => k_is); (case c8 => k_is); (case k8 => k_is)
      (case a9 => k_is); (case i9 => k_is); (case l9 => k_is); (case c9 => k_is); (case k9 => k_is)
      (case a10 => k_is); (case i10 => k_is); (case l10 => k_is); (case c10 => k_is); (case k10 => k_is)
      (case a11 => k_is); (case i11 => k_is); (case l11 => k_is); (case c11 => k_is); (case k11 => k_is))
    obtain ⟨C, CF, R⟩ := hR
    obtain ⟨S, Y⟩ := hY
    refine' LL.fin_mk KX G hmg ?a ?l ?c ?k D T R Y
    (case a => k_is); (case l => k_is); (case c => k_is); (case k => k_is)
  case S =>
    intro K H xs a hO hwi hask hx
    cases hx with
    | cons h1 h2 =>
      cases h2
      cases h1 with
      | lst hs ha =>
        have e := L2.ints_dw a.1 _ ha
        subst e
        exact ⟨_, a.1, rfl, hs, hask, fun H' p hp => .lst (L2.SqL.of hp) (L2.dw_ints _)⟩
#print axioms PySem.Challenge.cw_loopleaps_s01_answers_holds
