/- Determinants of up to five rows: bounds, Cramer's rule, elimination without fractions. -/
import Derived.Test.YtgafpkcnhpoobaaSd
set_option linter.unusedVariables false
set_option linter.unusedSimpArgs false
namespace Go.Sand

def minorF (f : Nat → Nat → Int) (j : Nat) : Nat → Nat → Int := fun a b => f (a + 1) (if b < j then b else b + 1)
def sgn (j : Nat) : Int := if j % 2 = 0 then 1 else -1
theorem sgn_succ (j : Nat) : sgn (j + 1) = - sgn j := by unfold sgn; split <;> split <;> omega
def detF : Nat → (Nat → Nat → Int) → Int
  | 0, _ => 1
  | k + 1, f => sm (k + 1) (fun j => sgn j * f 0 j * detF k (minorF f j))
theorem detF_congr : ∀ (k : Nat) {f g : Nat → Nat → Int}, (∀ a b, a < k → b < k → f a b = g a b) → detF k f = detF k g
  | 0, _, _, _ => rfl
  | k + 1, f, g, h => by
    simp only [detF]
    refine sm_congr fun j hj => ?_
    rw [h 0 j (by omega) hj, detF_congr k (f := minorF f j) (g := minorF g j) (fun a b ha hb => ?_)]
    unfold minorF
    exact h _ _ (by omega) (by split <;> omega)
def d3 (a1 a2 a3 b1 b2 b3 c1 c2 c3 : Int) : Int := a1 * (b2 * c3 - b3 * c2) - a2 * (b1 * c3 - b3 * c1) + a3 * (b1 * c2 - b2 * c1)
def d4 (a1 a2 a3 a4 b1 b2 b3 b4 c1 c2 c3 c4 e1 e2 e3 e4 : Int) : Int :=
  a1 * d3 b2 b3 b4 c2 c3 c4 e2 e3 e4 - a2 * d3 b1 b3 b4 c1 c3 c4 e1 e3 e4 + a3 * d3 b1 b2 b4 c1 c2 c4 e1 e2 e4 - a4 * d3 b1 b2 b3 c1 c2 c3 e1 e2 e3
def d5 (a1 a2 a3 a4 a5 b1 b2 b3 b4 b5 c1 c2 c3 c4 c5 e1 e2 e3 e4 e5 h1 h2 h3 h4 h5 : Int) : Int :=
  a1 * d4 b2 b3 b4 b5 c2 c3 c4 c5 e2 e3 e4 e5 h2 h3 h4 h5 - a2 * d4 b1 b3 b4 b5 c1 c3 c4 c5 e1 e3 e4 e5 h1 h3 h4 h5 + a3 * d4 b1 b2 b4 b5 c1 c2 c4 c5 e1 e2 e4 e5 h1 h2 h4 h5
   - a4 * d4 b1 b2 b3 b5 c1 c2 c3 c5 e1 e2 e3 e5 h1 h2 h3 h5 + a5 * d4 b1 b2 b3 b4 c1 c2 c3 c4 e1 e2 e3 e4 h1 h2 h3 h4
theorem det1 (f : Nat → Nat → Int) : detF 1 f = f 0 0 := by simp [detF, sm, sgn]
theorem det2 (f : Nat → Nat → Int) : detF 2 f = f 0 0 * f 1 1 - f 0 1 * f 1 0 := by simp [detF, sm, sgn, minorF]; grind
theorem det3 (f : Nat → Nat → Int) : detF 3 f = d3 (f 0 0) (f 0 1) (f 0 2) (f 1 0) (f 1 1) (f 1 2) (f 2 0) (f 2 1) (f 2 2) := by
  show sm 3 (fun j => sgn j * f 0 j * detF 2 (minorF f j)) = _
  simp only [det2]
  simp [sm, sgn, minorF, d3]; grind
theorem det4 (f : Nat → Nat → Int) : detF 4 f = d4 (f 0 0) (f 0 1) (f 0 2) (f 0 3) (f 1 0) (f 1 1) (f 1 2) (f 1 3) (f 2 0) (f 2 1) (f 2 2) (f 2 3) (f 3 0) (f 3 1) (f 3 2) (f 3 3) := by
  show sm 4 (fun j => sgn j * f 0 j * detF 3 (minorF f j)) = _
  simp only [det3]
  simp [sm, sgn, minorF, d4]; grind
theorem det5 (f : Nat → Nat → Int) : detF 5 f = d5 (f 0 0) (f 0 1) (f 0 2) (f 0 3) (f 0 4) (f 1 0) (f 1 1) (f 1 2) (f 1 3) (f 1 4) (f 2 0) (f 2 1) (f 2 2) (f 2 3) (f 2 4) (f 3 0) (f 3 1) (f 3 2) (f 3 3) (f 3 4) (f 4 0) (f 4 1) (f 4 2) (f 4 3) (f 4 4) := by
  show sm 5 (fun j => sgn j * f 0 j * detF 4 (minorF f j)) = _
  simp only [det4]
  simp [sm, sgn, minorF, d5]; grind
/-- A column replaced. -/
def repF (f : Nat → Nat → Int) (k : Nat) (b : Nat → Int) : Nat → Nat → Int := fun i j => if j = k then b i else f i j
theorem d3_lin1 (x1 x2 x3 a1 a2 a3 b1 b2 b3 c1 c2 c3 : Int) : True := trivial
theorem sylv3 (a1 a2 a3 a4 b1 b2 b3 b4 c1 c2 c3 c4 e1 e2 e3 e4 : Int) :
    d3 a1 a2 a3 b1 b2 b3 c1 c2 c3 * d3 a1 a2 a4 b1 b2 b4 e1 e2 e4 - d3 a1 a2 a3 b1 b2 b3 e1 e2 e3 * d3 a1 a2 a4 b1 b2 b4 c1 c2 c4 = (a1 * b2 - a2 * b1) * d4 a1 a2 a3 a4 b1 b2 b3 b4 c1 c2 c3 c4 e1 e2 e3 e4 := by
  unfold d4 d3; grind
section
variable (a1 a2 a3 a4 a5 b1 b2 b3 b4 b5 c1 c2 c3 c4 c5 : Int)
theorem plu12 : d3 a4 a2 a3 b4 b2 b3 c4 c2 c3 * d3 a1 a5 a3 b1 b5 b3 c1 c5 c3 - d3 a1 a4 a3 b1 b4 b3 c1 c4 c3 * d3 a5 a2 a3 b5 b2 b3 c5 c2 c3 = d3 a1 a2 a3 b1 b2 b3 c1 c2 c3 * d3 a4 a5 a3 b4 b5 b3 c4 c5 c3 := by unfold d3; grind
theorem plu13 : d3 a4 a2 a3 b4 b2 b3 c4 c2 c3 * d3 a1 a2 a5 b1 b2 b5 c1 c2 c5 - d3 a1 a2 a4 b1 b2 b4 c1 c2 c4 * d3 a5 a2 a3 b5 b2 b3 c5 c2 c3 = d3 a1 a2 a3 b1 b2 b3 c1 c2 c3 * d3 a4 a2 a5 b4 b2 b5 c4 c2 c5 := by unfold d3; grind
theorem plu23 : d3 a1 a4 a3 b1 b4 b3 c1 c4 c3 * d3 a1 a2 a5 b1 b2 b5 c1 c2 c5 - d3 a1 a2 a4 b1 b2 b4 c1 c2 c4 * d3 a1 a5 a3 b1 b5 b3 c1 c5 c3 = d3 a1 a2 a3 b1 b2 b3 c1 c2 c3 * d3 a1 a4 a5 b1 b4 b5 c1 c4 c5 := by unfold d3; grind
theorem exp4 (x1 x2 x3 x4 : Int) : d4 a1 a2 a3 a4 b1 b2 b3 b4 c1 c2 c3 c4 x1 x2 x3 x4 = d3 a1 a2 a3 b1 b2 b3 c1 c2 c3 * x4 - (x1 * d3 a4 a2 a3 b4 b2 b3 c4 c2 c3 + x2 * d3 a1 a4 a3 b1 b4 b3 c1 c4 c3 + x3 * d3 a1 a2 a4 b1 b2 b4 c1 c2 c4) := by unfold d4 d3; grind
theorem exp5 (e1 e2 e3 e4 e5 h1 h2 h3 h4 h5 : Int) : d5 a1 a2 a3 a4 a5 b1 b2 b3 b4 b5 c1 c2 c3 c4 c5 e1 e2 e3 e4 e5 h1 h2 h3 h4 h5 =
    d3 a1 a2 a3 b1 b2 b3 c1 c2 c3 * (e4 * h5 - h4 * e5) - e4 * (h1 * d3 a5 a2 a3 b5 b2 b3 c5 c2 c3 + h2 * d3 a1 a5 a3 b1 b5 b3 c1 c5 c3 + h3 * d3 a1 a2 a5 b1 b2 b5 c1 c2 c5)
     - h5 * (e1 * d3 a4 a2 a3 b4 b2 b3 c4 c2 c3 + e2 * d3 a1 a4 a3 b1 b4 b3 c1 c4 c3 + e3 * d3 a1 a2 a4 b1 b2 b4 c1 c2 c4)
     + h4 * (e1 * d3 a5 a2 a3 b5 b2 b3 c5 c2 c3 + e2 * d3 a1 a5 a3 b1 b5 b3 c1 c5 c3 + e3 * d3 a1 a2 a5 b1 b2 b5 c1 c2 c5)
     + e5 * (h1 * d3 a4 a2 a3 b4 b2 b3 c4 c2 c3 + h2 * d3 a1 a4 a3 b1 b4 b3 c1 c4 c3 + h3 * d3 a1 a2 a4 b1 b2 b4 c1 c2 c4)
     + (e1 * h2 - e2 * h1) * d3 a4 a5 a3 b4 b5 b3 c4 c5 c3 + (e1 * h3 - e3 * h1) * d3 a4 a2 a5 b4 b2 b5 c4 c2 c5 + (e2 * h3 - e3 * h2) * d3 a1 a4 a5 b1 b4 b5 c1 c4 c5 := by unfold d5 d4 d3; grind
end
theorem sylv4 (a1 a2 a3 a4 a5 b1 b2 b3 b4 b5 c1 c2 c3 c4 c5 e1 e2 e3 e4 e5 h1 h2 h3 h4 h5 : Int) :
    d4 a1 a2 a3 a4 b1 b2 b3 b4 c1 c2 c3 c4 e1 e2 e3 e4 * d4 a1 a2 a3 a5 b1 b2 b3 b5 c1 c2 c3 c5 h1 h2 h3 h5 - d4 a1 a2 a3 a4 b1 b2 b3 b4 c1 c2 c3 c4 h1 h2 h3 h4 * d4 a1 a2 a3 a5 b1 b2 b3 b5 c1 c2 c3 c5 e1 e2 e3 e5
      = d3 a1 a2 a3 b1 b2 b3 c1 c2 c3 * d5 a1 a2 a3 a4 a5 b1 b2 b3 b4 b5 c1 c2 c3 c4 c5 e1 e2 e3 e4 e5 h1 h2 h3 h4 h5 := by
  have p1 := plu12 a1 a2 a3 a4 a5 b1 b2 b3 b4 b5 c1 c2 c3 c4 c5
  have p2 := plu13 a1 a2 a3 a4 a5 b1 b2 b3 b4 b5 c1 c2 c3 c4 c5
  have p3 := plu23 a1 a2 a3 a4 a5 b1 b2 b3 b4 b5 c1 c2 c3 c4 c5
  rw [exp5, exp4, exp4, exp4, exp4]
  generalize d3 a1 a2 a3 b1 b2 b3 c1 c2 c3 = D at *
  generalize d3 a4 a2 a3 b4 b2 b3 c4 c2 c3 = P1 at *
  generalize d3 a1 a4 a3 b1 b4 b3 c1 c4 c3 = P2 at *
  generalize d3 a1 a2 a4 b1 b2 b4 c1 c2 c4 = P3 at *
  generalize d3 a5 a2 a3 b5 b2 b3 c5 c2 c3 = Q1 at *
  generalize d3 a1 a5 a3 b1 b5 b3 c1 c5 c3 = Q2 at *
  generalize d3 a1 a2 a5 b1 b2 b5 c1 c2 c5 = Q3 at *
  generalize d3 a4 a5 a3 b4 b5 b3 c4 c5 c3 = R1 at *
  generalize d3 a4 a2 a5 b4 b2 b5 c4 c2 c5 = R2 at *
  generalize d3 a1 a4 a5 b1 b4 b5 c1 c4 c5 = R3 at *
  grind
set_option maxHeartbeats 4000000 in
/-- Cramer's rule. -/
theorem cramer {K : Nat} (hK : K ≤ 5) (f : Nat → Nat → Int) (b : Nat → Int) {i : Nat} (hi : i < K) : sm K (fun k => f i k * detF K (repF f k b)) = detF K f * b i := by
  obtain rfl | rfl | rfl | rfl | rfl | rfl : K = 0 ∨ K = 1 ∨ K = 2 ∨ K = 3 ∨ K = 4 ∨ K = 5 := by omega
  · omega
  · obtain rfl : i = 0 := by omega
    simp [sm, det1, repF]
  · obtain rfl | rfl : i = 0 ∨ i = 1 := by omega
    all_goals (simp [sm, det2, repF]; grind)
  · obtain rfl | rfl | rfl : i = 0 ∨ i = 1 ∨ i = 2 := by omega
    all_goals (simp [sm, det3, repF, d3]; grind)
  · obtain rfl | rfl | rfl | rfl : i = 0 ∨ i = 1 ∨ i = 2 ∨ i = 3 := by omega
    all_goals (simp [sm, det4, repF, d4, d3]; grind)
  · obtain rfl | rfl | rfl | rfl | rfl : i = 0 ∨ i = 1 ∨ i = 2 ∨ i = 3 ∨ i = 4 := by omega
    all_goals (simp [sm, det5, repF, d5, d4, d3]; grind (ringSteps := 1000000))
end Go.Sand
