/- Bounds that follow from the others are left out: plain mathematics. -/
import Derived.Test.YtenalmddoljhoaaQAs
set_option linter.unusedVariables false
set_option linter.unusedSimpArgs false
namespace Go.Proofs.Ytenalmddoljhoaa
open Go.Sx Go.RowKit

theorem valid_sub {n : Int} {l m : List Bd} (hv : Valid n l) (hl : m.length ≤ l.length) (hm : ∀ r ∈ m, r ∈ l) : Valid n m := by
  have h1 := hv.pts
  have h2 := hv.len
  have h3 : m.all (okB n) = true := List.all_eq_true.2 fun r hr => List.all_eq_true.1 hv.all r (hm r hr)
  unfold Valid validateI
  rw [if_neg (by omega), if_neg (by omega), if_pos h3]
def Feas (d : Nat → Int) (rs : List Bd) : Prop := ∀ j, j < rs.length → d (eB rs j) ≤ d (eA rs j) + eM rs j
theorem feas_sub {d : Nat → Int} {l m : List Bd} (h : Feas d l) (hm : ∀ r ∈ m, r ∈ l) : Feas d m := fun j hj => by
  obtain ⟨k, hk, e⟩ := rs_idx (hm _ (idx_mem hj))
  have := h k hk
  unfold eA eB eM at this ⊢
  rwa [e] at this
theorem dok_of {n : Int} {rs : List Bd} (hv : Valid n rs) {d : Nat → Int} (h : Feas d rs) : dOk n rs = true := by
  have h1 := clashW_dOk hv
  have h2 : clashW n.toNat rs = false := any_no fun k hk => by
    have h3 := (self_walk (in_of hv) h hk).2
    have h4 : (walkN n.toNat rs k n.toNat).sm.getD k 0 = 0 := h3
    rw [h4]
    rfl
  rw [h2] at h1
  simpa using h1.symm
theorem dok_sub {n : Int} {l m : List Bd} (hd : dOk n l = true) (hl : m.length ≤ l.length) (hm : ∀ r ∈ m, r ∈ l) : dOk n m = true := by
  obtain ⟨d, hf⟩ := feas_of hd
  exact dok_of (valid_sub (of_decide_eq_true hd).1 hl hm) (feas_sub (d := d) hf hm)
theorem walk_sub {l m : List Bd} (hm : ∀ r ∈ m, r ∈ l) {a k b : Nat} {s : Int} (h : Walk m a k b s) : Walk l a k b s := by
  induction h with
  | nil => exact .nil
  | step j _ hj he ih =>
    obtain ⟨i, hi, e⟩ := rs_idx (hm _ (idx_mem hj))
    have h2 := Walk.step (rs := l) i ih hi (by unfold eA at he ⊢; rw [e]; exact he)
    unfold eB eM at h2 ⊢
    rwa [e] at h2
theorem del_mem {l : List Bd} {i : Nat} : ∀ r ∈ delB l i, r ∈ l := fun r hr => by
  rcases List.mem_append.1 hr with h | h
  · exact List.mem_of_mem_take h
  · exact List.mem_of_mem_drop h
theorem del_has {l : List Bd} {i : Nat} : ∀ r ∈ l, r ∈ delB l i ∨ r = l.getD i default := fun r hr => by
  obtain ⟨j, hj, rfl⟩ := rs_idx hr
  by_cases h1 : j < i
  · refine .inl (List.mem_append_left _ ?_)
    rw [List.mem_take_iff_getElem]
    exact ⟨j, by omega, by simp [List.getD, hj]⟩
  · by_cases h2 : j = i
    · subst h2; exact .inr rfl
    · refine .inl (List.mem_append_right _ ?_)
      rw [List.mem_drop_iff_getElem]
      exact ⟨j - (i + 1), by omega, by simp [List.getD, hj, show i + 1 + (j - (i + 1)) = j by omega]⟩
/-- What follows is walked round. -/
theorem del_walk {n : Int} {l : List Bd} {i : Nat} (hd : dOk n l = true) (hi : i < l.length) (hf : flwB (plainB n.toNat (delB l i)) (l.getD i default) = true) {a k b : Nat} {s : Int} (h : Walk l a k b s) : ∃ k' s', Walk (delB l i) a k' b s' ∧ s' ≤ s := by
  have hv : Valid n l := (of_decide_eq_true hd).1
  have hd2 : dOk n (delB l i) = true := dok_sub hd (by rw [delB_len hi]; omega) del_mem
  have hv2 : Valid n (delB l i) := (of_decide_eq_true hd2).1
  have hat := hv.at hi
  have hp := hv.pts
  obtain ⟨g1, g2⟩ := fnd_pl hd2 (a := (l.getD i default).a) (b := (l.getD i default).b) (by omega) (by omega)
  unfold flwB at hf
  rw [g1, g2, Bool.and_eq_true, decide_eq_true_eq] at hf
  rw [if_pos hf.1] at hf
  obtain ⟨kx, _, hx⟩ := walkN_sound (in_of hv2) (a := (l.getD i default).a.toNat) (by omega) n.toNat _ hf.1
  have hxm : (walkN n.toNat (delB l i) (l.getD i default).a.toNat n.toNat).sm.getD (l.getD i default).b.toNat 0 ≤ (l.getD i default).m := hf.2
  induction h with
  | nil => exact ⟨0, 0, .nil, Int.le_refl _⟩
  | @step k c s j hw hj he ih =>
    obtain ⟨k', s', h1, h2⟩ := ih
    rcases del_has (i := i) _ (idx_mem hj) with h3 | h3
    · obtain ⟨q, hq, e⟩ := rs_idx h3
      have h4 := Walk.step (rs := delB l i) q h1 hq (by unfold eA at he ⊢; rw [e]; exact he)
      unfold eB eM at h4 ⊢
      rw [e] at h4
      exact ⟨_, _, h4, by omega⟩
    · have hc : c = (l.getD i default).a.toNat := by rw [← he]; unfold eA; rw [h3]
      subst hc
      refine ⟨k' + kx, s' + (walkN n.toNat (delB l i) (l.getD i default).a.toNat n.toNat).sm.getD (l.getD i default).b.toNat 0, ?_, ?_⟩
      · have := h1.app hx
        unfold eB
        rwa [h3]
      · unfold eM
        rw [h3]
        omega
theorem all_eq {N : Nat} {l m : List Bd} (hN : N ≤ 8) (h : ∀ a b, a < N → b < N → wK N l a b = wK N m a b ∧ (wK N l a b = true → wS N l a b = wS N m a b)) : allP N l N = allP N m N := by
  refine asc_eq (allP_asc hN N) (allP_asc hN N) fun r => ?_
  rw [allP_mem, allP_mem]
  constructor
  · rintro ⟨a, b, h1, h2, h3, h4, h5⟩
    obtain ⟨e1, e2⟩ := h a b h1 h2
    exact ⟨a, b, h1, h2, h3, e1 ▸ h4, by rw [h5, e2 h4]⟩
  · rintro ⟨a, b, h1, h2, h3, h4, h5⟩
    obtain ⟨e1, e2⟩ := h a b h1 h2
    rw [← e1] at h4
    exact ⟨a, b, h1, h2, h3, h4, by rw [h5, e2 h4]⟩
theorem del_plain {n : Int} {l : List Bd} {i : Nat} (hd : dOk n l = true) (hi : i < l.length) (hf : flwB (plainB n.toNat (delB l i)) (l.getD i default) = true) : plainB n.toNat (delB l i) = plainB n.toNat l := by
  have hv : Valid n l := (of_decide_eq_true hd).1
  have hd2 : dOk n (delB l i) = true := dok_sub hd (by rw [delB_len hi]; omega) del_mem
  have hv2 : Valid n (delB l i) := (of_decide_eq_true hd2).1
  have hp := hv.pts
  obtain ⟨d, hfe⟩ := feas_of hd
  have hfe2 := feas_sub (d := d) hfe (del_mem (l := l) (i := i))
  rw [plain_pl hd, plain_pl hd2]
  refine all_eq (by omega) fun a b ha hb => ?_
  by_cases h1 : wK n.toNat (delB l i) a b = true
  · obtain ⟨k1, _, w1⟩ := walkN_sound (in_of hv2) ha _ _ h1
    obtain ⟨g1, g2⟩ := walkN_min (in_of hv) hfe ha (walk_sub del_mem w1)
    obtain ⟨k2, _, w2⟩ := walkN_sound (in_of hv) ha _ _ g1
    obtain ⟨k3, s3, w3, hs3⟩ := del_walk hd hi hf w2
    obtain ⟨_, g3⟩ := walkN_min (in_of hv2) hfe2 ha w3
    refine ⟨by rw [h1]; exact g1.symm, fun _ => ?_⟩
    unfold wS
    omega
  · by_cases h2 : wK n.toNat l a b = true
    · obtain ⟨k2, _, w2⟩ := walkN_sound (in_of hv) ha _ _ h2
      obtain ⟨k3, s3, w3, hs3⟩ := del_walk hd hi hf w2
      exact absurd (walkN_min (in_of hv2) hfe2 ha w3).1 h1
    · exact ⟨by simp only [Bool.not_eq_true] at h1 h2; rw [h1, h2], fun h => absurd h h1⟩
/-- What is left after j steps from the last bound on. -/
def redK (N : Nat) (rs : List Bd) : Nat → List Bd
  | 0 => rs
  | j + 1 => if flwB (plainB N (delB (redK N rs j) (rs.length - 1 - j))) (rs.getD (rs.length - 1 - j) default) = true then delB (redK N rs j) (rs.length - 1 - j) else redK N rs j
structure RK (n : Int) (rs l : List Bd) (i : Nat) : Prop where
  vd : Valid n l
  dok : dOk n rs = true → dOk n l = true
  pre : ∀ j, j < i → l.getD j default = rs.getD j default
  lo : i ≤ l.length
  hi : l.length ≤ rs.length
  pl : dOk n rs = true → plainB n.toNat l = plainB n.toNat rs
theorem redK_ok {n : Int} {rs : List Bd} (hv : Valid n rs) : ∀ j, j ≤ rs.length → RK n rs (redK n.toNat rs j) (rs.length - j)
  | 0, _ => ⟨hv, id, fun _ _ => rfl, Nat.le_refl _, Nat.le_refl _, fun _ => rfl⟩
  | j + 1, hj => by
    have ih := redK_ok hv j (by omega)
    have hlo := ih.lo
    have hhi := ih.hi
    have hil : rs.length - 1 - j < (redK n.toNat rs j).length := by omega
    unfold redK
    split
    · rename_i hf
      rw [← ih.pre (rs.length - 1 - j) (by omega)] at hf
      have hdl := delB_len hil
      refine ⟨valid_sub ih.vd (by omega) del_mem, fun h => dok_sub (ih.dok h) (by omega) del_mem, fun q hq => ?_, by omega, by omega, fun h => (del_plain (ih.dok h) hil hf).trans (ih.pl h)⟩
      rw [← ih.pre q (by omega)]
      unfold delB
      have : q < (List.take (rs.length - 1 - j) (redK n.toNat rs j)).length := by rw [List.length_take]; omega
      simp only [List.getD]
      rw [List.getElem?_append_left this, List.getElem?_take_of_lt (by omega)]
    · exact ⟨ih.vd, ih.dok, fun q hq => ih.pre q (by omega), by omega, by omega, ih.pl⟩
/-- By the document's own words: what follows from the others. -/
theorem flwR_plain {n : Int} {l : List Bd} {r : Bd} (hd : dOk n l = true) (hr : okB n r = true) : flwR n l r = flwB (plainB n.toNat l) r ∧ flwI n l r = 0 := by
  have hv : validateI n l = 0 := (of_decide_eq_true hd).1
  have hp := Valid.pts hv
  have hs := ok_spec hr
  have hr' := hr
  unfold okB at hr'
  rw [Bool.and_eq_true, Bool.and_eq_true] at hr'
  have e1 : layI n l [r.a, r.b] = 0 := lay_0 (by rw [hv]; decide) (by omega)
  have e2 : pofI n l [] = 0 := by rw [pof_nil hv, if_pos hd]
  have e3 : flwI n l r = 0 := by unfold flwI; rw [if_neg (by rw [e1]; decide), if_pos hr'.2, e2]
  refine ⟨?_, e3⟩
  unfold flwR pofL
  rw [if_pos e3, if_pos e2]
end Go.Proofs.Ytenalmddoljhoaa
