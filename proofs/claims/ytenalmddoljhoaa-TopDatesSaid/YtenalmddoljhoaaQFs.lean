/- What follows is what no dates can break: plain mathematics. -/
import Derived.Test.YtenalmddoljhoaaQEs
import Derived.Test.YtenalmddoljhoaaVI
set_option linter.unusedVariables false
set_option linter.unusedSimpArgs false
namespace Go.Proofs.Ytenalmddoljhoaa
open Go.Sx Go.RowKit

theorem feas_iff {d : Nat → Int} {rs : List Bd} : Feas d rs ↔ ∀ r ∈ rs, d r.b.toNat ≤ d r.a.toNat + r.m := by
  constructor
  · intro h r hr
    obtain ⟨k, hk, rfl⟩ := rs_idx hr
    exact h k hk
  · intro h j hj
    exact h _ (idx_mem hj)
theorem bounded (f : Nat → Int) : ∀ N : Nat, ∃ M : Int, 0 ≤ M ∧ ∀ v, v < N → -M ≤ f v ∧ f v ≤ M
  | 0 => ⟨0, by omega, fun v hv => by omega⟩
  | N + 1 => by
    obtain ⟨M, h0, h⟩ := bounded f N
    refine ⟨max M (max (f N) (-(f N))), by omega, fun v hv => ?_⟩
    by_cases e : v = N
    · subst e; omega
    · have := h v (by omega); omega
theorem walk_1 {rs : List Bd} {r : Bd} (hr : r ∈ rs) : Walk rs r.a.toNat 1 r.b.toNat r.m := by
  obtain ⟨k, hk, rfl⟩ := rs_idx hr
  have h := Walk.step (rs := rs) (a := (rs.getD k default).a.toNat) k .nil hk rfl
  rw [Int.zero_add] at h
  exact h
/-- Dates that are as late as can be behind one layer. -/
theorem far {n : Int} {rs : List Bd} (hd : dOk n rs = true) {a b : Nat} (ha : a < n.toNat) (hb : b < n.toNat) {m : Int} (h : wK n.toNat rs a b = true → m < wS n.toNat rs a b) : ∃ d, Feas d rs ∧ d a + m < d b := by
  have hv : Valid n rs := (of_decide_eq_true hd).1
  have hp := hv.pts
  have hN := in_of hv
  obtain ⟨d0, hf⟩ := feas_of hd
  obtain ⟨M, hM0, hM⟩ := bounded d0 n.toNat
  obtain ⟨W, hW0, hW⟩ := bounded (fun v => wS n.toNat rs a v) n.toNat
  have hf' : Feas d0 rs := hf
  have hs := self_walk hN hf ha
  refine ⟨fun v => if wK n.toNat rs a v = true then wS n.toNat rs a v else d0 v + (M + W + 10000 + max m 0 + 1), feas_iff.2 fun r hr => ?_, ?_⟩
  · have hok := ok_spec (List.all_eq_true.1 hv.all r hr)
    have h0 := feas_iff.1 hf' r hr
    have hwv : r.b.toNat < n.toNat := by omega
    have hwu : r.a.toNat < n.toNat := by omega
    have b1 := hM _ hwv
    have b2 := hM _ hwu
    have b3 := hW _ hwv
    have b4 := hW _ hwu
    by_cases hu : wK n.toNat rs a r.a.toNat = true
    · obtain ⟨k, _, w1⟩ := walkN_sound hN ha _ _ hu
      obtain ⟨g1, g2⟩ := walkN_min hN hf ha (w1.app (walk_1 hr))
      have g1' : wK n.toNat rs a r.b.toNat = true := g1
      rw [if_pos hu, if_pos g1']
      exact g2
    · rw [if_neg hu]
      by_cases hw : wK n.toNat rs a r.b.toNat = true
      · rw [if_pos hw]; omega
      · rw [if_neg hw]; omega
  · have b1 := hM _ hb
    simp only
    rw [if_pos hs.1, hs.2]
    by_cases hk : wK n.toNat rs a b = true
    · rw [if_pos hk]; have := h hk; omega
    · rw [if_neg hk]; omega
theorem flw_opp {n : Int} {rs : List Bd} (hd : dOk n rs = true) {r : Bd} (hr : okB n r = true) (hv2 : Valid n (rs ++ [⟨r.b, r.a, -r.m - 1⟩])) : dOk n (rs ++ [⟨r.b, r.a, -r.m - 1⟩]) = !flwR n rs r := by
  have hv : Valid n rs := (of_decide_eq_true hd).1
  have hp := hv.pts
  have hok := ok_spec hr
  have hN := in_of hv
  rw [(flwR_plain hd hr).1]
  obtain ⟨g1, g2⟩ := fnd_pl hd (a := r.a) (b := r.b) (by omega) (by omega)
  unfold flwB
  rw [g1, g2]
  by_cases hk : wK n.toNat rs r.a.toNat r.b.toNat = true ∧ wS n.toNat rs r.a.toNat r.b.toNat ≤ r.m
  · rw [if_pos hk.1, hk.1, decide_eq_true hk.2]
    show _ = false
    rw [Bool.eq_false_iff]
    intro h2
    obtain ⟨d, hf⟩ := feas_of h2
    have hf2 : Feas d (rs ++ [⟨r.b, r.a, -r.m - 1⟩]) := hf
    have h3 := feas_iff.1 hf2 ⟨r.b, r.a, -r.m - 1⟩ (by simp)
    obtain ⟨k, _, w1⟩ := walkN_sound hN (a := r.a.toNat) (by omega) _ _ hk.1
    have h4 := w1.feas (d := d) (feas_sub hf2 (fun q hq => List.mem_append_left _ hq))
    have h5 : (walkN n.toNat rs r.a.toNat n.toNat).sm.getD r.b.toNat 0 ≤ r.m := hk.2
    simp only at h3
    omega
  · have e : (wK n.toNat rs r.a.toNat r.b.toNat && decide ((if wK n.toNat rs r.a.toNat r.b.toNat = true then wS n.toNat rs r.a.toNat r.b.toNat else 0) ≤ r.m)) = false := by
      rw [Bool.eq_false_iff]
      intro h
      rw [Bool.and_eq_true, decide_eq_true_eq] at h
      rw [if_pos h.1] at h
      exact hk h
    rw [e]
    obtain ⟨d, h1, h2⟩ := far hd (a := r.a.toNat) (b := r.b.toNat) (by omega) (by omega) (m := r.m) (fun h => by
      by_cases h3 : wS n.toNat rs r.a.toNat r.b.toNat ≤ r.m
      · exact absurd ⟨h, h3⟩ hk
      · omega)
    refine dok_of hv2 (d := d) (feas_iff.2 fun q hq => ?_)
    rcases List.mem_append.1 hq with h | h
    · exact feas_iff.1 h1 q h
    · rw [List.mem_singleton.1 h]
      simp only
      omega
theorem both_opp {n : Int} {rs : List Bd} {r : Bd} (h : flwI n rs r = 0) (hb : bothI n rs n [⟨r.b, r.a, -r.m - 1⟩] = 0) : dOk n (rs ++ [⟨r.b, r.a, -r.m - 1⟩]) = !flwR n rs r := by
  obtain ⟨v1, v2, _, hl⟩ := bothI_is hb
  have hrg := flw_rng h
  have hbd : isBoundB r = true ∧ pofI n rs [] = 0 := by
    unfold flwI at h
    by_cases h1 : layI n rs [r.a, r.b] ≠ 0
    · rw [if_pos h1] at h; exact absurd h h1
    · rw [if_neg h1] at h
      by_cases h2 : isBoundB r = true
      · rw [if_pos h2] at h; exact ⟨h2, h⟩
      · rw [if_neg h2] at h; cases h
  have hp := v1.pts
  have hokr : okB n r = true := by rw [okB_bd (by omega)]; exact hbd.1
  refine flw_opp (pof_dok hbd.2) hokr ?_
  have h3 : (rs ++ [(⟨r.b, r.a, -r.m - 1⟩ : Bd)]).all (okB n) = true := by rw [List.all_append, v1.all, v2.all]; rfl
  unfold Valid validateI
  rw [if_neg (by omega), if_neg (by rw [List.length_append]; simp only [List.length_singleton] at hl ⊢; omega), if_pos h3]
/-- Dates that keep the plain bounds keep all. -/
theorem keep_pl {n : Int} {rs : List Bd} {ds : List Int} (hd : dOk n rs = true) (hc : checkI n rs ds = 0 ∨ checkI n rs ds = 7) : (∀ r ∈ plainB n.toNat rs, KpB ds r) ↔ checkI n rs ds = 0 := by
  have hv : Valid n rs := (of_decide_eq_true hd).1
  have hp := hv.pts
  have hN := in_of hv
  obtain ⟨d0, hf⟩ := feas_of hd
  have h1 := check_vd hc
  have h0 : pofI n rs [] = 0 := by rw [pof_nil hv, if_pos hd]
  constructor
  · intro h
    have h2 : rs.all (keepB ds) = true := List.all_eq_true.2 fun r hr => by
      have hok := ok_spec (List.all_eq_true.1 hv.all r hr)
      obtain ⟨g1, g2⟩ := walkN_min hN hf (a := r.a.toNat) (by omega) (walk_1 hr)
      have h3 := h ⟨r.a, r.b, wS n.toNat rs r.a.toNat r.b.toNat⟩ (by
        rw [plain_pl hd, allP_mem]
        refine ⟨r.a.toNat, r.b.toNat, by omega, by omega, by omega, g1, ?_⟩
        congr 1 <;> omega)
      have h4 : ds.getD r.b.toNat 0 - ds.getD r.a.toNat 0 ≤ wS n.toNat rs r.a.toNat r.b.toNat := h3
      have h5 : wS n.toNat rs r.a.toNat r.b.toNat ≤ r.m := g2
      exact decide_eq_true (by omega)
    unfold checkI
    rw [if_neg (by rw [h1]; decide), if_pos h2]
  · intro h r hr
    have := pof_kp (ls := []) h r
    unfold pofL at this
    rw [if_pos h0] at this
    exact this hr
theorem pl_rng {n : Int} {rs : List Bd} (hd : dOk n rs = true) {j : Nat} (hj : j < (plainB n.toNat rs).length) : (0 ≤ ((plainB n.toNat rs).getD j default).a ∧ ((plainB n.toNat rs).getD j default).a < n) ∧ (0 ≤ ((plainB n.toNat rs).getD j default).b ∧ ((plainB n.toNat rs).getD j default).b < n) := by
  have hv : Valid n rs := (of_decide_eq_true hd).1
  have hp := hv.pts
  have hm := idx_mem hj
  generalize (plainB n.toNat rs).getD j default = q at hm
  rw [plain_pl hd, allP_mem] at hm
  obtain ⟨a, b, h1, h2, _, _, rfl⟩ := hm
  simp only
  omega
def rs2 : List Bd := [⟨0, 1, 7⟩, ⟨1, 0, -7⟩]
theorem rs2_go (b : Nat) : goB (some (b, 2, [])) rs2 := ⟨rfl, by decide, by decide⟩
theorem rs2_fill : Instr.fill (fun i => some (i * 3, 3)) ((Array.range (2 * 3)).map ((Value.agg #[(.int .i64 0), (.int .i64 0), (.int .i64 0)]).cells[· % (Value.agg #[(.int .i64 0), (.int .i64 0), (.int .i64 0)]).cells.size]!)) [(0, Bd.val ⟨0, 1, 7⟩), (1, Bd.val ⟨1, 0, -7⟩)] = some (bdc rs2).toArray := by kernel_rfl
theorem rs2_e : pofI 2 rs2 [0, 1] = 0 := by decide +kernel
theorem rs2_b : fiB 2 rs2 0 1 = true := by decide +kernel
theorem rs2_m : fiM 2 rs2 0 1 = 7 := by decide +kernel
theorem one_go (b : Nat) (x : Bd) : goB (some (b, 1, [])) [x] := ⟨rfl, by simp [bdc], by simp⟩
theorem one_fill (x : Bd) : Instr.fill (fun i => some (i * 3, 3)) ((Array.range (1 * 3)).map ((Value.agg #[(.int .i64 0), (.int .i64 0), (.int .i64 0)]).cells[· % (Value.agg #[(.int .i64 0), (.int .i64 0), (.int .i64 0)]).cells.size]!)) [(0, Bd.val x)] = some (bdc [x]).toArray := by kernel_rfl
end Go.Proofs.Ytenalmddoljhoaa
