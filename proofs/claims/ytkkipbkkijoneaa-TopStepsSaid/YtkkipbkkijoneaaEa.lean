/- Lists found again by their counts; the room of a yard with no steps. -/
import Derived.Test.YtkkipbkkijoneaaRs
import Derived.Test.YtkkipbkkijoneaaDu
set_option linter.unusedVariables false
set_option linter.unusedSimpArgs false
namespace Go.Proofs.Ytkkipbkkijoneaa
open Go.Sx Go.RowKit Go.Sand

section
variable {σ : Type} {nx : σ → Nat → Option σ} {en : σ → Bool} {steps : Nat}
/-- A list of steps leads from a state to another. -/
def PN (nx : σ → Nat → Option σ) (steps : Nat) : σ → List Int → σ → Prop
  | s, [], s' => s = s'
  | s, i :: l, s' => ∃ k : Nat, i = k ∧ k < steps ∧ ∃ s1, nx s k = some s1 ∧ PN nx steps s1 l s'
theorem flG_sound {F : σ → List Int × Bool} (s : σ) : ∀ r k, (flG nx F s r k).2 = true → ∃ (j : Nat) (s1 : σ), k ≤ j ∧ j < k + r ∧ nx s j = some s1 ∧ (F s1).2 = true ∧ (flG nx F s r k).1 = (j : Int) :: (F s1).1
  | 0, k, h => by cases h
  | r + 1, k, h => by
    revert h
    rw [flG]
    cases hn : nx s k with
    | none =>
      intro h
      obtain ⟨j, s1, h1, h2, h3⟩ := flG_sound s r (k + 1) h
      exact ⟨j, s1, by omega, by omega, h3⟩
    | some s' =>
      simp only
      by_cases h2 : (F s').2 = true
      · rw [if_pos h2]
        exact fun _ => ⟨k, s', Nat.le_refl _, by omega, hn, h2, rfl⟩
      · rw [if_neg h2]
        intro h
        obtain ⟨j, s1, h1, h2, h3⟩ := flG_sound s r (k + 1) h
        exact ⟨j, s1, by omega, by omega, h3⟩
theorem flG_complete {F : σ → List Int × Bool} {s s1 : σ} {j : Nat} (hj : nx s j = some s1) (hF : (F s1).2 = true) : ∀ r k, k ≤ j → j < k + r → (flG nx F s r k).2 = true
  | 0, k, h1, h2 => by omega
  | r + 1, k, h1, h2 => by
    rw [flG]
    by_cases hk : k = j
    · subst hk
      rw [hj]
      simp only
      rw [if_pos hF]
    · have ih := flG_complete hj hF r (k + 1) (by omega) (by omega)
      cases nx s k with
      | none => exact ih
      | some s' =>
        simp only
        by_cases h2 : (F s').2 = true
        · rw [if_pos h2]
        · rw [if_neg h2]; exact ih
theorem fl_sound : ∀ (L : Nat) (s : σ), (fl nx en steps L s).2 = true → ∃ s', PN nx steps s (fl nx en steps L s).1 s' ∧ en s' = true ∧ (fl nx en steps L s).1.length = L
  | 0, s, h => ⟨s, rfl, h, rfl⟩
  | L + 1, s, h => by
    obtain ⟨j, s1, h1, h2, h3, h4, h5⟩ := flG_sound s steps 0 h
    obtain ⟨s', a, b, c⟩ := fl_sound L s1 h4
    show ∃ s', PN nx steps s (flG nx (fl nx en steps L) s steps 0).1 s' ∧ en s' = true ∧ (flG nx (fl nx en steps L) s steps 0).1.length = L + 1
    rw [h5]
    exact ⟨s', ⟨j, rfl, by omega, s1, h3, a⟩, b, by rw [List.length_cons, c]⟩
theorem fl_complete : ∀ (l : List Int) (s s' : σ), PN nx steps s l s' → en s' = true → (fl nx en steps l.length s).2 = true
  | [], s, s', h, he => by
    have h : s = s' := h
    subst h
    exact he
  | i :: l, s, s', ⟨k, hi, hk, s1, hs, hp⟩, he => flG_complete hs (fl_complete l s1 s' hp he) steps 0 (Nat.zero_le _) (by omega)
end
theorem rn_path {ss : List St} : ∀ (l m : List Int) (k : Nat) (cs : List Int), cs.length = ss.length → (∀ j, j < l.length → 0 ≤ l.getD j 0 ∧ l.getD j 0 < ss.length) → (rn ss m l k).2.2 = 0 →
    (∀ i : Nat, i < ss.length → ((l.count (i : Int) : Nat) : Int) ≤ cs.getD i 0) → ∃ s', PN (nxO ss) ss.length (m, cs) l s'
  | [], m, k, cs, _, _, _, _ => ⟨_, rfl⟩
  | i :: l, m, k, cs, hcl, hl, h0, hct => by
    have hi := hl 0 (by simp)
    simp only [List.getD_cons_zero] at hi
    have hd : doI m (stS ss i) = 0 := by
      by_cases hd : doI m (stS ss i) = 0
      · exact hd
      · rw [rn, if_neg hd] at h0; exact absurd h0 hd
    rw [rn, if_pos hd] at h0
    obtain ⟨u, rfl⟩ : ∃ u : Nat, i = u := ⟨i.toNat, by omega⟩
    have hc := hct u (by omega)
    rw [List.count_cons_self] at hc
    have hnx : nxO ss (m, cs) u = some (doN m (ss.getD u default), cs.set u (cs.getD u 0 - 1)) := if_pos ⟨hd, by simp only; omega⟩
    obtain ⟨s', hs'⟩ := rn_path l (doN m (stS ss u)) (k + 1) (cs.set u (cs.getD u 0 - 1)) (by rw [List.length_set]; exact hcl) (fun j hj => by
      have := hl (j + 1) (by rw [List.length_cons]; omega)
      simpa using this) h0 (fun v hv => by
      have h1 := hct v hv
      rw [List.count_cons] at h1
      rw [getD_set (by omega)]
      by_cases e : u = v
      · subst e
        rw [if_pos rfl]
        simp only [beq_self_eq_true, if_true] at h1
        omega
      · rw [if_neg e]
        have e2 : ¬ ((u : Int) == (v : Int)) = true := by simp; omega
        rw [if_neg e2] at h1
        omega)
    exact ⟨s', u, rfl, by omega, _, hnx, hs'⟩
theorem path_rn {ss : List St} : ∀ (l m : List Int) (k : Nat) (cs : List Int) (s' : List Int × List Int), cs.length = ss.length → PN (nxO ss) ss.length (m, cs) l s' → (∀ i : Nat, 0 ≤ cs.getD i 0) →
    rn ss m l k = (s'.1, k + l.length, 0) ∧ (∀ j, j < l.length → 0 ≤ l.getD j 0 ∧ l.getD j 0 < ss.length) ∧ ∀ i : Nat, s'.2.getD i 0 = cs.getD i 0 - ((l.count (i : Int) : Nat) : Int) ∧ 0 ≤ s'.2.getD i 0
  | [], m, k, cs, s', _, h, h0 => by
    have h : (m, cs) = s' := h
    subst h
    exact ⟨rfl, fun j hj => absurd hj (Nat.not_lt_zero _), fun i => ⟨by simp, h0 i⟩⟩
  | _ :: l, m, k, cs, s', hcl, ⟨u, rfl, hu, s1, hs, hp⟩, h0 => by
    unfold nxO at hs
    split at hs
    · rename_i h1
      simp only [Option.some.injEq] at hs
      subst hs
      have h2 := h1.2
      simp only at h2
      have hg : ∀ i : Nat, (cs.set u (cs.getD u 0 - 1)).getD i 0 = if u = i then cs.getD u 0 - 1 else cs.getD i 0 := fun i => getD_set (by omega) _ i
      obtain ⟨a, b, c⟩ := path_rn l _ (k + 1) _ s' (by rw [List.length_set]; exact hcl) hp (fun i => by
        rw [hg]
        have := h0 i
        split <;> omega)
      refine ⟨?_, fun j hj => ?_, fun i => ?_⟩
      · rw [rn, if_pos (show doI m (stS ss (u : Int)) = 0 from h1.1), show stS ss (u : Int) = ss.getD u default from rfl, a, List.length_cons, Nat.add_assoc, Nat.add_comm 1]
      · cases j with
        | zero => simp only [List.getD_cons_zero]; omega
        | succ j => rw [List.getD_cons_succ]; exact b j (by rw [List.length_cons] at hj; omega)
      · have := c i
        rw [hg] at this
        refine ⟨?_, this.2⟩
        rw [this.1, List.count_cons]
        by_cases e : u = i
        · subst e
          simp
          omega
        · rw [if_neg e, if_neg (by simp; omega)]
          rfl
    · cases hs
theorem cnt_sum {S : Nat} : ∀ l : List Int, (∀ j, j < l.length → 0 ≤ l.getD j 0 ∧ l.getD j 0 < S) → sm S (fun i => ((l.count (i : Int) : Nat) : Int)) = l.length
  | [], _ => by
    rw [show (fun i : Nat => ((([] : List Int).count (i : Int) : Nat) : Int)) = fun _ => 0 from rfl, sm_zero]; rfl
  | x :: l, h => by
    have hi := h 0 (by simp)
    simp only [List.getD_cons_zero] at hi
    obtain ⟨u, rfl⟩ : ∃ u : Nat, x = u := ⟨x.toNat, by omega⟩
    have ih := cnt_sum l (fun j hj => by have := h (j + 1) (by rw [List.length_cons]; omega); simpa using this)
    have h2 := sm_pt (f := fun _ => (1 : Int)) 1 u S
    rw [if_pos (by omega)] at h2
    rw [sm_congr (h := fun i => ((l.count (i : Int) : Nat) : Int) + 1 * (if i = u then 1 else 0)) fun i _ => ?_, sm_add, ih, h2, List.length_cons]
    · omega
    · rw [List.count_cons]
      by_cases e : i = u
      · subst e; simp
      · rw [if_neg e, if_neg (by simp; omega)]; simp
theorem sm_zero_all {f : Nat → Int} : ∀ (n : Nat), (∀ i, i < n → 0 ≤ f i) → sm n f = 0 → ∀ i, i < n → f i = 0
  | 0, _, _, i, hi => by omega
  | n + 1, h0, h, i, hi => by
    have h : sm n f + f n = 0 := h
    have h1 := sm_nonneg (f := f) (n := n) fun i hi => h0 i (by omega)
    have h2 := h0 n (by omega)
    by_cases e : i = n
    · subst e; omega
    · exact sm_zero_all n (fun i hi => h0 i (by omega)) (by omega) i (by omega)
theorem list_ok {S : Nat} {l : List Int} (h : l.length ≤ 40) (h2 : ∀ j, j < l.length → 0 ≤ l.getD j 0 ∧ l.getD j 0 < S) : ¬ listI S l ≠ 0 := by
  unfold listI
  rw [if_neg (by omega), if_pos ?_]
  · decide
  · exact all_yes (f := fun x => wiB x 0 (S - 1)) (d := (0 : Int)) fun k hk => decide_eq_true (by have := h2 k hk; omega)
structure Ordered (n : Int) (ss : List St) (xs ls os : List Int) : Prop where
  ok : (runR n ss xs os).2.2 = 0
  end_ : (runR n ss xs os).1 = (runR n ss xs ls).1
theorem ordered {n : Int} {ss : List St} {xs ls : List Int} (h : RunOk n ss xs ls) (h8 : ls.length ≤ 8) :
    ∃ os, ordR n ss xs (cntN ss.length ls) = (os, true, 0) ∧ Ordered n ss xs ls os := by
  have hli := list_at h.li
  have hcl : (cntN ss.length ls).length = ss.length := mk_len _ _
  have hat : ∀ i, i < ss.length → (cntN ss.length ls).getD i 0 = ((ls.count (i : Int) : Nat) : Int) := fun i hi => mk_at _ hi
  have hout : ∀ i, ss.length ≤ i → (cntN ss.length ls).getD i 0 = 0 := fun i hi => by
    rw [List.getD_eq_getElem?_getD, List.getElem?_eq_none (by omega)]; rfl
  have hle : ∀ i : Nat, ls.count (i : Int) ≤ ls.length := fun i => List.count_le_length
  have hn0 : ∀ i : Nat, 0 ≤ (cntN ss.length ls).getD i 0 := fun i => by
    by_cases hi : i < ss.length
    · rw [hat i hi]; omega
    · rw [hout i (by omega)]; decide
  have hsum : smC (cntN ss.length ls) (cntN ss.length ls).length = ls.length := by
    unfold smC
    rw [hcl, sm_congr (fun i hi => hat i hi)]
    exact cnt_sum ls hli.2
  have hnu : numB ss.length 0 40 (cntN ss.length ls) = true := by
    unfold numB
    rw [decide_eq_true (by rw [hcl]), Bool.true_and]
    refine all_yes (f := fun x => wiB x 0 40) (d := (0 : Int)) fun k hk => decide_eq_true ?_
    have := hat k (by omega)
    have := hle k
    omega
  have a1 : ¬ filI n ss [xs] ≠ 0 := by rw [h.vm.fil]; decide
  have e9 := ord_4 a1 hnu hsum h8
  have h0 := h.ok
  rw [h.rn] at h0
  obtain ⟨s1, hp⟩ := rn_path ls xs 0 (cntN ss.length ls) hcl hli.2 h0 (fun i hi => by rw [hat i hi]; exact Int.le_refl _)
  have hc : (flO ss ls.length (xs, cntN ss.length ls)).2 = true := fl_complete ls _ _ hp rfl
  obtain ⟨s2, p2, _, l2⟩ := fl_sound ls.length (xs, cntN ss.length ls) hc
  generalize hos : (flO ss ls.length (xs, cntN ss.length ls)).1 = os at e9
  have hos2 : (fl (nxO ss) (fun _ => true) ss.length ls.length (xs, cntN ss.length ls)).1 = os := hos
  rw [hos2] at p2 l2
  obtain ⟨r1, r2, r3⟩ := path_rn os xs 0 _ s2 hcl p2 hn0
  refine ⟨os, by rw [e9, hc], ?_⟩
  have hlo : ¬ listI ss.length os ≠ 0 := list_ok (by omega) r2
  have hru : runR n ss xs os = (s2.1, 0 + os.length, 0) := by rw [run_3 a1 hlo, r1]
  have hrk2 : RunOk n ss xs os := run_ok (by rw [hru]; exact fun h => h rfl)
  have hz := sm_zero_all (f := fun i => ((ls.count (i : Int) : Nat) : Int) + (-1) * ((os.count (i : Int) : Nat) : Int)) ss.length (fun i hi => by
    have := r3 i
    have := hat i hi
    omega) (by rw [sm_add, sm_mul, cnt_sum ls hli.2, cnt_sum os r2]; omega)
  have hcn : cntN ss.length os = cntN ss.length ls := mk_congr fun i hi => by have := hz i hi; omega
  refine ⟨by rw [hru], ints_ext (by rw [hrk2.len, h.len]) fun q _ => ?_⟩
  rw [hrk2.eq, h.eq, hcn]
theorem SmS.nil : SmS [] := ⟨by simp, fun k => ⟨by simp [List.getD, default, instInhabitedSt.default], by simp [List.getD, default, instInhabitedSt.default]⟩⟩
theorem StsAt.nil (w : World) : StsAt w none [] := fun j hj => absurd hj (Nat.not_lt_zero _)
theorem val30 : validI 3 [] = 0 := by decide


set_option maxRecDepth 100000 in
theorem idxNil_ok (w0 : World) (fv : Value) :
    Calls Try.prog 107 #[.slice none 0 0, fv] w0 (Post (X := Unit) (fun _ => .int .i64 (-1)) (fun _ => True) (fun _ => []) w0) := by
  refine calls Try.func107 rfl (n := 19) rfl (by simp) ?_
  refine TC.seq ?_
  refine TC.region ?_
  refine TL.pure (PV.assign rfl) rfl (by decide) ?_
  refine TL.nil ?_
  refine TQ.thenC ?_
  refine TC.seq ?_
  refine TC.seq ?_
  refine TC.region ?_
  refine TL.pure (PV.move rfl) rfl (by decide) ?_
  refine TL.pure (PV.len rfl Tb.sl_97) rfl (by decide) ?_
  refine TL.pure (PV.move rfl) rfl (by decide) ?_
  refine TL.nil ?_
  refine TQ.thenC ?_
  refine TC.block ?_
  -- live and written in the loop, not told: [4]
  refine TC.loopG [0, 1, 7] (X := Nat) (fun k => k = 0) (fun k => [(8, .int .i64 k)]) (fun k => 0 - k) 0 rfl (by repeat (first | exact True.intro | refine And.intro rfl ?_)) ?_
  intro k hk
  refine TC.seq ?_
  refine TC.region ?_
  refine TL.pure (PV.lss rfl rfl) rfl (by decide) ?_
  refine TL.nil ?_
  refine TQ.thenC ?_
  refine TC.seq ?_
  first | refine TC.condD rfl (fun hlt => ?_) (fun hlt => ?_) | refine TC.cond rfl (fun hlt => ?_) (fun hlt => ?_)
  · skip
    exact absurd hlt (by simp)
  · skip
    refine TC.exit ?_
    refine TQ.thenE ?_
    refine TQ.thenE ?_
    refine TQ.blkS ?_
    refine TQ.thenC ?_
    refine TC.seq ?_
    refine TC.region ?_
    refine TL.pure (PV.assign rfl) rfl (by decide) ?_
    refine TL.nil ?_
    refine TQ.thenC ?_
    refine TC.ret ?_
    refine TQ.retE1 rfl rfl ?_
    exact ⟨(), rfl, trivial, List.nil_sublist _⟩

set_option maxRecDepth 100000 in
set_option maxHeartbeats 1000000 in
theorem rankNil_ok (w0 : World) :
    Calls Try.prog 94 #[.slice none 0 0, .int .i64 3] w0 (Post (X := Unit) (fun _ => .int .i64 0) (fun _ => True) (fun _ => []) w0) := by
  refine calls Try.func94 rfl (n := 95) rfl (by simp) ?_
  refine TC.seq ?_
  refine TC.region ?_
  refine TL.pure (PV.assign rfl) rfl (by decide) ?_
  refine TL.nil ?_
  refine TQ.thenC ?_
  refine TC.seq ?_
  refine TC.region ?_
  refine TL.pure (PV.assign rfl) rfl (by decide) ?_
  refine TL.pure (PV.assign rfl) rfl (by decide) ?_
  refine TL.nil ?_
  refine TQ.thenC ?_
  refine TC.seq ?_
  refine TC.seq ?_
  refine TC.region ?_
  refine TL.pure (PV.move rfl) rfl (by decide) ?_
  refine TL.pure (PV.move rfl) rfl (by decide) ?_
  refine TL.nil ?_
  refine TQ.thenC ?_
  refine TC.block ?_
  -- live and written in the loop, not told: [6]
  refine TC.loopK [0, 4, 14] (X := Nat) (fun k => k ≤ 3) (fun k => [(15, .int .i64 k), (5, .int .i64 0)]) (fun k => []) (fun k => 3 - k) 0 (Nat.zero_le _) (by repeat (first | exact True.intro | refine And.intro rfl ?_)) (List.nil_sublist _) ?_
  intro k hk
  refine TC.seq ?_
  refine TC.region ?_
  refine TL.pure (PV.lss rfl rfl) rfl (by decide) ?_
  refine TL.nil ?_
  refine TQ.thenC ?_
  refine TC.seq ?_
  first | refine TC.condD rfl (fun hlt => ?_) (fun hlt => ?_) | refine TC.cond rfl (fun hlt => ?_) (fun hlt => ?_)
  · skip
    refine TC.skip ?_
    refine TQ.thenC ?_
    refine TC.seq ?_
    refine TC.block ?_
    refine TC.seq ?_
    refine TC.region ?_
    refine TL.pure (PV.move rfl) rfl (by decide) ?_
    refine TL.alloc Tb.zero_3 rfl (by decide) (fun b0 hb0 => ?_)
    refine TL.store rfl rfl Tb.cells_3 rfl (by repeat (first | exact Upd.head _ | apply Upd.tail | apply Upd.appR)) (by first | decide | (simp; done) | (simp; omega) | omega) rfl rfl ?_
    refine TL.nil ?_
    refine TQ.thenC ?_
    refine TC.seq ?_
    refine TC.region ?_
    refine TL.pure (PV.move rfl) rfl (by decide) ?_
    refine TL.pure (PV.move rfl) rfl (by decide) ?_
    refine TL.pure (PV.sliceL (l := 0) rfl rfl Tb.elm_97 rfl (Nat.zero_le _)) rfl (by decide) ?_
    refine TL.pure (PV.makeFuncB (pre := []) (caps := [_]) rfl rfl) rfl (by decide) ?_
    refine TL.call rfl Tb.gofn_107 (fun a w hs => idxNil_ok w _) rfl (by decide) (fun _ _ => ?_)
    refine TL.pure (PV.assign rfl) rfl (by decide) ?_
    refine TL.nil ?_
    refine TQ.thenC ?_
    refine TC.seq ?_
    refine TC.seq ?_
    refine TC.region ?_
    refine TL.pure (PV.move rfl) rfl (by decide) ?_
    refine TL.pure (PV.lss rfl rfl) rfl (by decide) ?_
    refine TL.nil ?_
    refine TQ.thenC ?_
    first | refine TC.condD rfl (fun hno => ?_) (fun hno => ?_) | refine TC.cond rfl (fun hno => ?_) (fun hno => ?_)
    · skip
      refine TC.exit ?_
      refine TQ.thenE ?_
      refine TQ.blkS ?_
      refine TQ.thenC ?_
      refine TC.region ?_
      refine TL.pure (PV.add rfl rfl (by omega)) rfl (by decide) ?_
      refine TL.pure (PV.move rfl) rfl (by decide) ?_
      refine TL.nil ?_
      refine TQ.thenN ?_
      refine TQ.backK (k + 1) (by repeat (first | exact True.intro | refine And.intro rfl ?_)) (by repeat (first | exact True.intro | refine And.intro rfl ?_)) (List.nil_sublist _) (by omega) (by omega)
    · skip
      exact absurd (by decide) hno
  · skip
    refine TC.exit ?_
    refine TQ.thenE ?_
    refine TQ.thenE ?_
    refine TQ.blkS ?_
    refine TQ.thenC ?_
    refine TC.seq ?_
    refine TC.region ?_
    refine TL.pure (PV.move rfl) rfl (by decide) ?_
    refine TL.pure (PV.assign rfl) rfl (by decide) ?_
    refine TL.nil ?_
    refine TQ.thenC ?_
    refine TC.ret ?_
    refine TQ.retE1 rfl rfl ?_
    exact ⟨(), rfl, trivial, List.nil_sublist _⟩

set_option maxRecDepth 100000 in
set_option maxHeartbeats 1000000 in
theorem space3_ok (w0 : World) :
    Calls Try.prog 45 #[.agg #[.int .i64 3, .slice none 0 0]] w0 (Post (X := Unit) (fun _ => .tuple #[.int .i64 3, .int .i64 0]) (fun _ => True) (fun _ => []) w0) := by
  refine calls Try.func45 rfl (n := 33) rfl (by simp) ?_
  refine TC.seq ?_
  refine TC.region ?_
  refine TL.box rfl rfl (by decide) (fun b0 hb0 => ?_)
  refine TL.pure (PV.assign rfl) rfl (by decide) ?_
  refine TL.pure (PV.assign rfl) rfl (by decide) ?_
  refine TL.nil ?_
  refine TQ.thenC ?_
  refine TC.seq ?_
  refine TC.seq ?_
  refine TC.region ?_
  refine TL.pure (PV.loadBox rfl Tb.agg_24 (by repeat (first | exact List.Mem.head _ | refine List.Mem.tail _ ?_ | refine List.mem_append_right _ ?_)) rfl) rfl (by decide) ?_
  refine TL.call rfl Tb.gofn_24 (fun a w hs => (by have h9 := validate_ok w 3 none 0 [] (StsAt.nil w) SmS.nil; rw [val30] at h9; exact h9)) rfl (by decide) (fun _ _ => ?_)
  refine TL.pure (PV.assign rfl) rfl (by decide) ?_
  refine TL.nil ?_
  refine TQ.thenC ?_
  refine TC.seq ?_
  refine TC.region ?_
  refine TL.pure (PV.move rfl) rfl (by decide) ?_
  refine TL.pure (PV.neq rfl rfl) rfl (by decide) ?_
  refine TL.nil ?_
  refine TQ.thenC ?_
  first | refine TC.condD rfl (fun a1 => ?_) (fun a1 => ?_) | refine TC.cond rfl (fun a1 => ?_) (fun a1 => ?_)
  · skip
    exact absurd rfl a1
  · skip
    refine TC.skip ?_
    refine TQ.thenC ?_
    refine TC.seq ?_
    refine TC.region ?_
    refine TL.pure (PV.assign rfl) rfl (by decide) ?_
    refine TL.nil ?_
    refine TQ.thenC ?_
    refine TC.seq ?_
    refine TC.seq ?_
    refine TC.region ?_
    refine TL.pure (PV.fieldAddr rfl Tb.fo_24_1) rfl (by decide) ?_
    refine TL.pure (PV.load rfl Tb.one_22 (by repeat (first | exact List.Mem.head _ | refine List.Mem.tail _ ?_ | refine List.mem_append_right _ ?_)) rfl) rfl (by decide) ?_
    refine TL.pure (PV.len rfl Tb.sl_22) rfl (by decide) ?_
    refine TL.pure (PV.move rfl) rfl (by decide) ?_
    refine TL.nil ?_
    refine TQ.thenC ?_
    refine TC.block ?_
    refine TC.loopG [1, 2, 3, 14, 15] (X := Nat) (fun k => k = 0) (fun k => [(16, .int .i64 k), (5, .slice none 0 0)]) (fun k => 0 - k) 0 rfl (by repeat (first | exact True.intro | refine And.intro rfl ?_)) ?_
    intro k hk
    refine TC.seq ?_
    refine TC.region ?_
    refine TL.pure (PV.lss rfl rfl) rfl (by decide) ?_
    refine TL.nil ?_
    refine TQ.thenC ?_
    refine TC.seq ?_
    first | refine TC.condD rfl (fun hlt => ?_) (fun hlt => ?_) | refine TC.cond rfl (fun hlt => ?_) (fun hlt => ?_)
    · skip
      exact absurd hlt (by simp)
    · skip
      refine TC.exit ?_
      refine TQ.thenE ?_
      refine TQ.thenE ?_
      refine TQ.blkS ?_
      refine TQ.thenC ?_
      refine TC.seq ?_
      refine TC.mixV [true, true, true, true, true, false, true, true, true] [(b0, Obj.cells #[.int .i64 3, .slice none 0 0] 24 (0, 0))] 9 Tb.mixed rfl (by kernel_rfl) (by kernel_rfl) (by kernel_rfl) (by kernel_rfl) (by repeat (first | exact List.Sublist.slnil | exact List.nil_sublist _ | exact List.Sublist.refl _ | refine List.Sublist.cons_cons _ ?_ | refine List.Sublist.cons _ ?_ | refine List.Sublist.trans ?_ (List.sublist_append_right _ _))) ?_
      refine TV.virt 0 rfl rfl (by decide) rfl (by kernel_rfl) (SOK.pure (PV.fieldAddr rfl Tb.fo_24_0) rfl) ?_
      refine TV.virt 1 rfl rfl (by decide) rfl (by kernel_rfl) (SOK.pure (PV.load rfl Tb.one_3 (by repeat (first | exact List.Mem.head _ | refine List.Mem.tail _ ?_ | refine List.mem_append_right _ ?_)) rfl) rfl) ?_
      refine TV.virt 2 rfl rfl (by decide) rfl (by kernel_rfl) (SOK.pure (PV.move rfl) rfl) ?_
      refine TV.virt 3 rfl rfl (by decide) rfl (by kernel_rfl) (SOK.pure (PV.fieldAddr rfl Tb.fo_24_0) rfl) ?_
      refine TV.virt 4 rfl rfl (by decide) rfl (by kernel_rfl) (SOK.pure (PV.load rfl Tb.one_3 (by repeat (first | exact List.Mem.head _ | refine List.Mem.tail _ ?_ | refine List.mem_append_right _ ?_)) rfl) rfl) ?_
      refine TV.step [5] (by kernel_rfl) (by decide) rfl ⟨⟨_, rfl, ?_⟩, trivial⟩
      refine TL.call rfl Tb.gofn_94 (fun a w hs => rankNil_ok w) rfl (by decide) (fun _ _ => ?_)
      refine TL.nil ?_
      refine TV.next (.inl (by repeat (first | exact List.Sublist.slnil | exact List.nil_sublist _ | exact List.Sublist.refl _ | refine List.Sublist.cons_cons _ ?_ | refine List.Sublist.cons _ ?_ | refine List.Sublist.trans ?_ (List.sublist_append_right _ _)))) ?_
      refine TV.virt 6 rfl rfl (by decide) rfl (by kernel_rfl) (SOK.pure (PV.sub rfl rfl (by omega)) rfl) ?_
      refine TV.virt 7 rfl rfl (by decide) rfl (by kernel_rfl) (SOK.pure (PV.assign rfl) rfl) ?_
      refine TV.virt 8 rfl rfl (by decide) rfl (by kernel_rfl) (SOK.pure (PV.assign rfl) rfl) ?_
      refine TV.done (by kernel_rfl) ?_
      refine TQ.thenC ?_
      refine TC.ret ?_
      refine TQ.retE2 rfl rfl rfl ?_
      exact ⟨(), rfl, trivial, List.nil_sublist _⟩

end Go.Proofs.Ytkkipbkkijoneaa
