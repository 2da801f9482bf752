/- Which surveys are valid and which points are joined: the other way. -/
import Derived.Test.YtmmgcajegokkoaaI1
set_option linter.unusedVariables false
set_option linter.unusedSimpArgs false
namespace Go.Proofs.Ytmmgcajegokkoaa
open Go.Sx Go.RowKit

abbrev at_ (xs : List Int) (p : Int) : Int := xs.getD p.toNat 0
theorem at_map {f : Int → Int} {xs : List Int} {p : Int} (h : p.toNat < xs.length) : at_ (xs.map f) p = f (at_ xs p) := by simp [at_, List.getD, h]
theorem at_iota {N : Nat} {p : Int} (h : 0 ≤ p ∧ p < N) : at_ (iota N) p = p := by
  have : p.toNat < N := by omega
  simp [at_, iota, List.getD, this]; omega
/-- Labels by a list of readings: what the smallest points keep. -/
structure Lab (N : Nat) (rs : List Rd) (xs : List Int) : Prop where
  len : xs.length = N
  lo : ∀ p : Int, 0 ≤ p → p < N → 0 ≤ at_ xs p ∧ at_ xs p ≤ p
  eq : ∀ r ∈ rs, at_ xs r.fr = at_ xs r.to
  con : ∀ g : Int → Int, (∀ r ∈ rs, g r.fr = g r.to) → ∀ p : Int, 0 ≤ p → p < N → g (at_ xs p) = g p
def RdIn (N : Nat) (rs : List Rd) : Prop := ∀ r ∈ rs, (0 ≤ r.fr ∧ r.fr < N) ∧ (0 ≤ r.to ∧ r.to < N)
theorem Lab.start (N : Nat) : Lab N [] (iota N) := ⟨iota_len N, fun p h1 h2 => by rw [at_iota ⟨h1, h2⟩]; omega, by simp, fun g _ p h1 h2 => by rw [at_iota ⟨h1, h2⟩]⟩
theorem lowJ_or (xs : List Int) (a b : Int) : (lowJ xs a b = at_ xs a ∧ highJ xs a b = at_ xs b) ∨ (lowJ xs a b = at_ xs b ∧ highJ xs a b = at_ xs a) := by
  unfold lowJ highJ at_; omega
theorem lowJ_le (xs : List Int) (a b : Int) : lowJ xs a b ≤ highJ xs a b := by unfold lowJ highJ; omega
theorem Lab.join {N : Nat} {rs : List Rd} {xs : List Int} (h : Lab N rs xs) (r : Rd) (hr : (0 ≤ r.fr ∧ r.fr < N) ∧ (0 ≤ r.to ∧ r.to < N)) (hin : RdIn N rs) : Lab N (rs ++ [r]) (joinL xs r.fr r.to) := by
  have hat : ∀ p : Int, 0 ≤ p → p < N → at_ (joinL xs r.fr r.to) p = joinG xs r.fr r.to (at_ xs p) := fun p h1 h2 => at_map (by rw [h.len]; omega)
  have hor := lowJ_or xs r.fr r.to
  have hle := lowJ_le xs r.fr r.to
  refine ⟨by rw [joinL_len, h.len], fun p h1 h2 => ?_, fun q hq => ?_, fun g hg p h1 h2 => ?_⟩
  · have h3 := h.lo p h1 h2
    have h4 := h.lo _ hr.1.1 hr.1.2
    have h5 := h.lo _ hr.2.1 hr.2.2
    rw [hat p h1 h2, joinG]
    split <;> omega
  · rcases List.mem_append.1 hq with hq | hq
    · have h3 := hin q hq
      rw [hat _ h3.1.1 h3.1.2, hat _ h3.2.1 h3.2.2, h.eq q hq]
    · obtain rfl : q = r := by simpa using hq
      rw [hat _ hr.1.1 hr.1.2, hat _ hr.2.1 hr.2.2]
      unfold joinG
      rcases hor with ⟨e1, e2⟩ | ⟨e1, e2⟩ <;> rw [e2, ← e1] <;> simp <;> intro hh <;> rw [hh] <;> assumption
  · have h3 := h.con g (fun q hq => hg q (List.mem_append_left _ hq)) p h1 h2
    have h4 := h.con g (fun q hq => hg q (List.mem_append_left _ hq)) _ hr.1.1 hr.1.2
    have h5 := h.con g (fun q hq => hg q (List.mem_append_left _ hq)) _ hr.2.1 hr.2.2
    have h6 := hg r (by simp)
    rw [hat p h1 h2, joinG]
    split
    · next hh =>
      rw [hh] at h3
      rcases hor with ⟨e1, e2⟩ | ⟨e1, e2⟩ <;> rw [e1] <;> rw [e2] at h3 <;> omega
    · exact h3
theorem Lab.firsts {N : Nat} : ∀ (rs2 : List Rd) {rs : List Rd} {xs : List Int}, Lab N rs xs → RdIn N (rs ++ rs2) → Lab N (rs ++ rs2) (firstsF xs rs2)
  | [], rs, xs, h, _ => by simpa [firstsF] using h
  | r :: rs2, rs, xs, h, hin => by
    have h1 := h.join r (hin r (by simp)) (fun q hq => hin q (List.mem_append_left _ hq))
    have h2 := Lab.firsts rs2 h1 (by simpa using hin)
    simpa [firstsF] using h2
theorem RdIn.of {n : Int} {rs : List Rd} (hv : Valid n rs) : RdIn n.toNat rs := fun r hr => by
  have := reading_spec (List.all_eq_true.1 hv.all r hr)
  have := hv.pts
  omega
theorem RdIn.take {N : Nat} {rs : List Rd} (h : RdIn N rs) (m : Nat) : RdIn N (rs.take m) := fun r hr => h r (List.mem_of_mem_take hr)
theorem Lab.of {N : Nat} {rs : List Rd} (h : RdIn N rs) : Lab N rs (firstsF (iota N) rs) := by
  simpa using Lab.firsts rs (Lab.start N) (by simpa using h)
/-- Two labellings by the same readings are the same. -/
theorem Lab.unique {N : Nat} {rs : List Rd} {xs ys : List Int} (h : Lab N rs xs) (h' : Lab N rs ys) : xs = ys := by
  apply List.ext_getElem
  · rw [h.len, h'.len]
  · intro i h1 h2
    have hi : (0 : Int) ≤ (i : Int) ∧ (i : Int) < N := by rw [h.len] at h1; omega
    have e1 := h.con (at_ ys) h'.eq i hi.1 hi.2
    have e2 := h'.con (at_ xs) h.eq i hi.1 hi.2
    have l1 := h.lo i hi.1 hi.2
    have l2 := h'.lo i hi.1 hi.2
    have l3 := h.lo (at_ ys i) l2.1 (by omega)
    have l4 := h'.lo (at_ xs i) l1.1 (by omega)
    have : at_ xs i = at_ ys i := by omega
    simpa [at_, List.getD, h1, h2] using this
/-- The labels of the other way, in the midst of it. -/
structure Mid (N : Nat) (rs : List Rd) (xs : List Int) : Prop where
  len : xs.length = N
  lo : ∀ p : Int, 0 ≤ p → p < N → 0 ≤ at_ xs p ∧ at_ xs p ≤ p
  con : ∀ g : Int → Int, (∀ r ∈ rs, g r.fr = g r.to) → ∀ p : Int, 0 ≤ p → p < N → g (at_ xs p) = g p
theorem Mid.start (N : Nat) (rs : List Rd) : Mid N rs (iota N) := ⟨iota_len N, fun p h1 h2 => by rw [at_iota ⟨h1, h2⟩]; omega, fun g _ p h1 h2 => by rw [at_iota ⟨h1, h2⟩]⟩
theorem at_set {xs : List Int} {a : Int} {v : Int} {p : Int} (ha : 0 ≤ a ∧ a < xs.length) (hp : 0 ≤ p ∧ p < xs.length) : at_ (xs.set a.toNat v) p = if p = a then v else at_ xs p := by
  have h1 : p.toNat < xs.length := by omega
  by_cases h : p = a
  · subst h; simp [at_, List.getD, h1]
  · have : a.toNat ≠ p.toNat := by omega
    simp [at_, List.getD, List.getElem?_set, this, h]
def lowR (xs : List Int) (r : Rd) : List Int := (xs.set r.fr.toNat (min (at_ xs r.fr) (at_ xs r.to))).set r.to.toNat (min (at_ xs r.fr) (at_ xs r.to))
theorem lowR_len (xs : List Int) (r : Rd) : (lowR xs r).length = xs.length := by simp [lowR]
theorem lowR_at {xs : List Int} {r : Rd} {p : Int} (hr : (0 ≤ r.fr ∧ r.fr < xs.length) ∧ (0 ≤ r.to ∧ r.to < xs.length)) (hp : 0 ≤ p ∧ p < xs.length) :
    at_ (lowR xs r) p = if p = r.to then min (at_ xs r.fr) (at_ xs r.to) else if p = r.fr then min (at_ xs r.fr) (at_ xs r.to) else at_ xs p := by
  unfold lowR
  rw [at_set (by simpa using hr.2) (by simpa using hp), at_set hr.1 hp]
theorem Mid.low {N : Nat} {rs : List Rd} {xs : List Int} (h : Mid N rs xs) {r : Rd} (hr : (0 ≤ r.fr ∧ r.fr < N) ∧ (0 ≤ r.to ∧ r.to < N)) (hm : r ∈ rs) : Mid N rs (lowR xs r) := by
  have hr' : (0 ≤ r.fr ∧ r.fr < xs.length) ∧ (0 ≤ r.to ∧ r.to < xs.length) := by rw [h.len]; exact hr
  have a1 := h.lo _ hr.1.1 hr.1.2
  have a2 := h.lo _ hr.2.1 hr.2.2
  refine ⟨by rw [lowR_len, h.len], fun p h1 h2 => ?_, fun g hg p h1 h2 => ?_⟩
  · have h3 := h.lo p h1 h2
    rw [lowR_at hr' (by rw [h.len]; exact ⟨h1, h2⟩)]
    split
    · omega
    · split <;> omega
  · have h3 := h.con g hg p h1 h2
    have h4 := h.con g hg _ hr.1.1 hr.1.2
    have h5 := h.con g hg _ hr.2.1 hr.2.2
    have h6 := hg r hm
    rw [lowR_at hr' (by rw [h.len]; exact ⟨h1, h2⟩)]
    have h7 : min (at_ xs r.fr) (at_ xs r.to) = at_ xs r.fr ∨ min (at_ xs r.fr) (at_ xs r.to) = at_ xs r.to := by omega
    split
    · next hh => subst hh; rcases h7 with e | e <;> rw [e] <;> omega
    · split
      · next hh => subst hh; rcases h7 with e | e <;> rw [e] <;> omega
      · exact h3
section
variable {n : Nat} {w0 : World} {E : Env} {G : Heap} {P : Program} {d : Option Nat} {ty : TypeId} {pos : String} {aft : Array Edge} {g : Option (Nat × Bool)}
theorem PV.fieldAddrA {x : Operand} {q : Addr} {k : Nat} {t f : Nat} (hx : evo E x = some (.pointer (some q))) (hf : fieldOff P t f = some k) :
    PV P n w0 E G ⟨d, .fieldAddr t x f, ty, pos, aft, g⟩ (.pointer (some (q.add k))) :=
  fun a w hs => by
    unfold fieldOff at hf
    cases hu : P.underlying t with
    | none => simp [hu] at hf
    | some u =>
      cases u <;> simp only [hu] at hf <;> try (simp at hf; done)
      rename_i fs
      cases hfd : fs[f]? with
      | none => simp [hfd] at hf
      | some fd =>
        simp only [hfd] at hf
        cases hi : P.info? fd.type with
        | none => simp [hi] at hf
        | some i =>
          simp only [hi] at hf
          split at hf
          · cases hf
          · rename_i hne
            cases hf
            simp only [execOp, hs.ev hx]
            simp [Instr.fieldAt, run_underlying hu, hfd, Instr.sureAddr, fieldPlace, sizeOf, typeInfo, hi, hne]
end
def lsum (xs : List Int) : Nat := (xs.map Int.toNat).sum
theorem sum_set : ∀ (l : List Nat) (i v : Nat), i < l.length → (l.set i v).sum + l.getD i 0 = l.sum + v
  | [], _, _, h => by simp at h
  | x :: l, 0, v, _ => by simp [List.getD]; omega
  | x :: l, i + 1, v, h => by
    have := sum_set l i v (by simpa using h)
    simp [List.getD] at this ⊢
    omega
theorem lsum_set {xs : List Int} {i : Nat} {v : Int} (h : i < xs.length) : lsum (xs.set i v) + (xs.getD i 0).toNat = lsum xs + v.toNat := by
  have := sum_set (xs.map Int.toNat) i v.toNat (by simpa using h)
  unfold lsum
  rw [List.map_set]
  simpa [List.getD, h] using this
theorem Mid.less {N : Nat} {rs : List Rd} {xs : List Int} (h : Mid N rs xs) {r : Rd} (hr : (0 ≤ r.fr ∧ r.fr < N) ∧ (0 ≤ r.to ∧ r.to < N)) (hft : r.fr ≠ r.to) (hne : at_ xs r.fr ≠ at_ xs r.to) : lsum (lowR xs r) < lsum xs := by
  have a1 := h.lo _ hr.1.1 hr.1.2
  have a2 := h.lo _ hr.2.1 hr.2.2
  have hl := h.len
  have e1 := lsum_set (xs := xs) (i := r.fr.toNat) (v := min (at_ xs r.fr) (at_ xs r.to)) (by omega)
  have e2 := lsum_set (xs := xs.set r.fr.toNat (min (at_ xs r.fr) (at_ xs r.to))) (i := r.to.toNat) (v := min (at_ xs r.fr) (at_ xs r.to)) (by rw [List.length_set]; omega)
  have e3 : (xs.set r.fr.toNat (min (at_ xs r.fr) (at_ xs r.to))).getD r.to.toNat 0 = at_ xs r.to := by
    have : r.fr.toNat ≠ r.to.toNat := by omega
    simp [at_, List.getD, List.getElem?_set, this]
  rw [e3] at e2
  unfold lowR
  unfold at_ at *
  omega
theorem getD_mem_take {rs : List Rd} {m k : Nat} (hk : k < m) (hm : m ≤ rs.length) : rs.getD k default ∈ rs.take m := by
  have h1 : k < rs.length := by omega
  have h2 : (rs.take m)[k]? = some (rs.getD k default) := by rw [List.getElem?_take, if_pos hk]; simp [List.getD, h1]
  exact List.mem_of_getElem? h2
theorem mid_changed {N m k : Nat} {rs : List Rd} {xs y : List Int} (hin : RdIn N (rs.take m)) (hk : k < m) (hm : m ≤ rs.length) (hM : Mid N (rs.take m) xs) (hle : lsum xs ≤ lsum y)
    (hft : (rs.getD k default).fr ≠ (rs.getD k default).to) (hne : at_ xs (rs.getD k default).fr ≠ at_ xs (rs.getD k default).to) :
    k + 1 ≤ m ∧ Mid N (rs.take m) (lowR xs (rs.getD k default)) ∧ lsum (lowR xs (rs.getD k default)) ≤ lsum y ∧ (true = false → ∀ r ∈ (rs.take m).take (k + 1), at_ (lowR xs (rs.getD k default)) r.fr = at_ (lowR xs (rs.getD k default)) r.to) ∧
      (true = true → lsum (lowR xs (rs.getD k default)) < lsum y) := by
  have h1 := getD_mem_take hk hm
  have h2 := hM.less (hin _ h1) hft hne
  exact ⟨hk, hM.low (hin _ h1) h1, by omega, fun h => (by cases h), fun _ => by omega⟩
theorem mid_kept {N m k : Nat} {b : Bool} {rs : List Rd} {xs y : List Int} (hk : k < m) (hm : m ≤ rs.length)
    (h : k ≤ m ∧ Mid N (rs.take m) xs ∧ lsum xs ≤ lsum y ∧ (b = false → ∀ r ∈ (rs.take m).take k, at_ xs r.fr = at_ xs r.to) ∧ (b = true → lsum xs < lsum y))
    (heq : ¬ at_ xs (rs.getD k default).fr ≠ at_ xs (rs.getD k default).to) :
    k + 1 ≤ m ∧ Mid N (rs.take m) xs ∧ lsum xs ≤ lsum y ∧ (b = false → ∀ r ∈ (rs.take m).take (k + 1), at_ xs r.fr = at_ xs r.to) ∧ (b = true → lsum xs < lsum y) := by
  refine ⟨hk, h.2.1, h.2.2.1, fun hb r hr => ?_, h.2.2.2.2⟩
  rw [List.take_succ_eq_append_getElem (by simp; omega)] at hr
  rcases List.mem_append.1 hr with hr | hr
  · exact h.2.2.2.1 hb r hr
  · have : r = rs.getD k default := by
      have : k < rs.length := by omega
      simpa [List.getD, this] using hr
    rw [this]
    exact Decidable.of_not_not heq


set_option maxRecDepth 100000 in
theorem within_ok (w0 : World) (a lo hi : Int) :
    Calls Try.prog 66 #[.int .i64 a, .int .i64 lo, .int .i64 hi] w0 (Post (X := Unit) (fun _ => .bool (decide (lo ≤ a ∧ a ≤ hi))) (fun _ => True) (fun _ => []) w0) := by
  refine calls Try.func66 rfl (n := 15) rfl (by simp) ?_
  refine TC.seq ?_
  refine TC.region ?_
  refine TL.pure (PV.assign rfl) rfl (by decide) ?_
  refine TL.nil ?_
  refine TQ.thenC ?_
  refine TC.seq ?_
  refine TC.region ?_
  refine TL.pure (PV.move rfl) rfl (by decide) ?_
  refine TL.pure (PV.move rfl) rfl (by decide) ?_
  refine TL.pure (PV.geq rfl rfl) rfl (by decide) ?_
  refine TL.pure (PV.move rfl) rfl (by decide) ?_
  first | refine TL.splitD 10 rfl (fun h0 => ?_) (fun h0 => ?_) | refine TL.split 10 rfl (fun h0 => ?_) (fun h0 => ?_)
  · skip
    refine TL.pure (PV.move rfl) rfl (by decide) ?_
    refine TL.pure (PV.move rfl) rfl (by decide) ?_
    refine TL.pure (PV.leq rfl rfl) rfl (by decide) ?_
    refine TL.pure (PV.pickT rfl rfl) rfl (by decide) ?_
    refine TL.pure (PV.assign rfl) rfl (by decide) ?_
    refine TL.nil ?_
    refine TQ.thenC ?_
    refine TC.ret ?_
    refine TQ.retE1 rfl rfl ?_
    exact ⟨(), by simp [*] <;> omega, trivial, List.nil_sublist _⟩
  · skip
    refine TL.skip rfl (fun k hk => by cases hk; decide) ?_
    refine TL.skip rfl (fun k hk => by cases hk; decide) ?_
    refine TL.skip rfl (fun k hk => by cases hk; decide) ?_
    refine TL.pure (PV.pickF rfl rfl) rfl (by decide) ?_
    refine TL.pure (PV.assign rfl) rfl (by decide) ?_
    refine TL.nil ?_
    refine TQ.thenC ?_
    refine TC.ret ?_
    refine TQ.retE1 rfl rfl ?_
    exact ⟨(), by simp [*] <;> omega, trivial, List.nil_sublist _⟩

set_option maxRecDepth 100000 in
theorem rvalidate_ok (w0 : World) (n : Int) (p : Option Addr) (cap : Nat) (rs : List Rd) (hr : RdsAt w0 p rs) :
    Calls Try.prog 24 #[sv n p rs.length cap] w0 (Post (X := Unit) (fun _ => .int .i64 (validateI n rs)) (fun _ => True) (fun _ => []) w0) := by
  refine calls Try.func24 rfl (n := 60) rfl (by simp) ?_
  refine TC.seq ?_
  refine TC.region ?_
  refine TL.box rfl rfl (by decide) (fun b0 hb0 => ?_)
  refine TL.pure (PV.assign rfl) rfl (by decide) ?_
  refine TL.nil ?_
  refine TQ.thenC ?_
  refine TC.seq ?_
  refine TC.seq ?_
  refine TC.region ?_
  refine TL.pure (PV.fieldAddr rfl Tb.fo_24_0) rfl (by decide) ?_
  refine TL.pure (PV.load rfl Tb.one_3 (by repeat (first | exact List.Mem.head _ | refine List.Mem.tail _ ?_ | refine List.mem_append_right _ ?_)) rfl) rfl (by decide) ?_
  refine TL.call rfl Tb.gofn_66 (fun a w hs => within_ok w _ _ _) rfl (by decide) (fun _ _ => ?_)
  refine TL.pure ((by first | exact PV.notD rfl | exact PV.not rfl)) rfl (by decide) ?_
  refine TL.nil ?_
  refine TQ.thenC ?_
  first | refine TC.condD rfl (fun hn => ?_) (fun hn => ?_) | refine TC.cond rfl (fun hn => ?_) (fun hn => ?_)
  · skip
    refine TC.seq ?_
    refine TC.region ?_
    refine TL.pure (PV.assign rfl) rfl (by decide) ?_
    refine TL.nil ?_
    refine TQ.thenC ?_
    refine TC.ret ?_
    refine TQ.thenR ?_
    refine TQ.retE1 rfl rfl ?_
    exact ⟨(), by rw [validateI, if_pos (by omega)], trivial, List.nil_sublist _⟩
  · skip
    refine TC.skip ?_
    refine TQ.thenC ?_
    refine TC.seq ?_
    refine TC.seq ?_
    refine TC.region ?_
    refine TL.pure (PV.fieldAddr rfl Tb.fo_24_1) rfl (by decide) ?_
    refine TL.pure (PV.load rfl Tb.one_22 (by repeat (first | exact List.Mem.head _ | refine List.Mem.tail _ ?_ | refine List.mem_append_right _ ?_)) rfl) rfl (by decide) ?_
    refine TL.pure (PV.len rfl Tb.sl_22) rfl (by decide) ?_
    refine TL.pure (PV.gtr rfl rfl) rfl (by decide) ?_
    refine TL.nil ?_
    refine TQ.thenC ?_
    first | refine TC.condD rfl (fun hlen => ?_) (fun hlen => ?_) | refine TC.cond rfl (fun hlen => ?_) (fun hlen => ?_)
    · skip
      refine TC.seq ?_
      refine TC.region ?_
      refine TL.pure (PV.assign rfl) rfl (by decide) ?_
      refine TL.nil ?_
      refine TQ.thenC ?_
      refine TC.ret ?_
      refine TQ.thenR ?_
      refine TQ.retE1 rfl rfl ?_
      exact ⟨(), by rw [validateI, if_neg (by omega), if_pos (by omega)], trivial, List.nil_sublist _⟩
    · skip
      refine TC.skip ?_
      refine TQ.thenC ?_
      refine TC.seq ?_
      refine TC.seq ?_
      refine TC.region ?_
      refine TL.pure (PV.assign rfl) rfl (by decide) ?_
      refine TL.nil ?_
      refine TQ.thenC ?_
      refine TC.block ?_
      -- live and written in the loop, not told: [2]
      refine TC.loopG [1] (X := Nat) (fun k => k ≤ rs.length ∧ (rs.take k).all (isReadingB n) = true) (fun k => [(3, .int .i64 k)]) (fun k => rs.length - k) 0 ⟨Nat.zero_le _, by simp⟩ (by repeat (first | exact True.intro | refine And.intro rfl ?_)) ?_
      intro k hk
      refine TC.seq ?_
      refine TC.seq ?_
      refine TC.region ?_
      refine TL.pure (PV.move rfl) rfl (by decide) ?_
      refine TL.pure (PV.fieldAddr rfl Tb.fo_24_1) rfl (by decide) ?_
      refine TL.pure (PV.load rfl Tb.one_22 (by repeat (first | exact List.Mem.head _ | refine List.Mem.tail _ ?_ | refine List.mem_append_right _ ?_)) rfl) rfl (by decide) ?_
      refine TL.pure (PV.len rfl Tb.sl_22) rfl (by decide) ?_
      refine TL.pure (PV.lss rfl rfl) rfl (by decide) ?_
      refine TL.nil ?_
      refine TQ.thenC ?_
      first | refine TC.condD rfl (fun hlt => ?_) (fun hlt => ?_) | refine TC.cond rfl (fun hlt => ?_) (fun hlt => ?_)
      · skip
        refine TC.skip ?_
        refine TQ.thenC ?_
        refine TC.seq ?_
        refine TC.block ?_
        refine TC.seq ?_
        refine TC.region ?_
        obtain ⟨q, hqp, hq⟩ := hr k (by omega)
        refine TL.pure (PV.fieldAddr rfl Tb.fo_24_1) rfl (by decide) ?_
        refine TL.pure (PV.load rfl Tb.one_22 (by repeat (first | exact List.Mem.head _ | refine List.Mem.tail _ ?_ | refine List.mem_append_right _ ?_)) rfl) rfl (by decide) ?_
        refine TL.pure (PV.move rfl) rfl (by decide) ?_
        refine TL.pure (PV.indexA rfl hqp rfl Tb.elm_22 rfl (by omega)) rfl (by decide) ?_
        refine TL.pure (PV.loadAggA rfl Tb.agg_61 rfl hq) rfl (by decide) ?_
        refine TL.alloc Tb.zero_61 rfl (by decide) (fun b1 hb1 => ?_)
        refine TL.storeAgg rfl rfl Tb.cells_61 (by repeat (first | exact Upd.head _ | apply Upd.tail | apply Upd.appR)) rfl rfl rfl rfl rfl ?_
        refine TL.nil ?_
        refine TQ.thenC ?_
        refine TC.seq ?_
        refine TC.region ?_
        refine TL.pure (PV.fieldAddr rfl Tb.fo_61_0) rfl (by decide) ?_
        refine TL.pure (PV.load rfl Tb.one_3 (by repeat (first | exact List.Mem.head _ | refine List.Mem.tail _ ?_ | refine List.mem_append_right _ ?_)) rfl) rfl (by decide) ?_
        refine TL.pure (PV.fieldAddr rfl Tb.fo_24_0) rfl (by decide) ?_
        refine TL.pure (PV.load rfl Tb.one_3 (by repeat (first | exact List.Mem.head _ | refine List.Mem.tail _ ?_ | refine List.mem_append_right _ ?_)) rfl) rfl (by decide) ?_
        refine TL.pure (PV.sub rfl rfl (by omega)) rfl (by decide) ?_
        refine TL.call rfl Tb.gofn_66 (fun a w hs => within_ok w _ _ _) rfl (by decide) (fun _ _ => ?_)
        refine TL.pure ((by first | exact PV.notD rfl | exact PV.not rfl)) rfl (by decide) ?_
        refine TL.pure (PV.move rfl) rfl (by decide) ?_
        first | refine TL.splitD 32 rfl (fun h3 => ?_) (fun h3 => ?_) | refine TL.split 32 rfl (fun h3 => ?_) (fun h3 => ?_)
        · skip
          refine TL.skip rfl (fun k hk => by cases hk; decide) ?_
          refine TL.skip rfl (fun k hk => by cases hk; decide) ?_
          refine TL.skip rfl (fun k hk => by cases hk; decide) ?_
          refine TL.skip rfl (fun k hk => by cases hk; decide) ?_
          refine TL.skip rfl (fun k hk => by cases hk; decide) ?_
          refine TL.skip rfl (fun k hk => by cases hk; decide) ?_
          refine TL.skip rfl (fun k hk => by cases hk; decide) ?_
          refine TL.pure (PV.pickT rfl rfl) rfl (by decide) ?_
          refine TL.pure (PV.move rfl) rfl (by decide) ?_
          refine TL.skip rfl (fun k hk => by cases hk; decide) ?_
          refine TL.skip rfl (fun k hk => by cases hk; decide) ?_
          refine TL.skip rfl (fun k hk => by cases hk; decide) ?_
          refine TL.skip rfl (fun k hk => by cases hk; decide) ?_
          refine TL.skip rfl (fun k hk => by cases hk; decide) ?_
          refine TL.pure (PV.pickT rfl rfl) rfl (by decide) ?_
          refine TL.pure (PV.move rfl) rfl (by decide) ?_
          refine TL.skip rfl (fun k hk => by cases hk; decide) ?_
          refine TL.skip rfl (fun k hk => by cases hk; decide) ?_
          refine TL.skip rfl (fun k hk => by cases hk; decide) ?_
          refine TL.skip rfl (fun k hk => by cases hk; decide) ?_
          refine TL.pure (PV.pickT rfl rfl) rfl (by decide) ?_
          refine TL.pure (PV.move rfl) rfl (by decide) ?_
          refine TL.skip rfl (fun k hk => by cases hk; decide) ?_
          refine TL.skip rfl (fun k hk => by cases hk; decide) ?_
          refine TL.skip rfl (fun k hk => by cases hk; decide) ?_
          refine TL.skip rfl (fun k hk => by cases hk; decide) ?_
          refine TL.pure (PV.pickT rfl rfl) rfl (by decide) ?_
          refine TL.nil ?_
          refine TQ.thenC ?_
          refine TC.condT rfl ?_
          refine TC.seq ?_
          refine TC.region ?_
          refine TL.pure (PV.assign rfl) rfl (by decide) ?_
          refine TL.nil ?_
          refine TQ.thenC ?_
          refine TC.ret ?_
          refine TQ.blkR ?_
          refine TQ.thenR ?_
          refine TQ.thenR ?_
          refine TQ.blkR ?_
          refine TQ.thenR ?_
          refine TQ.retE1 rfl rfl ?_
          refine ⟨(), ?_, trivial, List.nil_sublist _⟩; rw [validateI, if_neg (by omega), if_neg (by omega), if_neg (fun h => by have := reading_spec (all_at h (k := k) (by omega)); omega)]
        · skip
          refine TL.pure (PV.fieldAddr rfl Tb.fo_61_1) rfl (by decide) ?_
          refine TL.pure (PV.load rfl Tb.one_3 (by repeat (first | exact List.Mem.head _ | refine List.Mem.tail _ ?_ | refine List.mem_append_right _ ?_)) rfl) rfl (by decide) ?_
          refine TL.pure (PV.fieldAddr rfl Tb.fo_24_0) rfl (by decide) ?_
          refine TL.pure (PV.load rfl Tb.one_3 (by repeat (first | exact List.Mem.head _ | refine List.Mem.tail _ ?_ | refine List.mem_append_right _ ?_)) rfl) rfl (by decide) ?_
          refine TL.pure (PV.sub rfl rfl (by omega)) rfl (by decide) ?_
          refine TL.call rfl Tb.gofn_66 (fun a w hs => within_ok w _ _ _) rfl (by decide) (fun _ _ => ?_)
          refine TL.pure ((by first | exact PV.notD rfl | exact PV.not rfl)) rfl (by decide) ?_
          refine TL.pure (PV.pickF rfl rfl) rfl (by decide) ?_
          refine TL.pure (PV.move rfl) rfl (by decide) ?_
          first | refine TL.splitD 41 rfl (fun h4 => ?_) (fun h4 => ?_) | refine TL.split 41 rfl (fun h4 => ?_) (fun h4 => ?_)
          · skip
            refine TL.skip rfl (fun k hk => by cases hk; decide) ?_
            refine TL.skip rfl (fun k hk => by cases hk; decide) ?_
            refine TL.skip rfl (fun k hk => by cases hk; decide) ?_
            refine TL.skip rfl (fun k hk => by cases hk; decide) ?_
            refine TL.skip rfl (fun k hk => by cases hk; decide) ?_
            refine TL.pure (PV.pickT rfl rfl) rfl (by decide) ?_
            refine TL.pure (PV.move rfl) rfl (by decide) ?_
            refine TL.skip rfl (fun k hk => by cases hk; decide) ?_
            refine TL.skip rfl (fun k hk => by cases hk; decide) ?_
            refine TL.skip rfl (fun k hk => by cases hk; decide) ?_
            refine TL.skip rfl (fun k hk => by cases hk; decide) ?_
            refine TL.pure (PV.pickT rfl rfl) rfl (by decide) ?_
            refine TL.pure (PV.move rfl) rfl (by decide) ?_
            refine TL.skip rfl (fun k hk => by cases hk; decide) ?_
            refine TL.skip rfl (fun k hk => by cases hk; decide) ?_
            refine TL.skip rfl (fun k hk => by cases hk; decide) ?_
            refine TL.skip rfl (fun k hk => by cases hk; decide) ?_
            refine TL.pure (PV.pickT rfl rfl) rfl (by decide) ?_
            refine TL.nil ?_
            refine TQ.thenC ?_
            refine TC.condT rfl ?_
            refine TC.seq ?_
            refine TC.region ?_
            refine TL.pure (PV.assign rfl) rfl (by decide) ?_
            refine TL.nil ?_
            refine TQ.thenC ?_
            refine TC.ret ?_
            refine TQ.blkR ?_
            refine TQ.thenR ?_
            refine TQ.thenR ?_
            refine TQ.blkR ?_
            refine TQ.thenR ?_
            refine TQ.retE1 rfl rfl ?_
            refine ⟨(), ?_, trivial, List.nil_sublist _⟩; rw [validateI, if_neg (by omega), if_neg (by omega), if_neg (fun h => by have := reading_spec (all_at h (k := k) (by omega)); omega)]
          · skip
            refine TL.pure (PV.fieldAddr rfl Tb.fo_61_0) rfl (by decide) ?_
            refine TL.pure (PV.load rfl Tb.one_3 (by repeat (first | exact List.Mem.head _ | refine List.Mem.tail _ ?_ | refine List.mem_append_right _ ?_)) rfl) rfl (by decide) ?_
            refine TL.pure (PV.fieldAddr rfl Tb.fo_61_1) rfl (by decide) ?_
            refine TL.pure (PV.load rfl Tb.one_3 (by repeat (first | exact List.Mem.head _ | refine List.Mem.tail _ ?_ | refine List.mem_append_right _ ?_)) rfl) rfl (by decide) ?_
            refine TL.pure (PV.eql rfl rfl) rfl (by decide) ?_
            refine TL.pure (PV.pickF rfl rfl) rfl (by decide) ?_
            refine TL.pure (PV.move rfl) rfl (by decide) ?_
            first | refine TL.splitD 48 rfl (fun h5 => ?_) (fun h5 => ?_) | refine TL.split 48 rfl (fun h5 => ?_) (fun h5 => ?_)
            · skip
              refine TL.skip rfl (fun k hk => by cases hk; decide) ?_
              refine TL.skip rfl (fun k hk => by cases hk; decide) ?_
              refine TL.skip rfl (fun k hk => by cases hk; decide) ?_
              refine TL.skip rfl (fun k hk => by cases hk; decide) ?_
              refine TL.pure (PV.pickT rfl rfl) rfl (by decide) ?_
              refine TL.pure (PV.move rfl) rfl (by decide) ?_
              refine TL.skip rfl (fun k hk => by cases hk; decide) ?_
              refine TL.skip rfl (fun k hk => by cases hk; decide) ?_
              refine TL.skip rfl (fun k hk => by cases hk; decide) ?_
              refine TL.skip rfl (fun k hk => by cases hk; decide) ?_
              refine TL.pure (PV.pickT rfl rfl) rfl (by decide) ?_
              refine TL.nil ?_
              refine TQ.thenC ?_
              refine TC.condT rfl ?_
              refine TC.seq ?_
              refine TC.region ?_
              refine TL.pure (PV.assign rfl) rfl (by decide) ?_
              refine TL.nil ?_
              refine TQ.thenC ?_
              refine TC.ret ?_
              refine TQ.blkR ?_
              refine TQ.thenR ?_
              refine TQ.thenR ?_
              refine TQ.blkR ?_
              refine TQ.thenR ?_
              refine TQ.retE1 rfl rfl ?_
              refine ⟨(), ?_, trivial, List.nil_sublist _⟩; rw [validateI, if_neg (by omega), if_neg (by omega), if_neg (fun h => by have := reading_spec (all_at h (k := k) (by omega)); omega)]
            · skip
              refine TL.pure (PV.fieldAddr rfl Tb.fo_61_2) rfl (by decide) ?_
              refine TL.pure (PV.load rfl Tb.one_3 (by repeat (first | exact List.Mem.head _ | refine List.Mem.tail _ ?_ | refine List.mem_append_right _ ?_)) rfl) rfl (by decide) ?_
              refine TL.call rfl Tb.gofn_66 (fun a w hs => within_ok w _ _ _) rfl (by decide) (fun _ _ => ?_)
              refine TL.pure ((by first | exact PV.notD rfl | exact PV.not rfl)) rfl (by decide) ?_
              refine TL.pure (PV.pickF rfl rfl) rfl (by decide) ?_
              refine TL.pure (PV.move rfl) rfl (by decide) ?_
              first | refine TL.splitD 54 rfl (fun h6 => ?_) (fun h6 => ?_) | refine TL.split 54 rfl (fun h6 => ?_) (fun h6 => ?_)
              · skip
                refine TL.skip rfl (fun k hk => by cases hk; decide) ?_
                refine TL.skip rfl (fun k hk => by cases hk; decide) ?_
                refine TL.skip rfl (fun k hk => by cases hk; decide) ?_
                refine TL.skip rfl (fun k hk => by cases hk; decide) ?_
                refine TL.pure (PV.pickT rfl rfl) rfl (by decide) ?_
                refine TL.nil ?_
                refine TQ.thenC ?_
                refine TC.condT rfl ?_
                refine TC.seq ?_
                refine TC.region ?_
                refine TL.pure (PV.assign rfl) rfl (by decide) ?_
                refine TL.nil ?_
                refine TQ.thenC ?_
                refine TC.ret ?_
                refine TQ.blkR ?_
                refine TQ.thenR ?_
                refine TQ.thenR ?_
                refine TQ.blkR ?_
                refine TQ.thenR ?_
                refine TQ.retE1 rfl rfl ?_
                refine ⟨(), ?_, trivial, List.nil_sublist _⟩; rw [validateI, if_neg (by omega), if_neg (by omega), if_neg (fun h => by have := reading_spec (all_at h (k := k) (by omega)); omega)]
              · skip
                refine TL.pure (PV.fieldAddr rfl Tb.fo_61_3) rfl (by decide) ?_
                refine TL.pure (PV.load rfl Tb.one_3 (by repeat (first | exact List.Mem.head _ | refine List.Mem.tail _ ?_ | refine List.mem_append_right _ ?_)) rfl) rfl (by decide) ?_
                refine TL.call rfl Tb.gofn_66 (fun a w hs => within_ok w _ _ _) rfl (by decide) (fun _ _ => ?_)
                refine TL.pure ((by first | exact PV.notD rfl | exact PV.not rfl)) rfl (by decide) ?_
                refine TL.pure (PV.pickF rfl rfl) rfl (by decide) ?_
                refine TL.nil ?_
                refine TQ.thenC ?_
                first | refine TC.condD rfl (fun hok => ?_) (fun hok => ?_) | refine TC.cond rfl (fun hok => ?_) (fun hok => ?_)
                · skip
                  refine TC.seq ?_
                  refine TC.region ?_
                  refine TL.pure (PV.assign rfl) rfl (by decide) ?_
                  refine TL.nil ?_
                  refine TQ.thenC ?_
                  refine TC.ret ?_
                  refine TQ.blkR ?_
                  refine TQ.thenR ?_
                  refine TQ.thenR ?_
                  refine TQ.blkR ?_
                  refine TQ.thenR ?_
                  refine TQ.retE1 rfl rfl ?_
                  refine ⟨(), ?_, trivial, List.nil_sublist _⟩; rw [validateI, if_neg (by omega), if_neg (by omega), if_neg (fun h => by have := reading_spec (all_at h (k := k) (by omega)); omega)]
                · skip
                  refine TC.skip ?_
                  refine TQ.blkN ?_
                  refine TQ.thenC ?_
                  have hall : isReadingB n (rs.getD k default) = true := by simp only [isReadingB, isPointB, isWithinB, Bool.and_eq_true, decide_eq_true_eq]; omega
                  refine TC.region ?_
                  refine TL.pure (PV.move rfl) rfl (by decide) ?_
                  refine TL.pure (PV.add rfl rfl (by omega)) rfl (by decide) ?_
                  refine TL.pure (PV.assign rfl) rfl (by decide) ?_
                  refine TL.nil ?_
                  refine TQ.thenN ?_
                  refine TQ.backK (k + 1) (by repeat (first | exact True.intro | refine And.intro rfl ?_)) (by repeat (first | exact True.intro | refine And.intro rfl ?_)) (by repeat (first | exact List.Sublist.slnil | exact List.nil_sublist _ | exact List.Sublist.refl _ | refine List.Sublist.cons_cons _ ?_ | refine List.Sublist.cons _ ?_ | refine List.Sublist.trans ?_ (List.sublist_append_right _ _))) ⟨by omega, by rw [List.take_succ_eq_append_getElem (by omega), List.all_append, hk.2]; simpa [List.getD, show k < rs.length by omega] using hall⟩ (by omega)
      · skip
        refine TC.exit ?_
        refine TQ.thenE ?_
        refine TQ.thenE ?_
        refine TQ.blkS ?_
        refine TQ.thenC ?_
        refine TC.seq ?_
        refine TC.region ?_
        refine TL.pure (PV.assign rfl) rfl (by decide) ?_
        refine TL.nil ?_
        refine TQ.thenC ?_
        refine TC.ret ?_
        refine TQ.retE1 rfl rfl ?_
        exact ⟨(), by rw [validateI, if_neg (by omega), if_neg (by omega), if_pos (by rw [← hk.2, List.take_of_length_le (by omega)])], trivial, List.nil_sublist _⟩

set_option maxRecDepth 100000 in
set_option maxHeartbeats 2000000 in
theorem roots_ok (w0 : World) (n : Int) (p : Option Addr) (cap : Nat) (rs : List Rd) (hr : RdsAt w0 p rs) (hv : Valid n rs) (m : Nat) (hm : m ≤ rs.length) :
    Calls Try.prog 94 #[sv n p rs.length cap, .int .i64 m] w0 (Post (X := Nat) (fun b => .slice (some ⟨b, 0, none⟩) n.toNat n.toNat) (fun _ => True) (fun b => [arrI b (firstsL n (rs.take m))]) w0) := by
  have hp := hv.pts
  have hl := hv.len
  obtain ⟨N, rfl⟩ : ∃ N : Nat, n = N := ⟨n.toNat, by omega⟩
  have hin := (RdIn.of hv).take m
  refine calls Try.func94 rfl (n := 70) rfl (by simp) ?_
  refine TC.seq ?_
  refine TC.region ?_
  refine TL.box rfl rfl (by decide) (fun b0 hb0 => ?_)
  refine TL.pure (PV.assign rfl) rfl (by decide) ?_
  refine TL.nil ?_
  refine TQ.thenC ?_
  refine TC.seq ?_
  refine TC.region ?_
  refine TL.pure (PV.fieldAddr rfl Tb.fo_24_0) rfl (by decide) ?_
  refine TL.pure (PV.load rfl Tb.one_3 (by repeat (first | exact List.Mem.head _ | refine List.Mem.tail _ ?_ | refine List.mem_append_right _ ?_)) rfl) rfl (by decide) ?_
  refine TL.makeI rfl rfl Tb.sl_31 Tb.zi_3 rfl (by omega) (by omega) rfl (by decide) (fun b1 hb1 => ?_)
  refine TL.pure (PV.assign rfl) rfl (by decide) ?_
  refine TL.nil ?_
  refine TQ.thenC ?_
  refine TC.seq ?_
  refine TC.seq ?_
  refine TC.region ?_
  refine TL.pure (PV.assign rfl) rfl (by decide) ?_
  refine TL.nil ?_
  refine TQ.thenC ?_
  refine TC.block ?_
  refine TC.loopK [1, 2, 4, 5] (X := Nat × List Int) (fun x => x.1 ≤ N ∧ x.2 = iotaZ x.1 N) (fun x => [(6, .int .i64 x.1)]) (fun x => [arrI b1 x.2, (b0, .cells #[.int .i64 N, .slice p rs.length cap] 24 (0, 0))]) (fun x => N - x.1) (0, List.replicate N 0) ⟨Nat.zero_le _, (iotaZ_zero N).symm⟩ (by repeat (first | exact True.intro | refine And.intro rfl ?_)) (by repeat (first | exact List.Sublist.slnil | exact List.nil_sublist _ | exact List.Sublist.refl _ | refine List.Sublist.cons_cons _ ?_ | refine List.Sublist.cons _ ?_ | refine List.Sublist.trans ?_ (List.sublist_append_right _ _))) ?_
  intro x hx
  refine TC.seq ?_
  refine TC.seq ?_
  refine TC.region ?_
  refine TL.pure (PV.move rfl) rfl (by decide) ?_
  refine TL.pure (PV.fieldAddr rfl Tb.fo_24_0) rfl (by decide) ?_
  refine TL.pure (PV.load rfl Tb.one_3 (by repeat (first | exact List.Mem.head _ | refine List.Mem.tail _ ?_ | refine List.mem_append_right _ ?_)) rfl) rfl (by decide) ?_
  refine TL.pure (PV.lss rfl rfl) rfl (by decide) ?_
  refine TL.nil ?_
  refine TQ.thenC ?_
  first | refine TC.condD rfl (fun hlt0 => ?_) (fun hlt0 => ?_) | refine TC.cond rfl (fun hlt0 => ?_) (fun hlt0 => ?_)
  · skip
    refine TC.skip ?_
    refine TQ.thenC ?_
    refine TC.seq ?_
    refine TC.block ?_
    refine TC.region ?_
    refine TL.pure (PV.move rfl) rfl (by decide) ?_
    refine TL.pure (PV.move rfl) rfl (by decide) ?_
    refine TL.pure (PV.move rfl) rfl (by decide) ?_
    refine TL.pure (PV.index1 rfl rfl Tb.elm_31 rfl (by omega)) rfl (by decide) ?_
    refine TL.storeI rfl rfl Tb.cells_3 (by repeat (first | exact Upd.head _ | apply Upd.tail | apply Upd.appR)) (by rw [hx.2, iotaZ_len]; omega) rfl rfl ?_
    refine TL.nil ?_
    refine TQ.blkN ?_
    refine TQ.thenC ?_
    refine TC.region ?_
    refine TL.pure (PV.move rfl) rfl (by decide) ?_
    refine TL.pure (PV.add rfl rfl (by omega)) rfl (by decide) ?_
    refine TL.pure (PV.assign rfl) rfl (by decide) ?_
    refine TL.nil ?_
    refine TQ.thenN ?_
    refine TQ.backK (x.1 + 1, _) (by repeat (first | exact True.intro | refine And.intro rfl ?_)) (by repeat (first | exact True.intro | refine And.intro rfl ?_)) (by repeat (first | exact List.Sublist.slnil | exact List.nil_sublist _ | exact List.Sublist.refl _ | refine List.Sublist.cons_cons _ ?_ | refine List.Sublist.cons _ ?_ | refine List.Sublist.trans ?_ (List.sublist_append_right _ _))) ⟨Int.ofNat_lt.1 hlt0, by rw [hx.2]; exact iotaZ_set (Int.ofNat_lt.1 hlt0)⟩ (by simp only; omega)
  · skip
    refine TC.exit ?_
    refine TQ.thenE ?_
    refine TQ.thenE ?_
    refine TQ.blkS ?_
    refine TQ.thenC ?_
    refine TC.seq ?_
    refine TC.seq ?_
    refine TC.region ?_
    refine TL.pure (PV.assign rfl) rfl (by decide) ?_
    refine TL.nil ?_
    refine TQ.thenC ?_
    refine TC.block ?_
    refine TC.loopK [1, 2, 4, 5] (X := Bool × List Int) (fun y => Mid N (rs.take m) y.2 ∧ (y.1 = false → ∀ r ∈ rs.take m, at_ y.2 r.fr = at_ y.2 r.to)) (fun y => [(7, .bool y.1)]) (fun y => [arrI b1 y.2, (b0, .cells #[.int .i64 N, .slice p rs.length cap] 24 (0, 0))]) (fun y => 2 * lsum y.2 + (if y.1 then 1 else 0)) (true, x.2) ⟨by rw [hx.2, show x.1 = N by omega, iotaZ_all]; exact Mid.start N _, fun h => by cases h⟩ (by repeat (first | exact True.intro | refine And.intro rfl ?_)) (by repeat (first | exact List.Sublist.slnil | exact List.nil_sublist _ | exact List.Sublist.refl _ | refine List.Sublist.cons_cons _ ?_ | refine List.Sublist.cons _ ?_ | refine List.Sublist.trans ?_ (List.sublist_append_right _ _))) ?_
    intro y hy
    refine TC.seq ?_
    refine TC.seq ?_
    refine TC.region ?_
    refine TL.pure (PV.move rfl) rfl (by decide) ?_
    refine TL.nil ?_
    refine TQ.thenC ?_
    first | refine TC.condD rfl (fun hag => ?_) (fun hag => ?_) | refine TC.cond rfl (fun hag => ?_) (fun hag => ?_)
    · skip
      refine TC.skip ?_
      refine TQ.thenC ?_
      refine TC.block ?_
      refine TC.seq ?_
      refine TC.region ?_
      refine TL.pure (PV.assign rfl) rfl (by decide) ?_
      refine TL.nil ?_
      refine TQ.thenC ?_
      refine TC.seq ?_
      refine TC.region ?_
      refine TL.pure (PV.assign rfl) rfl (by decide) ?_
      refine TL.nil ?_
      refine TQ.thenC ?_
      refine TC.block ?_
      refine TC.loopK [1, 2, 4, 5] (X := Nat × Bool × List Int) (fun x => x.1 ≤ m ∧ Mid N (rs.take m) x.2.2 ∧ lsum x.2.2 ≤ lsum y.2 ∧ (x.2.1 = false → ∀ r ∈ (rs.take m).take x.1, at_ x.2.2 r.fr = at_ x.2.2 r.to) ∧ (x.2.1 = true → lsum x.2.2 < lsum y.2)) (fun x => [(8, .int .i64 x.1), (7, .bool x.2.1)]) (fun x => [arrI b1 x.2.2, (b0, .cells #[.int .i64 N, .slice p rs.length cap] 24 (0, 0))]) (fun x => m - x.1) (0, false, y.2) ⟨Nat.zero_le _, hy.1, Nat.le_refl _, fun _ r hr => by simp at hr, fun h => by cases h⟩ (by repeat (first | exact True.intro | refine And.intro rfl ?_)) (by repeat (first | exact List.Sublist.slnil | exact List.nil_sublist _ | exact List.Sublist.refl _ | refine List.Sublist.cons_cons _ ?_ | refine List.Sublist.cons _ ?_ | refine List.Sublist.trans ?_ (List.sublist_append_right _ _))) ?_
      intro x hx
      refine TC.seq ?_
      refine TC.seq ?_
      refine TC.region ?_
      refine TL.pure (PV.move rfl) rfl (by decide) ?_
      refine TL.pure (PV.move rfl) rfl (by decide) ?_
      refine TL.pure (PV.lss rfl rfl) rfl (by decide) ?_
      refine TL.nil ?_
      refine TQ.thenC ?_
      first | refine TC.condD rfl (fun hlt => ?_) (fun hlt => ?_) | refine TC.cond rfl (fun hlt => ?_) (fun hlt => ?_)
      · skip
        refine TC.skip ?_
        refine TQ.thenC ?_
        refine TC.seq ?_
        refine TC.block ?_
        refine TC.seq ?_
        obtain ⟨q, hqp, hq⟩ := hr x.1 (by omega)
        have hq0 := hq 0 _ rfl
        have hq1 := hq 1 _ rfl
        have hv1 := hv.at (k := x.1) (by omega)
        have hxl := hx.2.1.len
        refine TC.any Tb.mixed rfl rfl ?_
        refine TA.op (OpOK.pure (PV.fieldAddr rfl Tb.fo_24_1) rfl (by decide)) (by decide) ?_
        refine TA.op (OpOK.pure (PV.load rfl Tb.one_22 (by repeat (first | exact List.Mem.head _ | refine List.Mem.tail _ ?_ | refine List.mem_append_right _ ?_)) rfl) rfl (by decide)) (by decide) ?_
        refine TA.op (OpOK.pure (PV.move rfl) rfl (by decide)) (by decide) ?_
        refine TA.op (OpOK.pure (PV.indexA rfl hqp rfl Tb.elm_22 rfl (by omega)) rfl (by decide)) (by decide) ?_
        refine TA.op (OpOK.pure (PV.fieldAddrA rfl Tb.fo_61_0) rfl (by decide)) (by decide) ?_
        refine TA.op (OpOK.pure (PV.loadOld rfl Tb.one_3 hq0) rfl (by decide)) (by decide) ?_
        refine TA.op (OpOK.pure (PV.fieldAddr rfl Tb.fo_24_1) rfl (by decide)) (by decide) ?_
        refine TA.op (OpOK.pure (PV.load rfl Tb.one_22 (by repeat (first | exact List.Mem.head _ | refine List.Mem.tail _ ?_ | refine List.mem_append_right _ ?_)) rfl) rfl (by decide)) (by decide) ?_
        refine TA.op (OpOK.pure (PV.move rfl) rfl (by decide)) (by decide) ?_
        refine TA.op (OpOK.pure (PV.indexA rfl hqp rfl Tb.elm_22 rfl (by omega)) rfl (by decide)) (by decide) ?_
        refine TA.op (OpOK.pure (PV.fieldAddrA rfl Tb.fo_61_1) rfl (by decide)) (by decide) ?_
        refine TA.op (OpOK.pure (PV.loadOld rfl Tb.one_3 hq1) rfl (by decide)) (by decide) ?_
        refine TA.op (OpOK.pure (PV.assign rfl) rfl (by decide)) (by decide) ?_
        refine TA.op (OpOK.pure (PV.assign rfl) rfl (by decide)) (by decide) ?_
        show TQ _ _ _ _ _
        refine TQ.thenC ?_
        refine TC.seq ?_
        refine TC.any Tb.mixed rfl rfl ?_
        refine TA.op (OpOK.pure (PV.move rfl) rfl (by decide)) (by decide) ?_
        refine TA.op (OpOK.pure (PV.move rfl) rfl (by decide)) (by decide) ?_
        refine TA.op (OpOK.pure (PV.index1 rfl rfl Tb.elm_31 (Int.toNat_of_nonneg (by omega)).symm (by omega)) rfl (by decide)) (by decide) ?_
        refine TA.op (OpOK.pure (PV.loadI rfl Tb.one_3 (by repeat (first | exact List.Mem.head _ | refine List.Mem.tail _ ?_ | refine List.mem_append_right _ ?_)) (by omega)) rfl (by decide)) (by decide) ?_
        refine TA.op (OpOK.pure (PV.move rfl) rfl (by decide)) (by decide) ?_
        refine TA.op (OpOK.pure (PV.move rfl) rfl (by decide)) (by decide) ?_
        refine TA.op (OpOK.pure (PV.index1 rfl rfl Tb.elm_31 (Int.toNat_of_nonneg (by omega)).symm (by omega)) rfl (by decide)) (by decide) ?_
        refine TA.op (OpOK.pure (PV.loadI rfl Tb.one_3 (by repeat (first | exact List.Mem.head _ | refine List.Mem.tail _ ?_ | refine List.mem_append_right _ ?_)) (by omega)) rfl (by decide)) (by decide) ?_
        refine TA.op (OpOK.pure (PV.neq rfl rfl) rfl (by decide)) (by decide) ?_
        show TQ _ _ _ _ _
        refine TQ.thenC ?_
        first | refine TC.condD rfl (fun hne => ?_) (fun hne => ?_) | refine TC.cond rfl (fun hne => ?_) (fun hne => ?_)
        · skip
          refine TC.seq ?_
          refine TC.any Tb.mixed rfl rfl ?_
          refine TA.op (OpOK.pure (PV.move rfl) rfl (by decide)) (by decide) ?_
          refine TA.op (OpOK.pure (PV.move rfl) rfl (by decide)) (by decide) ?_
          refine TA.op (OpOK.pure (PV.index1 rfl rfl Tb.elm_31 (Int.toNat_of_nonneg (by omega)).symm (by omega)) rfl (by decide)) (by decide) ?_
          refine TA.op (OpOK.pure (PV.loadI rfl Tb.one_3 (by repeat (first | exact List.Mem.head _ | refine List.Mem.tail _ ?_ | refine List.mem_append_right _ ?_)) (by omega)) rfl (by decide)) (by decide) ?_
          refine TA.op (OpOK.pure (PV.move rfl) rfl (by decide)) (by decide) ?_
          refine TA.op (OpOK.pure (PV.move rfl) rfl (by decide)) (by decide) ?_
          refine TA.op (OpOK.pure (PV.index1 rfl rfl Tb.elm_31 (Int.toNat_of_nonneg (by omega)).symm (by omega)) rfl (by decide)) (by decide) ?_
          refine TA.op (OpOK.pure (PV.loadI rfl Tb.one_3 (by repeat (first | exact List.Mem.head _ | refine List.Mem.tail _ ?_ | refine List.mem_append_right _ ?_)) (by omega)) rfl (by decide)) (by decide) ?_
          refine TA.op (OpOK.pure (PV.min rfl rfl Tb.int_3) rfl (by decide)) (by decide) ?_
          refine TA.op (OpOK.pure (PV.assign rfl) rfl (by decide)) (by decide) ?_
          show TQ _ _ _ _ _
          refine TQ.thenC ?_
          refine TC.seq ?_
          refine TC.region ?_
          refine TL.pure (PV.move rfl) rfl (by decide) ?_
          refine TL.pure (PV.move rfl) rfl (by decide) ?_
          refine TL.pure (PV.move rfl) rfl (by decide) ?_
          refine TL.pure (PV.move rfl) rfl (by decide) ?_
          refine TL.pure (PV.move rfl) rfl (by decide) ?_
          refine TL.pure (PV.move rfl) rfl (by decide) ?_
          refine TL.pure (PV.index1 rfl rfl Tb.elm_31 (Int.toNat_of_nonneg (by omega)).symm (by omega)) rfl (by decide) ?_
          refine TL.storeI rfl rfl Tb.cells_3 (by repeat (first | exact Upd.head _ | apply Upd.tail | apply Upd.appR)) (by omega) rfl rfl ?_
          refine TL.pure (PV.index1 rfl rfl Tb.elm_31 (Int.toNat_of_nonneg (by omega)).symm (by omega)) rfl (by decide) ?_
          refine TL.storeI rfl rfl Tb.cells_3 (by repeat (first | exact Upd.head _ | apply Upd.tail | apply Upd.appR)) (by rw [List.length_set]; omega) rfl rfl ?_
          refine TL.nil ?_
          refine TQ.thenC ?_
          refine TC.region ?_
          refine TL.pure (PV.assign rfl) rfl (by decide) ?_
          refine TL.nil ?_
          refine TQ.blkN ?_
          refine TQ.thenC ?_
          refine TC.region ?_
          refine TL.pure (PV.move rfl) rfl (by decide) ?_
          refine TL.pure (PV.add rfl rfl (by omega)) rfl (by decide) ?_
          refine TL.pure (PV.assign rfl) rfl (by decide) ?_
          refine TL.nil ?_
          refine TQ.thenN ?_
          refine TQ.backK (x.1 + 1, _, _) (by repeat (first | exact True.intro | refine And.intro rfl ?_)) (by repeat (first | exact True.intro | refine And.intro rfl ?_)) (by repeat (first | exact List.Sublist.slnil | exact List.nil_sublist _ | exact List.Sublist.refl _ | refine List.Sublist.cons_cons _ ?_ | refine List.Sublist.cons _ ?_ | refine List.Sublist.trans ?_ (List.sublist_append_right _ _))) (by first | exact mid_changed hin (Int.ofNat_lt.1 hlt) hm hx.2.1 hx.2.2.1 hv1.2.2.1 hne | exact mid_kept (Int.ofNat_lt.1 hlt) hm hx hne) (by simp only; omega)
        · skip
          refine TC.skip ?_
          refine TQ.blkN ?_
          refine TQ.thenC ?_
          refine TC.region ?_
          refine TL.pure (PV.move rfl) rfl (by decide) ?_
          refine TL.pure (PV.add rfl rfl (by omega)) rfl (by decide) ?_
          refine TL.pure (PV.assign rfl) rfl (by decide) ?_
          refine TL.nil ?_
          refine TQ.thenN ?_
          refine TQ.backK (x.1 + 1, _, _) (by repeat (first | exact True.intro | refine And.intro rfl ?_)) (by repeat (first | exact True.intro | refine And.intro rfl ?_)) (by repeat (first | exact List.Sublist.slnil | exact List.nil_sublist _ | exact List.Sublist.refl _ | refine List.Sublist.cons_cons _ ?_ | refine List.Sublist.cons _ ?_ | refine List.Sublist.trans ?_ (List.sublist_append_right _ _))) (by first | exact mid_changed hin (Int.ofNat_lt.1 hlt) hm hx.2.1 hx.2.2.1 hv1.2.2.1 hne | exact mid_kept (Int.ofNat_lt.1 hlt) hm hx hne) (by simp only; omega)
      · skip
        refine TC.exit ?_
        refine TQ.thenE ?_
        refine TQ.thenE ?_
        refine TQ.blkS ?_
        refine TQ.blkN ?_
        refine TQ.thenN ?_
        refine TQ.backK (x.2.1, x.2.2) (by repeat (first | exact True.intro | refine And.intro rfl ?_)) (by repeat (first | exact True.intro | refine And.intro rfl ?_)) (by repeat (first | exact List.Sublist.slnil | exact List.nil_sublist _ | exact List.Sublist.refl _ | refine List.Sublist.cons_cons _ ?_ | refine List.Sublist.cons _ ?_ | refine List.Sublist.trans ?_ (List.sublist_append_right _ _))) ⟨hx.2.1, fun h => by have := hx.2.2.2.1 h; rwa [show x.1 = m by omega, List.take_take, Nat.min_self] at this⟩ (by have h1 := hx.2.2.1; have h2 := hx.2.2.2.2; simp only [hag, if_true]; cases h : x.2.1 <;> simp [h] at h2 ⊢ <;> omega)
    · skip
      refine TC.exit ?_
      refine TQ.thenE ?_
      refine TQ.thenE ?_
      refine TQ.blkS ?_
      refine TQ.thenC ?_
      refine TC.seq ?_
      refine TC.region ?_
      refine TL.pure (PV.move rfl) rfl (by decide) ?_
      refine TL.pure (PV.assign rfl) rfl (by decide) ?_
      refine TL.nil ?_
      refine TQ.thenC ?_
      refine TC.ret ?_
      refine TQ.retE1 rfl rfl ?_
      exact ⟨b1, rfl, trivial, by rw [show firstsL (N : Int) (rs.take m) = y.2 from (Lab.of hin).unique ⟨hy.1.len, hy.1.lo, hy.2 hag, hy.1.con⟩]; exact List.Sublist.cons_cons _ (List.nil_sublist _)⟩

set_option maxRecDepth 100000 in
theorem whole_ok (w0 : World) (n : Int) (p : Option Addr) (cap : Nat) (rs : List Rd) (hr : RdsAt w0 p rs) (hv : Valid n rs) :
    Calls Try.prog 62 #[sv n p rs.length cap] w0 (Post (X := Nat) (fun b => .slice (some ⟨b, 0, none⟩) n.toNat n.toNat) (fun _ => True) (fun b => [arrI b (firstsL n rs)]) w0) := by
  refine calls Try.func62 rfl (n := 8) rfl (by simp) ?_
  refine TC.seq ?_
  refine TC.region ?_
  refine TL.box rfl rfl (by decide) (fun b0 hb0 => ?_)
  refine TL.pure (PV.assign rfl) rfl (by decide) ?_
  refine TL.nil ?_
  refine TQ.thenC ?_
  refine TC.seq ?_
  refine TC.region ?_
  refine TL.pure (PV.loadBox rfl Tb.agg_24 (by repeat (first | exact List.Mem.head _ | refine List.Mem.tail _ ?_ | refine List.mem_append_right _ ?_)) rfl) rfl (by decide) ?_
  refine TL.pure (PV.fieldAddr rfl Tb.fo_24_1) rfl (by decide) ?_
  refine TL.pure (PV.load rfl Tb.one_22 (by repeat (first | exact List.Mem.head _ | refine List.Mem.tail _ ?_ | refine List.mem_append_right _ ?_)) rfl) rfl (by decide) ?_
  refine TL.pure (PV.len rfl Tb.sl_22) rfl (by decide) ?_
  refine TL.call rfl Tb.gofn_94 (fun a w hs => roots_ok w _ _ _ _ (hr.new hs.new) hv _ (Nat.le_refl _)) rfl (by decide) (fun bR _ => ?_)
  refine TL.pure (PV.assign rfl) rfl (by decide) ?_
  refine TL.nil ?_
  refine TQ.thenC ?_
  refine TC.ret ?_
  refine TQ.retE1 rfl rfl ?_
  exact ⟨bR, rfl, trivial, by rw [List.take_length]; exact List.Sublist.cons_cons _ (List.nil_sublist _)⟩

end Go.Proofs.Ytmmgcajegokkoaa
