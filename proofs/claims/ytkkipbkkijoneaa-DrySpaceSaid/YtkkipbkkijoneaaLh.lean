/- Determinants, by the reference: contract. -/
import Derived.Test.YtkkipbkkijoneaaLg
set_option linter.unusedVariables false
set_option linter.unusedSimpArgs false
namespace Go.Proofs.Ytkkipbkkijoneaa
open Go.Sx Go.RowKit Go.Sand

def mat (ls : List (List Int)) (i j : Nat) : Int := (ls.getD i []).getD j 0
def nI (J : List Nat) : List Int := J.map Int.ofNat
theorem nI_len (J : List Nat) : (nI J).length = J.length := List.length_map _
theorem nI_at {J : List Nat} {j : Nat} (h : j < J.length) : (nI J).getD j 0 = ((J.getD j 0 : Nat) : Int) := by unfold nI; simp [List.getD, h]
/-- A value that reads as a list, with its capacity. -/
def IsC (w : World) (v : Value) (xs : List Int) : Prop := ∃ p c, v = .slice p xs.length c ∧ IntsAt w p xs ∧ xs.length ≤ c
theorem IsC.new {w0 w : World} {G : Heap} {v : Value} {xs : List Int} (h : IsC w0 v xs) (hn : New w0 w G) : IsC w v xs := by
  obtain ⟨p, c, h1, h2, h3⟩ := h
  exact ⟨p, c, h1, h2.new hn, h3⟩
theorem IntsAt.take {w : World} {p : Option Addr} {xs : List Int} (h : IntsAt w p xs) (j cap : Nat) : IntsAt w (cutA p cap 0 1) (xs.take j) := by
  intro k hk
  rw [List.length_take] at hk
  obtain ⟨q, hq, hc⟩ := h k (by omega)
  have e : (xs.take j).getD k 0 = xs.getD k 0 := by rw [List.getD_eq_getElem?_getD, List.getElem?_take, if_pos (by omega), ← List.getD_eq_getElem?_getD]
  rw [e]
  unfold cutA
  split
  · exact ⟨q, hq, hc⟩
  · refine ⟨q.add (0 * 1), by rw [hq]; rfl, ?_⟩
    rw [addr_add_add, Nat.zero_mul, Nat.zero_add]
    exact hc
theorem IntsAt.drop {w : World} {p : Option Addr} {xs : List Int} (h : IntsAt w p xs) (l cap : Nat) (hc : xs.length ≤ cap) : IntsAt w (cutA p cap l 1) (xs.drop l) := by
  intro k hk
  rw [List.length_drop] at hk
  obtain ⟨q, hq, hc2⟩ := h (l + k) (by omega)
  have e : (xs.drop l).getD k 0 = xs.getD (l + k) 0 := by rw [List.getD_eq_getElem?_getD, List.getElem?_drop, ← List.getD_eq_getElem?_getD]
  rw [e]
  refine ⟨q.add (l * 1), by unfold cutA; rw [if_neg (by omega), hq]; rfl, ?_⟩
  rw [addr_add_add, ← Nat.add_mul]
  exact hc2
theorem nI_erase (J : List Nat) (j : Nat) : nI (J.eraseIdx j) = (nI J).take j ++ (nI J).drop (j + 1) := by
  unfold nI
  rw [List.eraseIdx_eq_take_drop_succ, List.map_append, List.map_take, List.map_drop]
def trm (ls : List (List Int)) (M i0 : Nat) (I J : List Nat) (q : Nat) : Int := sg q * mat ls i0 (J.getD q 0) * dt M (sub (mat ls) I (J.eraseIdx q))
theorem sub_bd {ls : List (List Int)} (hb : ∀ i j, -3 ≤ mat ls i j ∧ mat ls i j ≤ 3) {k : Nat} (hk : k ≤ 6) (I J : List Nat) : -1000000 ≤ dt k (sub (mat ls) I J) ∧ dt k (sub (mat ls) I J) ≤ 1000000 := by
  have h1 := dt_bd k (sub (mat ls) I J) fun x hx q => by
    obtain ⟨y, hy, rfl⟩ := List.mem_map.1 hx
    have := hb y (J.getD q 0)
    show (mat ls y (J.getD q 0)).natAbs ≤ 3
    omega
  have h2 : ∀ k, k < 7 → (Nat.rec (motive := fun _ => Nat) 1 (fun m v => (m + 1) * (3 * v)) k : Nat) ≤ 1000000 := by decide
  have h3 := h2 k (by omega)
  omega
theorem sg_bd (q : Nat) : -1 ≤ sg q ∧ sg q ≤ 1 := by unfold sg; split <;> decide
theorem trm_bd {ls : List (List Int)} (hb : ∀ i j, -3 ≤ mat ls i j ∧ mat ls i j ≤ 3) {M : Nat} (hM : M ≤ 6) (i0 : Nat) (I J : List Nat) (q : Nat) : (-3 ≤ sg q * mat ls i0 (J.getD q 0) ∧ sg q * mat ls i0 (J.getD q 0) ≤ 3) ∧ -3000000 ≤ trm ls M i0 I J q ∧ trm ls M i0 I J q ≤ 3000000 := by
  have h1 := mul_bd2 (A := 1) (B := 3) (sg_bd q) (hb i0 (J.getD q 0)) (by decide) (by decide)
  have h2 := mul_bd2 (A := 3) (B := 1000000) (a := sg q * mat ls i0 (J.getD q 0)) (by omega) (sub_bd hb hM I (J.eraseIdx q)) (by decide) (by decide)
  unfold trm
  omega
theorem trs_bd {ls : List (List Int)} (hb : ∀ i j, -3 ≤ mat ls i j ∧ mat ls i j ≤ 3) {M : Nat} (hM : M ≤ 6) (i0 : Nat) (I J : List Nat) : ∀ n : Nat, -(3000000 * (n : Int)) ≤ sm n (trm ls M i0 I J) ∧ sm n (trm ls M i0 I J) ≤ 3000000 * (n : Int)
  | 0 => by show -(3000000 * (0 : Int)) ≤ 0 ∧ (0 : Int) ≤ _; decide
  | n + 1 => by
    have h1 := trs_bd hb hM i0 I J n
    have h2 := (trm_bd hb hM i0 I J n).2
    show _ ≤ sm n _ + trm ls M i0 I J n ∧ sm n _ + trm ls M i0 I J n ≤ _
    omega


set_option maxRecDepth 100000 in
set_option maxHeartbeats 4000000 in
theorem det_step (w0 : World) (p0 : Option Addr) (c0 : Nat) (ls : List (List Int)) (hL : LsAt w0 p0 ls) (hb : ∀ i j, -3 ≤ mat ls i j ∧ mat ls i j ≤ 3) (N : Nat) (hrow : ∀ i, i < ls.length → (ls.getD i []).length = N) (K : Nat) (hK : K ≤ 6) (vI vJ : Value) (I J : List Nat) (h1 : IsC w0 vI (nI I)) (h2 : IsC w0 vJ (nI J)) (hI : I.length = K) (hJ : J.length = K) (hIb : ∀ x ∈ I, x < ls.length) (hJb : ∀ x ∈ J, x < N) (ih : ∀ K' : Nat, K = K' + 1 → ∀ w G, New w0 w G → ∀ (vI vJ : Value) (I J : List Nat), IsC w vI (nI I) → IsC w vJ (nI J) → I.length = K' → J.length = K' → (∀ x ∈ I, x < ls.length) → (∀ x ∈ J, x < N) → Calls Try.prog 96 #[.slice p0 ls.length c0, vI, vJ] w (Post (X := Unit) (fun _ => .int .i64 (dt K' (sub (mat ls) I J))) (fun _ => True) (fun _ => []) w)) :
    Calls Try.prog 96 #[.slice p0 ls.length c0, vI, vJ] w0 (Post (X := Unit) (fun _ => .int .i64 (dt K (sub (mat ls) I J))) (fun _ => True) (fun _ => []) w0) := by
  obtain ⟨pi, ci, rfl, hxi, hci⟩ := h1
  obtain ⟨pj, cj, rfl, hxj, hcj⟩ := h2
  have hil := nI_len I
  have hjl := nI_len J
  refine calls Try.func96 rfl (n := 55) rfl (by simp) ?_
  refine TC.seq ?_
  refine TC.region ?_
  refine TL.pure (PV.assign rfl) rfl (by decide) ?_
  refine TL.nil ?_
  refine TQ.thenC ?_
  refine TC.seq ?_
  refine TC.seq ?_
  refine TC.region ?_
  refine TL.pure (PV.move rfl) rfl (by decide) ?_
  refine TL.pure (PV.len rfl Tb.sl_25) rfl (by decide) ?_
  refine TL.pure (PV.eql rfl rfl) rfl (by decide) ?_
  refine TL.nil ?_
  refine TQ.thenC ?_
  first | refine TC.condD rfl (fun a1 => ?_) (fun a1 => ?_) | refine TC.cond rfl (fun a1 => ?_) (fun a1 => ?_)
  · skip
    refine TC.seq ?_
    refine TC.region ?_
    refine TL.pure (PV.assign rfl) rfl (by decide) ?_
    refine TL.nil ?_
    refine TQ.thenC ?_
    refine TC.ret ?_
    refine TQ.thenR ?_
    refine TQ.retE1 rfl rfl ?_
    obtain rfl : K = 0 := by omega
    exact ⟨(), rfl, trivial, List.nil_sublist _⟩
  · skip
    refine TC.skip ?_
    refine TQ.thenC ?_
    refine TC.seq ?_
    obtain ⟨M, rfl⟩ : ∃ M, K = M + 1 := ⟨K - 1, by omega⟩
    obtain ⟨i0, I, rfl⟩ : ∃ a l, I = a :: l := by
        cases I with
        | nil => simp at hI
        | cons a l => exact ⟨a, l, rfl⟩
    have hI2 : I.length = M := by simpa using hI
    have hi0 := hIb i0 List.mem_cons_self
    refine TC.region ?_
    refine TL.pure (PV.assign rfl) rfl (by decide) ?_
    refine TL.pure (PV.assign rfl) rfl (by decide) ?_
    refine TL.nil ?_
    refine TQ.thenC ?_
    refine TC.seq ?_
    refine TC.seq ?_
    refine TC.region ?_
    refine TL.pure (PV.assign rfl) rfl (by decide) ?_
    refine TL.nil ?_
    refine TQ.thenC ?_
    refine TC.block ?_
    refine TC.lit [(0, _), (1, _), (2, _), (6, _), (7, _), (8, _), (9, _)] (by repeat (first | exact True.intro | refine And.intro rfl ?_)) ?_
    refine TC.loopK [0, 1, 2, 6] (X := Nat) (fun j => j ≤ M + 1) (fun j => [(9, .int .i64 j), (7, .int .i64 (sm j (trm ls M i0 I J))), (8, .int .i64 (sg j))]) (fun j => []) (fun j => M + 1 - j) 0 (Nat.zero_le _) (by repeat (first | exact True.intro | refine And.intro rfl ?_)) (List.nil_sublist _) ?_
    intro j hj9
    refine TC.lit [(0, _), (1, _), (2, _), (6, _), (7, _), (8, _), (9, _)] (by repeat (first | exact True.intro | refine And.intro rfl ?_)) ?_
    refine TC.seq ?_
    refine TC.seq ?_
    refine TC.region ?_
    refine TL.pure (PV.move rfl) rfl (by decide) ?_
    refine TL.pure (PV.move rfl) rfl (by decide) ?_
    refine TL.pure (PV.len rfl Tb.sl_25) rfl (by decide) ?_
    refine TL.pure (PV.lss rfl rfl) rfl (by decide) ?_
    refine TL.nil ?_
    refine TQ.thenC ?_
    first | refine TC.condD rfl (fun hlt => ?_) (fun hlt => ?_) | refine TC.cond rfl (fun hlt => ?_) (fun hlt => ?_)
    · skip
      refine TC.skip ?_
      refine TQ.thenC ?_
      refine TC.seq ?_
      refine TC.block ?_
      refine TC.seq ?_
      have htl : ((nI J).take j).length = j := by rw [List.length_take]; omega
      have hdl : ((nI J).drop (j + 1)).length = (nI J).length - (j + 1) := List.length_drop
      have hjl9 : j + ((nI J).length - (j + 1)) = M := by omega
      have hival : ival ((nI J).take j) ++ ival ((nI J).drop (j + 1)) = ival (nI (J.eraseIdx j)) := by rw [nI_erase]; exact List.map_append.symm
      refine TC.mixV [false, true, true, true, false, true, true, true, true, false, true] _ 11 Tb.mixed rfl (by kernel_rfl) (by kernel_rfl) (by kernel_rfl) (by kernel_rfl) (List.Sublist.refl _) ?_
      refine TV.virt 1 rfl rfl (by decide) rfl (by kernel_rfl) (SOK.pure (PV.move rfl) rfl) ?_
      refine TV.virt 2 rfl rfl (by decide) rfl (by kernel_rfl) (SOK.pure (PV.move rfl) rfl) ?_
      refine TV.virt 3 rfl rfl (by decide) rfl (by kernel_rfl) (SOK.pure (PV.sliceH (h := j) rfl rfl Tb.elm_25 rfl (by omega)) rfl) ?_
      refine TV.virt 5 rfl rfl (by decide) rfl (by kernel_rfl) (SOK.pure (PV.move rfl) rfl) ?_
      refine TV.virt 6 rfl rfl (by decide) rfl (by kernel_rfl) (SOK.pure (PV.move rfl) rfl) ?_
      refine TV.virt 7 rfl rfl (by decide) rfl (by kernel_rfl) (SOK.pure (PV.add rfl rfl (by omega)) rfl) ?_
      refine TV.virt 8 rfl rfl (by decide) rfl (by kernel_rfl) (SOK.pure (PV.sliceL (l := j + 1) rfl rfl Tb.elm_25 (by omega) (by omega)) rfl) ?_
      refine TV.step [0] (by kernel_rfl) (by decide) rfl ⟨⟨_, rfl, ?_⟩, trivial⟩
      refine TL.buildSlice0 Tb.sl_25 Tb.zi_3 rfl (by decide) (fun bA hbA => ?_)
      refine TL.nil ?_
      refine TV.next (.inl (by repeat (first | exact List.Sublist.slnil | exact List.nil_sublist _ | exact List.Sublist.refl _ | refine List.Sublist.cons_cons _ ?_ | refine List.Sublist.cons _ ?_ | refine List.Sublist.trans ?_ (List.sublist_append_right _ _)))) ?_
      refine TV.step [4] (by kernel_rfl) (by decide) rfl ⟨⟨_, rfl, ?_⟩, trivial⟩
      refine TL.append0 (m := j) (news := ival ((nI J).take j)) rfl rfl Tb.sl_25 Tb.zi_3 rfl (by repeat (first | exact Take.head _ | apply Take.tail | apply Take.appR)) (fun w' hN => ints_src Tb.sl_25 htl ((hxj.take j cj).new hN)) (by omega) (by omega) rfl (by decide) (fun h7 hh7 => ?_)
      refine TL.nil ?_
      refine TV.next (.inl (by repeat (first | exact List.Sublist.slnil | exact List.nil_sublist _ | exact List.Sublist.refl _ | refine List.Sublist.cons_cons _ ?_ | refine List.Sublist.cons _ ?_ | refine List.Sublist.trans ?_ (List.sublist_append_right _ _)))) ?_
      refine TV.step [9] (by kernel_rfl) (by decide) rfl ⟨⟨_, rfl, ?_⟩, trivial⟩
      refine TL.append (hd0 := h7) (ys := ival ((nI J).take j)) (len := j) (m := (nI J).length - (j + 1)) (news := ival ((nI J).drop (j + 1))) rfl rfl Tb.sl_25 Tb.zi_3 rfl (by decide) hh7 (by repeat (first | exact TakeH.here _ _ _ _ | apply TakeH.tail | apply TakeH.app)) (fun a w hs => ints_src Tb.sl_25 hdl ((hxj.drop (j + 1) cj hcj).new hs.new)) (fun w' hN => ints_src Tb.sl_25 hdl ((hxj.drop (j + 1) cj hcj).new hN)) (by omega) (by omega) rfl (by decide) (fun h8 hh8 _ => ?_)
      refine TL.nil ?_
      refine TV.next (.inl (by repeat (first | exact List.Sublist.slnil | exact List.nil_sublist _ | exact List.Sublist.refl _ | refine List.Sublist.cons_cons _ ?_ | refine List.Sublist.cons _ ?_ | refine List.Sublist.trans ?_ (List.sublist_append_right _ _)))) ?_
      rw [hjl9, hival] at hh8
      rw [hjl9, hival]
      refine TV.virt 10 rfl rfl (by decide) rfl (by kernel_rfl) (SOK.pure (PV.assign rfl) rfl) ?_
      refine TV.done (by kernel_rfl) ?_
      refine TQ.thenC ?_
      refine TC.seq ?_
      have hje := nI_erase J j
      have hel : (nI (J.eraseIdx j)).length = M := by rw [nI_len, List.length_eraseIdx, if_pos (by omega)]; omega
      obtain ⟨qi, hqip, hqi⟩ := hxi 0 (by rw [nI_len]; simp)
      have hi00 : (nI (i0 :: I)).getD 0 0 = ((i0 : Nat) : Int) := rfl
      rw [hi00] at hqi
      obtain ⟨q1, hq1p, pr, cr, hq1, hr1⟩ := hL i0 hi0
      obtain ⟨qj, hqjp, hqj⟩ := hxj j (by omega)
      have hjv : (nI J).getD j 0 = ((J.getD j 0 : Nat) : Int) := nI_at (by omega)
      rw [hjv] at hqj
      have hjm : J.getD j 0 ∈ J := by simp [List.getD, show j < J.length by omega]
      have hjN := hJb _ hjm
      have hrl := hrow i0 hi0
      obtain ⟨q2, hq2p, hq2⟩ := hr1 (J.getD j 0) (by omega)
      have hm9 : (ls.getD i0 []).getD (J.getD j 0) 0 = mat ls i0 (J.getD j 0) := rfl
      rw [hm9] at hq2
      have hb9 := trm_bd hb (show M ≤ 6 by omega) i0 I J j
      unfold trm at hb9
      have hsg := sg_bd j
      have hb8 := trs_bd hb (show M ≤ 6 by omega) i0 I J j
      have hIC : ∀ w G, New w0 w G → IsC w (.slice (cutA pi ci 1 1) ((nI (i0 :: I)).length - 1) (ci - 1)) (nI I) := fun w G hn => ⟨_, _, by rw [nI_len, nI_len]; rfl, ((hxi.drop 1 ci hci).new hn), by rw [nI_len] at hci ⊢; simp at hci; omega⟩
      refine TC.mixE [false, true, true, true, true, true, true, true, true, true, true, true, true, true, true, true, true, true, true, false, false, false, false] _ 5 Tb.mixed rfl (by kernel_rfl) (by kernel_rfl) (by kernel_rfl) (by kernel_rfl) (List.Sublist.refl _) ?_
      refine TY.no ?_
      refine TY.op (SOK.pure (PV.move rfl) rfl) (by decide) ?_
      refine TY.op (SOK.pure (PV.move rfl) rfl) (by decide) ?_
      refine TY.op (SOK.pure (PV.move rfl) rfl) (by decide) ?_
      refine TY.op (SOK.pure (PV.indexA (j := 0) rfl hqip rfl Tb.elm_25 rfl (by rw [nI_len]; simp)) rfl) (by decide) ?_
      refine TY.op (SOK.pure (PV.loadOld rfl Tb.one_3 hqi) rfl) (by decide) ?_
      refine TY.op (SOK.pure (PV.indexA (j := i0) rfl hq1p rfl Tb.elm_97 rfl hi0) rfl) (by decide) ?_
      refine TY.op (SOK.pure (PV.loadOld rfl Tb.one_25 hq1) rfl) (by decide) ?_
      refine TY.op (SOK.pure (PV.move rfl) rfl) (by decide) ?_
      refine TY.op (SOK.pure (PV.move rfl) rfl) (by decide) ?_
      refine TY.op (SOK.pure (PV.indexA (j := j) rfl hqjp rfl Tb.elm_25 rfl (by omega)) rfl) (by decide) ?_
      refine TY.op (SOK.pure (PV.loadOld rfl Tb.one_3 hqj) rfl) (by decide) ?_
      refine TY.op (SOK.pure (PV.indexA (j := J.getD j 0) rfl hq2p rfl Tb.elm_25 rfl (by omega)) rfl) (by decide) ?_
      refine TY.op (SOK.pure (PV.loadOld rfl Tb.one_3 hq2) rfl) (by decide) ?_
      refine TY.op (SOK.pure (PV.mul rfl rfl (by omega)) rfl) (by decide) ?_
      refine TY.op (SOK.pure (PV.move rfl) rfl) (by decide) ?_
      refine TY.op (SOK.pure (PV.move rfl) rfl) (by decide) ?_
      refine TY.op (SOK.pure (PV.sliceL (l := 1) rfl rfl Tb.elm_25 rfl (by rw [nI_len]; simp)) rfl) (by decide) ?_
      refine TY.op (SOK.pure (PV.move rfl) rfl) (by decide) ?_
      refine TY.no ?_
      refine TY.no ?_
      refine TY.no ?_
      refine TY.no ?_
      refine TY.fin ?_
      refine TX.step [0, 19] (by kernel_rfl) (by decide) ⟨⟨_, rfl, ?_⟩, ⟨_, rfl, ?_⟩, trivial⟩
      · skip
        refine TL.pure (PV.move rfl) rfl (by decide) ?_
        refine TL.nil ?_
        refine TX.next (.inl (by repeat (first | exact List.Sublist.slnil | exact List.nil_sublist _ | exact List.Sublist.refl _ | refine List.Sublist.cons_cons _ ?_ | refine List.Sublist.cons _ ?_ | refine List.Sublist.trans ?_ (List.sublist_append_right _ _)))) ?_
        refine TX.step [19] (by kernel_rfl) (by decide) ⟨⟨_, rfl, ?_⟩, trivial⟩
        refine TL.call rfl Tb.gofn_96 (fun a w hs => (ih M rfl w _ hs.new _ _ I (J.eraseIdx j) (hIC w _ hs.new) ⟨gp h8, gc h8, by rw [hel]; exact gval_eq hh8, IntsAt.g (x := (h8, nI (J.eraseIdx j))) hs.new (fun yy hyy => by repeat (first | exact List.mem_append_left _ hyy | exact List.mem_append_left _ (List.mem_append_right _ hyy) | exact List.mem_append_left _ (List.mem_append_left _ hyy) | refine List.mem_append_right _ ?_ | refine List.Mem.tail _ ?_)) (by show gok h8 (nI (J.eraseIdx j)).length 1 _; rw [hel]; exact hh8), by rw [hel]; exact gok_cap hh8⟩ hI2 (by rw [List.length_eraseIdx, if_pos (by omega)]; omega) (fun x hx => hIb x (List.mem_cons_of_mem _ hx)) (fun x hx => hJb x (List.mem_of_mem_eraseIdx hx)))) rfl (by decide) (fun _ _ => ?_)
        refine TL.nil ?_
        refine TX.next (.inl (by repeat (first | exact List.Sublist.slnil | exact List.nil_sublist _ | exact List.Sublist.refl _ | refine List.Sublist.cons_cons _ ?_ | refine List.Sublist.cons _ ?_ | refine List.Sublist.trans ?_ (List.sublist_append_right _ _)))) ?_
        refine TX.step [20] (by kernel_rfl) (by decide) ⟨⟨_, rfl, ?_⟩, trivial⟩
        refine TL.pure (PV.mul rfl rfl (by omega)) rfl (by decide) ?_
        refine TL.nil ?_
        refine TX.next (.inl (by repeat (first | exact List.Sublist.slnil | exact List.nil_sublist _ | exact List.Sublist.refl _ | refine List.Sublist.cons_cons _ ?_ | refine List.Sublist.cons _ ?_ | refine List.Sublist.trans ?_ (List.sublist_append_right _ _)))) ?_
        refine TX.step [21] (by kernel_rfl) (by decide) ⟨⟨_, rfl, ?_⟩, trivial⟩
        refine TL.pure (PV.add rfl rfl (by omega)) rfl (by decide) ?_
        refine TL.nil ?_
        refine TX.next (.inl (by repeat (first | exact List.Sublist.slnil | exact List.nil_sublist _ | exact List.Sublist.refl _ | refine List.Sublist.cons_cons _ ?_ | refine List.Sublist.cons _ ?_ | refine List.Sublist.trans ?_ (List.sublist_append_right _ _)))) ?_
        refine TX.step [22] (by kernel_rfl) (by decide) ⟨⟨_, rfl, ?_⟩, trivial⟩
        refine TL.pure (PV.assign rfl) rfl (by decide) ?_
        refine TL.nil ?_
        refine TX.next (.inr (by kernel_rfl)) ?_
        refine TX.done (by kernel_rfl) ?_
        refine TQ.thenC ?_
        refine TC.region ?_
        refine TL.pure (PV.move rfl) rfl (by decide) ?_
        refine TL.pure (PV.neg rfl (by omega)) rfl (by decide) ?_
        refine TL.pure (PV.assign rfl) rfl (by decide) ?_
        refine TL.nil ?_
        refine TQ.blkN ?_
        refine TQ.thenC ?_
        refine TC.region ?_
        refine TL.pure (PV.move rfl) rfl (by decide) ?_
        refine TL.pure (PV.add rfl rfl (by omega)) rfl (by decide) ?_
        refine TL.pure (PV.assign rfl) rfl (by decide) ?_
        refine TL.nil ?_
        refine TQ.thenN ?_
        refine TQ.backK (j + 1) (by refine And.intro rfl (And.intro rfl (And.intro ?_ True.intro)); show some (Value.int .i64 _) = some (.int .i64 (sg (j + 1))); rw [sg_succ]) (by repeat (first | exact True.intro | refine And.intro rfl ?_)) (List.nil_sublist _) (by omega) (by omega)
      · skip
        refine TL.call rfl Tb.gofn_96 (fun a w hs => (ih M rfl w _ hs.new _ _ I (J.eraseIdx j) (hIC w _ hs.new) ⟨gp h8, gc h8, by rw [hel]; exact gval_eq hh8, IntsAt.g (x := (h8, nI (J.eraseIdx j))) hs.new (fun yy hyy => by repeat (first | exact List.mem_append_left _ hyy | exact List.mem_append_left _ (List.mem_append_right _ hyy) | exact List.mem_append_left _ (List.mem_append_left _ hyy) | refine List.mem_append_right _ ?_ | refine List.Mem.tail _ ?_)) (by show gok h8 (nI (J.eraseIdx j)).length 1 _; rw [hel]; exact hh8), by rw [hel]; exact gok_cap hh8⟩ hI2 (by rw [List.length_eraseIdx, if_pos (by omega)]; omega) (fun x hx => hIb x (List.mem_cons_of_mem _ hx)) (fun x hx => hJb x (List.mem_of_mem_eraseIdx hx)))) rfl (by decide) (fun _ _ => ?_)
        refine TL.nil ?_
        refine TX.next (.inl (by repeat (first | exact List.Sublist.slnil | exact List.nil_sublist _ | exact List.Sublist.refl _ | refine List.Sublist.cons_cons _ ?_ | refine List.Sublist.cons _ ?_ | refine List.Sublist.trans ?_ (List.sublist_append_right _ _)))) ?_
        refine TX.step [0, 20] (by kernel_rfl) (by decide) ⟨⟨_, rfl, ?_⟩, ⟨_, rfl, ?_⟩, trivial⟩
        · skip
          refine TL.pure (PV.move rfl) rfl (by decide) ?_
          refine TL.nil ?_
          refine TX.next (.inl (by repeat (first | exact List.Sublist.slnil | exact List.nil_sublist _ | exact List.Sublist.refl _ | refine List.Sublist.cons_cons _ ?_ | refine List.Sublist.cons _ ?_ | refine List.Sublist.trans ?_ (List.sublist_append_right _ _)))) ?_
          refine TX.step [20] (by kernel_rfl) (by decide) ⟨⟨_, rfl, ?_⟩, trivial⟩
          refine TL.pure (PV.mul rfl rfl (by omega)) rfl (by decide) ?_
          refine TL.nil ?_
          refine TX.next (.inl (by repeat (first | exact List.Sublist.slnil | exact List.nil_sublist _ | exact List.Sublist.refl _ | refine List.Sublist.cons_cons _ ?_ | refine List.Sublist.cons _ ?_ | refine List.Sublist.trans ?_ (List.sublist_append_right _ _)))) ?_
          refine TX.step [21] (by kernel_rfl) (by decide) ⟨⟨_, rfl, ?_⟩, trivial⟩
          refine TL.pure (PV.add rfl rfl (by omega)) rfl (by decide) ?_
          refine TL.nil ?_
          refine TX.next (.inl (by repeat (first | exact List.Sublist.slnil | exact List.nil_sublist _ | exact List.Sublist.refl _ | refine List.Sublist.cons_cons _ ?_ | refine List.Sublist.cons _ ?_ | refine List.Sublist.trans ?_ (List.sublist_append_right _ _)))) ?_
          refine TX.step [22] (by kernel_rfl) (by decide) ⟨⟨_, rfl, ?_⟩, trivial⟩
          refine TL.pure (PV.assign rfl) rfl (by decide) ?_
          refine TL.nil ?_
          refine TX.next (.inr (by kernel_rfl)) ?_
          refine TX.done (by kernel_rfl) ?_
          refine TQ.thenC ?_
          refine TC.region ?_
          refine TL.pure (PV.move rfl) rfl (by decide) ?_
          refine TL.pure (PV.neg rfl (by omega)) rfl (by decide) ?_
          refine TL.pure (PV.assign rfl) rfl (by decide) ?_
          refine TL.nil ?_
          refine TQ.blkN ?_
          refine TQ.thenC ?_
          refine TC.region ?_
          refine TL.pure (PV.move rfl) rfl (by decide) ?_
          refine TL.pure (PV.add rfl rfl (by omega)) rfl (by decide) ?_
          refine TL.pure (PV.assign rfl) rfl (by decide) ?_
          refine TL.nil ?_
          refine TQ.thenN ?_
          refine TQ.backK (j + 1) (by refine And.intro rfl (And.intro rfl (And.intro ?_ True.intro)); show some (Value.int .i64 _) = some (.int .i64 (sg (j + 1))); rw [sg_succ]) (by repeat (first | exact True.intro | refine And.intro rfl ?_)) (List.nil_sublist _) (by omega) (by omega)
        · skip
          refine TL.pure (PV.mul rfl rfl (by omega)) rfl (by decide) ?_
          refine TL.nil ?_
          refine TX.next (.inl (by repeat (first | exact List.Sublist.slnil | exact List.nil_sublist _ | exact List.Sublist.refl _ | refine List.Sublist.cons_cons _ ?_ | refine List.Sublist.cons _ ?_ | refine List.Sublist.trans ?_ (List.sublist_append_right _ _)))) ?_
          refine TX.step [0] (by kernel_rfl) (by decide) ⟨⟨_, rfl, ?_⟩, trivial⟩
          refine TL.pure (PV.move rfl) rfl (by decide) ?_
          refine TL.nil ?_
          refine TX.next (.inl (by repeat (first | exact List.Sublist.slnil | exact List.nil_sublist _ | exact List.Sublist.refl _ | refine List.Sublist.cons_cons _ ?_ | refine List.Sublist.cons _ ?_ | refine List.Sublist.trans ?_ (List.sublist_append_right _ _)))) ?_
          refine TX.step [21] (by kernel_rfl) (by decide) ⟨⟨_, rfl, ?_⟩, trivial⟩
          refine TL.pure (PV.add rfl rfl (by omega)) rfl (by decide) ?_
          refine TL.nil ?_
          refine TX.next (.inl (by repeat (first | exact List.Sublist.slnil | exact List.nil_sublist _ | exact List.Sublist.refl _ | refine List.Sublist.cons_cons _ ?_ | refine List.Sublist.cons _ ?_ | refine List.Sublist.trans ?_ (List.sublist_append_right _ _)))) ?_
          refine TX.step [22] (by kernel_rfl) (by decide) ⟨⟨_, rfl, ?_⟩, trivial⟩
          refine TL.pure (PV.assign rfl) rfl (by decide) ?_
          refine TL.nil ?_
          refine TX.next (.inr (by kernel_rfl)) ?_
          refine TX.done (by kernel_rfl) ?_
          refine TQ.thenC ?_
          refine TC.region ?_
          refine TL.pure (PV.move rfl) rfl (by decide) ?_
          refine TL.pure (PV.neg rfl (by omega)) rfl (by decide) ?_
          refine TL.pure (PV.assign rfl) rfl (by decide) ?_
          refine TL.nil ?_
          refine TQ.blkN ?_
          refine TQ.thenC ?_
          refine TC.region ?_
          refine TL.pure (PV.move rfl) rfl (by decide) ?_
          refine TL.pure (PV.add rfl rfl (by omega)) rfl (by decide) ?_
          refine TL.pure (PV.assign rfl) rfl (by decide) ?_
          refine TL.nil ?_
          refine TQ.thenN ?_
          refine TQ.backK (j + 1) (by refine And.intro rfl (And.intro rfl (And.intro ?_ True.intro)); show some (Value.int .i64 _) = some (.int .i64 (sg (j + 1))); rw [sg_succ]) (by repeat (first | exact True.intro | refine And.intro rfl ?_)) (List.nil_sublist _) (by omega) (by omega)
    · skip
      refine TC.exit ?_
      refine TQ.thenE ?_
      refine TQ.thenE ?_
      refine TQ.blkS ?_
      refine TQ.thenC ?_
      refine TC.seq ?_
      refine TC.region ?_
      refine TL.pure (PV.move rfl) rfl (by decide) ?_
      refine TL.pure (PV.assign rfl) rfl (by decide) ?_
      refine TL.nil ?_
      refine TQ.thenC ?_
      refine TC.ret ?_
      refine TQ.retE1 rfl rfl ?_
      exact ⟨(), by rw [show j = M + 1 by omega]; exact congrArg (fun z => Value.int .i64 z) (by unfold sub; rw [List.map_cons, dt_cons]; exact sm_congr fun q _ => by rw [show I.map (fun i q => mat ls i (J.getD q 0)) = sub (mat ls) I J from rfl, sub_del]; rfl), trivial, List.nil_sublist _⟩

theorem det_ok (p0 : Option Addr) (c0 : Nat) (ls : List (List Int)) (hb : ∀ i j, -3 ≤ mat ls i j ∧ mat ls i j ≤ 3) (N : Nat) (hrow : ∀ i, i < ls.length → (ls.getD i []).length = N) : ∀ (K : Nat), K ≤ 6 → ∀ (w0 : World), LsAt w0 p0 ls → ∀ (vI vJ : Value) (I J : List Nat), IsC w0 vI (nI I) → IsC w0 vJ (nI J) → I.length = K → J.length = K → (∀ x ∈ I, x < ls.length) → (∀ x ∈ J, x < N) →
    Calls Try.prog 96 #[.slice p0 ls.length c0, vI, vJ] w0 (Post (X := Unit) (fun _ => .int .i64 (dt K (sub (mat ls) I J))) (fun _ => True) (fun _ => []) w0)
  | 0, hK, w0, hL, vI, vJ, I, J, h1, h2, hI, hJ, hIb, hJb => det_step w0 p0 c0 ls hL hb N hrow 0 hK vI vJ I J h1 h2 hI hJ hIb hJb (fun K' h => by omega)
  | K + 1, hK, w0, hL, vI, vJ, I, J, h1, h2, hI, hJ, hIb, hJb => det_step w0 p0 c0 ls hL hb N hrow (K + 1) hK vI vJ I J h1 h2 hI hJ hIb hJb (fun K' h w G hn vI vJ I J h1 h2 hI hJ hIb hJb => by
      obtain rfl : K = K' := by omega
      exact det_ok p0 c0 ls hb N hrow K (by omega) w (hL.new hn) vI vJ I J h1 h2 hI hJ hIb hJb)

end Go.Proofs.Ytkkipbkkijoneaa
