/- The rank: contract of the function. -/
import Derived.Test.YtkkipbkkijoneaaLd
set_option linter.unusedVariables false
set_option linter.unusedSimpArgs false
namespace Go.Proofs.Ytkkipbkkijoneaa
open Go.Sx Go.RowKit Go.Sand

theorem gok_cap {h : HD} {len sz : Nat} {ys : List Value} (ho : gok h len sz ys) : len ≤ gc h := by
  obtain _ | ⟨b, cap, sp⟩ := h
  · have : len = 0 := ho.2
    omega
  · exact ho.2.2
theorem hd_some {h : HD} {len sz : Nat} {ys : List Value} (ho : gok h len sz ys) (h0 : 0 < len) : ∃ b cap sp, h = some (b, cap, sp) := by
  obtain _ | ⟨b, cap, sp⟩ := h
  · have : len = 0 := ho.2
    omega
  · exact ⟨b, cap, sp, rfl⟩
theorem LsAt.blk {w0 w : World} {G : Heap} {hX : HD} {kh : Nat → HD} {L : Nat → List Int} {P : List Nat} {S N : Nat} (hn : New w0 w G) (hm : ∀ y ∈ gbR (rwI kh N) 25 hX P, y ∈ G) (hm2 : ∀ y ∈ blk kh L (List.range S), y ∈ G) (ho : goR (rwI kh N) hX P)
    (hl : P.length = S) (hb : ∀ t, t < S → P.getD t 0 < S) (hok : ∀ i, i < S → goI (kh i, L i) ∧ (L i).length = N) : LsAt w (gp hX) (P.map L) := by
  have hr := RecsAt.s (R := rwI kh N) hn hm ho
  intro j hj
  rw [List.length_map] at hj
  obtain ⟨q, hq, hc⟩ := hr j hj
  have e : (P.map L).getD j [] = L (P.getD j 0) := by simp [List.getD, hj]
  have hi := hb j (by omega)
  have h1 := hok _ hi
  have c0 := hc 0 (gval (kh (P.getD j 0)) N) rfl
  rw [← h1.2, gval_eq h1.1, addr_add_add] at c0
  rw [e]
  exact ⟨q, hq, _, _, c0, IntsAt.g (x := (kh (P.getD j 0), L (P.getD j 0))) hn (fun y hy => hm2 y (blk_mem (List.mem_range.2 hi) y hy)) h1.1⟩
theorem dropL {P : List Nat} {L : Nat → List Int} {r j S : Nat} (hl : P.length = S) (h : r + j < S) : ((P.map L).drop r).getD j [] = L (P.getD (r + j) 0) := by
  rw [List.getD_eq_getElem?_getD, List.getElem?_drop, List.getElem?_map, List.getD_eq_getElem?_getD, List.getElem?_eq_getElem (by omega)]
  rfl
theorem addr_slot (b r t : Nat) : Addr.add (Addr.add ⟨b, 0, none⟩ ((r + 1) * 1)) (t * 1) = ⟨b, (r + 1 + t) * 1 + 0, none⟩ := by
  rw [addr_add_add, add_off]
  congr 1
  omega
def mx (f g : Nat → Int) (j q : Nat) : Int := if q < j then f q else g q
theorem mx_zero {N : Nat} {f g : Nat → Int} : mk N (mx f g 0) = mk N g := mk_congr fun q _ => if_neg (Nat.not_lt_zero _)
theorem mx_all {N j : Nat} {f g : Nat → Int} (h : N ≤ j) : mk N (mx f g j) = mk N f := mk_congr fun q hq => if_pos (by omega)
theorem mx_set {N j : Nat} {f g : Nat → Int} {v : Int} (hj : j < N) (hv : v = f j) : (mk N (mx f g j)).set j v = mk N (mx f g (j + 1)) :=
  mk_set hj (by rw [hv]; exact (if_pos (by omega)).symm) fun q _ hq => by
    unfold mx
    by_cases h : q < j
    · rw [if_pos h, if_pos (by omega)]
    · rw [if_neg h, if_neg (by omega)]
theorem mem_pp {S i p : Nat} (hp : p < S) (h : p ≠ i) : p ∈ preI i ∨ p ∈ posI S i := by
  by_cases h1 : p < i
  · exact .inl (List.mem_range.2 h1)
  · exact .inr (List.mem_range'_1.2 ⟨by omega, by omega⟩)
theorem fst_no {φ : List Int → Bool} {ls : List (List Int)} {i : Int} (h : Fst φ ls i) (hi : i < 0) : ∀ j, j < ls.length → φ (ls.getD j []) = false := by
  rcases h with ⟨_, h⟩ | ⟨k, rfl, _⟩
  · exact h
  · omega
theorem fst_yes {φ : List Int → Bool} {ls : List (List Int)} {i : Int} (h : Fst φ ls i) (hi : ¬ i < 0) : ∃ k : Nat, i = k ∧ k < ls.length ∧ φ (ls.getD k []) = true := by
  rcases h with ⟨rfl, _⟩ | ⟨k, rfl, h1, h2, _⟩
  · exact absurd (by decide) hi
  · exact ⟨k, rfl, h1, h2⟩


set_option maxRecDepth 100000 in
set_option maxHeartbeats 8000000 in
theorem rank_ok {w0 w : World} {R9 : Heap} (M : Nat → Row) (S N : Nat) (hX : HD) (kh : Nat → HD) (L0 : Nat → List Int) (P0 : List Nat) (hn : New w0 w (blk kh L0 (List.range S) ++ (gbR (rwI kh N) 25 hX P0 ++ R9))) (h0 : RK M S N hX kh ⟨0, [], [], P0, L0⟩) (hM : ∀ i j, -3 ≤ M i j ∧ M i j ≤ 3) (hS6 : S ≤ 6) (hN6 : N ≤ 6) :
    Calls Try.prog 94 #[gval hX S, .int .i64 N] w (Post (X := Nat) (fun r => .int .i64 (r : Nat)) (fun r => IsRk M S N r) (fun _ => R9) w0) := by
  refine callsM hn Try.func94 rfl (n := 95) rfl (by simp) ?_
  refine TC.seq ?_
  refine TC.region ?_
  refine TL.pure (PV.assign rfl) rfl (by decide) ?_
  refine TL.nil ?_
  refine TQ.thenC ?_
  refine TC.seq ?_
  refine TC.region ?_
  refine TL.pure (PV.assign rfl) rfl (by decide) ?_
  refine TL.pure (PV.assign rfl) rfl (by decide) ?_
  refine TL.nil ?_
  refine TQ.thenC ?_
  refine TC.seq ?_
  refine TC.seq ?_
  refine TC.region ?_
  refine TL.pure (PV.move rfl) rfl (by decide) ?_
  refine TL.pure (PV.move rfl) rfl (by decide) ?_
  refine TL.nil ?_
  refine TQ.thenC ?_
  refine TC.block ?_
  refine TC.lit [(0, _), (4, _), (5, _), (6, _), (14, _), (15, _)] (by repeat (first | exact True.intro | refine And.intro rfl ?_)) ?_
  refine TC.loopK [0, 4, 14] (X := RX9) (fun x => x.c ≤ N ∧ RK M S N hX kh x) (fun x => [(15, .int .i64 x.c), (5, .int .i64 x.R.length), (6, .int .i64 (Dn M x.R x.C))]) (fun x => blk kh x.L (List.range S) ++ (gbR (rwI kh N) 25 hX x.P ++ R9)) (fun x => N - x.c) ⟨0, [], [], P0, L0⟩ ⟨Nat.zero_le _, h0⟩ (by repeat (first | exact True.intro | refine And.intro rfl ?_)) (by repeat (first | exact List.Sublist.slnil | exact List.nil_sublist _ | exact List.Sublist.refl _ | refine List.Sublist.cons_cons _ ?_ | refine List.Sublist.cons _ ?_ | refine List.Sublist.trans ?_ (List.sublist_append_right _ _))) ?_
  intro x hx9
  refine TC.lit [(0, _), (4, _), (5, _), (6, _), (14, _), (15, _)] (by repeat (first | exact True.intro | refine And.intro rfl ?_)) ?_
  refine TC.seq ?_
  refine TC.region ?_
  refine TL.pure (PV.lss rfl rfl) rfl (by decide) ?_
  refine TL.nil ?_
  refine TQ.thenC ?_
  refine TC.seq ?_
  first | refine TC.condD rfl (fun hlt => ?_) (fun hlt => ?_) | refine TC.cond rfl (fun hlt => ?_) (fun hlt => ?_)
  · skip
    refine TC.skip ?_
    refine TQ.thenC ?_
    refine TC.seq ?_
    refine TC.block ?_
    refine TC.seq ?_
    have hrk := hx9.2
    have hpl := hrk.pl
    have hrl := hrk.rl
    have hgo : gok hX S 1 (rcs (rwI kh N) x.P) := by rw [← hpl]; exact hrk.go
    have hcap := gok_cap hgo
    have hLl : ((x.P.map x.L).drop x.R.length).length = S - x.R.length := by simp [hpl]
    refine TC.region ?_
    refine TL.pure (PV.move rfl) rfl (by decide) ?_
    refine TL.alloc Tb.zero_3 rfl (by decide) (fun bC hbC => ?_)
    refine TL.store rfl rfl Tb.cells_3 rfl (by repeat (first | exact Upd.head _ | apply Upd.tail | apply Upd.appR)) (by first | decide | (simp; done) | (simp; omega) | omega) rfl rfl ?_
    refine TL.nil ?_
    refine TQ.thenC ?_
    refine TC.seq ?_
    refine TC.region ?_
    refine TL.pure (PV.move rfl) rfl (by decide) ?_
    refine TL.pure (PV.move rfl) rfl (by decide) ?_
    refine TL.pure (PV.sliceG (ys := rcs (rwI kh N) x.P) (l := x.R.length) rfl rfl hgo Tb.elm_97 rfl (by omega)) rfl (by decide) ?_
    refine TL.pure (PV.makeFuncB (pre := []) (caps := [_]) rfl rfl) rfl (by decide) ?_
    refine TL.call rfl Tb.gofn_107 (fun a w hs => (by have h9 := idxRow_ok w (cutA (gp hX) (gc hX) x.R.length 1) (gc hX - x.R.length) ((x.P.map x.L).drop x.R.length) ((LsAt.blk hs.new (fun yy hyy => by repeat (first | exact List.mem_append_left _ hyy | exact List.mem_append_left _ (List.mem_append_right _ hyy) | exact List.mem_append_left _ (List.mem_append_left _ hyy) | refine List.mem_append_right _ ?_ | refine List.Mem.tail _ ?_)) (fun yy hyy => by repeat (first | exact List.mem_append_left _ hyy | exact List.mem_append_left _ (List.mem_append_right _ hyy) | exact List.mem_append_left _ (List.mem_append_left _ hyy) | refine List.mem_append_right _ ?_ | refine List.Mem.tail _ ?_)) hrk.go hpl hrk.pb hrk.ok).cut x.R.length (gc hX) (by rw [List.length_map]; omega)) (by omega) x.c (fun j hj => by rw [dropL hpl (by omega), (hrk.ok _ (hrk.pb _ (by omega))).2]; omega) ⟨bC, 0, none⟩ (hs.new.cell (by repeat (first | exact List.Mem.head _ | refine List.Mem.tail _ ?_ | refine List.mem_append_right _ ?_)) rfl); rw [hLl] at h9; exact h9)) rfl (by decide) (fun i9 hi9 => ?_)
    refine TL.pure (PV.assign rfl) rfl (by decide) ?_
    refine TL.nil ?_
    refine TQ.thenC ?_
    refine TC.seq ?_
    refine TC.seq ?_
    refine TC.region ?_
    refine TL.pure (PV.move rfl) rfl (by decide) ?_
    refine TL.pure (PV.lss rfl rfl) rfl (by decide) ?_
    refine TL.nil ?_
    refine TQ.thenC ?_
    first | refine TC.condD rfl (fun hno => ?_) (fun hno => ?_) | refine TC.cond rfl (fun hno => ?_) (fun hno => ?_)
    · skip
      have hsk : ∀ t, x.R.length ≤ t → t < S → Ab M x.R x.C (x.P.getD t 0) x.c = 0 := fun t h1 h2 => by
          have h5 := fst_no hi9 hno (t - x.R.length) (by omega)
          rw [dropL hpl (by omega), show x.R.length + (t - x.R.length) = t by omega, hrk.lv t h1 h2, mk_at _ (by omega)] at h5
          simpa using h5
      refine TC.exit ?_
      refine TQ.thenE ?_
      refine TQ.blkS ?_
      refine TQ.thenC ?_
      refine TC.region ?_
      refine TL.pure (PV.add rfl rfl (by omega)) rfl (by decide) ?_
      refine TL.pure (PV.move rfl) rfl (by decide) ?_
      refine TL.nil ?_
      refine TQ.thenN ?_
      refine TQ.backK (by first | exact ⟨x.c + 1, (P'.getD x.R.length 0) :: x.R, x.c :: x.C, P', y.2⟩ | exact ⟨x.c + 1, x.R, x.C, x.P, x.L⟩) (by exact And.intro rfl (And.intro rfl (And.intro rfl True.intro))) (by repeat (first | exact True.intro | refine And.intro rfl ?_)) (by exact List.sublist_cons_self _ _) (by first | exact ⟨by simp only; omega, RK.next hrk hsw (by omega) hpc2 hgP hy9.2 (by omega)⟩ | exact ⟨by simp only; omega, hrk.skip hsk⟩) (by simp only; omega)
    · skip
      obtain ⟨k, rfl, hkl, hkv⟩ := fst_yes hi9 hno
      have hkS : x.R.length + k < S := by omega
      rw [dropL hpl hkS, hrk.lv _ (by omega) hkS, mk_at _ (by omega)] at hkv
      have hpc : Ab M x.R x.C (x.P.getD (x.R.length + k) 0) x.c ≠ 0 := by simpa using hkv
      have hsw := hrk.sw hkS
      obtain ⟨P', hP'⟩ : ∃ P', P' = swp x.P x.R.length (x.R.length + k) := ⟨_, rfl⟩
      rw [← hP'] at hsw
      have hpc2 : Ab M x.R x.C (P'.getD x.R.length 0) x.c ≠ 0 := by rw [hsw.p0]; exact hpc
      have hgP : goR (rwI kh N) hX P' := goR_len hrk.go (by rw [hsw.pl, hpl])
      have hgoP : gok hX S 1 (rcs (rwI kh N) P') := by rw [← hsw.pl]; exact hgP
      have hg2 : goR (rwI kh N) hX (x.P.set x.R.length (x.P.getD (x.R.length + k) 0)) := goR_len hrk.go (by simp)
      have hgo2 : gok hX S 1 (rcs (rwI kh N) (x.P.set x.R.length (x.P.getD (x.R.length + k) 0))) := by have h5 := hg2; unfold goR at h5; rw [List.length_set, hpl] at h5; exact h5
      obtain ⟨b9, cap9, sp9, rfl⟩ := hd_some hgo (by omega)
      have hcap9 : S ≤ cap9 := hcap
      refine TC.skip ?_
      refine TQ.thenC ?_
      refine TC.seq ?_
      refine TC.mix [true, true, true, true, true, true, true, true, true, true, true, false, true, true, true, false, false, false, false, false] [(bC, Obj.cells #[.int .i64 x.c] 3 (0, 0))] 6 Tb.mixed rfl (by kernel_rfl) (by kernel_rfl) (by kernel_rfl) (by kernel_rfl) (by repeat (first | exact List.Sublist.slnil | exact List.nil_sublist _ | exact List.Sublist.refl _ | refine List.Sublist.cons_cons _ ?_ | refine List.Sublist.cons _ ?_ | refine List.Sublist.trans ?_ (List.sublist_append_right _ _))) ?_
      refine TB.op (SOK.pure (PV.move rfl) rfl) (by decide) ?_
      refine TB.op (SOK.pure (PV.move rfl) rfl) (by decide) ?_
      refine TB.op (SOK.pure (PV.move rfl) rfl) (by decide) ?_
      refine TB.op (SOK.pure (PV.move rfl) rfl) (by decide) ?_
      refine TB.op (SOK.pure (PV.move rfl) rfl) (by decide) ?_
      refine TB.op (SOK.pure (PV.add rfl rfl (by omega)) rfl) (by decide) ?_
      refine TB.op (SOK.pure (PV.move rfl) rfl) (by decide) ?_
      refine TB.op (SOK.pure (PV.move rfl) rfl) (by decide) ?_
      refine TB.op (SOK.pure (PV.move rfl) rfl) (by decide) ?_
      refine TB.op (SOK.pure (PV.add rfl rfl (by omega)) rfl) (by decide) ?_
      refine TB.op (SOK.pure (PV.indexG (h := some (b9, cap9, sp9)) (len := S) (ys := rcs (rwI kh N) x.P) (j := x.R.length + k) rfl rfl hgo Tb.elm_97 (by omega) (by omega)) rfl) (by decide) ?_
      refine TB.no ?_
      refine TB.op (SOK.pure (PV.move rfl) rfl) (by decide) ?_
      refine TB.op (SOK.pure (PV.move rfl) rfl) (by decide) ?_
      refine TB.op (SOK.pure (PV.indexG (h := some (b9, cap9, sp9)) (len := S) (ys := rcs (rwI kh N) x.P) (j := x.R.length) rfl rfl hgo Tb.elm_97 rfl (by omega)) rfl) (by decide) ?_
      refine TB.no ?_
      refine TB.no ?_
      refine TB.no ?_
      refine TB.no ?_
      refine TB.no ?_
      refine TB.fin ?_
      refine TX.step [11, 15] (by kernel_rfl) (by decide) ⟨⟨_, rfl, ?_⟩, ⟨_, rfl, ?_⟩, trivial⟩
      · skip
        refine TL.pure (PV.loadRecF (R := rwI kh N) (h := some (b9, cap9, sp9)) (l := x.P) (j := x.R.length + k) (f := 0) (v := gval (kh (x.P.getD (x.R.length + k) 0)) N) (e := 25) rfl Tb.one_25 (fun yy hyy => by repeat (first | exact List.mem_append_left _ hyy | exact List.mem_append_left _ (List.mem_append_right _ hyy) | exact List.mem_append_left _ (List.mem_append_left _ hyy) | refine List.mem_append_right _ ?_ | refine List.Mem.tail _ ?_)) hrk.go (by omega) Nat.one_pos rfl) rfl (by decide) ?_
        refine TL.nil ?_
        refine TX.next (.inl (by repeat (first | exact List.Sublist.slnil | exact List.nil_sublist _ | exact List.Sublist.refl _ | refine List.Sublist.cons_cons _ ?_ | refine List.Sublist.cons _ ?_ | refine List.Sublist.trans ?_ (List.sublist_append_right _ _)))) ?_
        refine TX.step [15] (by kernel_rfl) (by decide) ⟨⟨_, rfl, ?_⟩, trivial⟩
        refine TL.pure (PV.loadRecF (R := rwI kh N) (h := some (b9, cap9, sp9)) (l := x.P) (j := x.R.length) (f := 0) (v := gval (kh (x.P.getD x.R.length 0)) N) (e := 25) rfl Tb.one_25 (fun yy hyy => by repeat (first | exact List.mem_append_left _ hyy | exact List.mem_append_left _ (List.mem_append_right _ hyy) | exact List.mem_append_left _ (List.mem_append_left _ hyy) | refine List.mem_append_right _ ?_ | refine List.Mem.tail _ ?_)) hrk.go (by omega) Nat.one_pos rfl) rfl (by decide) ?_
        refine TL.nil ?_
        refine TX.next (.inl (by repeat (first | exact List.Sublist.slnil | exact List.nil_sublist _ | exact List.Sublist.refl _ | refine List.Sublist.cons_cons _ ?_ | refine List.Sublist.cons _ ?_ | refine List.Sublist.trans ?_ (List.sublist_append_right _ _)))) ?_
        refine TX.step [16] (by kernel_rfl) (by decide) ⟨⟨_, rfl, ?_⟩, trivial⟩
        refine TL.pure (PV.indexG (h := some (b9, cap9, sp9)) (len := S) (ys := rcs (rwI kh N) x.P) (j := x.R.length) rfl rfl hgo Tb.elm_97 rfl (by omega)) rfl (by decide) ?_
        refine TL.nil ?_
        refine TX.next (.inl (by repeat (first | exact List.Sublist.slnil | exact List.nil_sublist _ | exact List.Sublist.refl _ | refine List.Sublist.cons_cons _ ?_ | refine List.Sublist.cons _ ?_ | refine List.Sublist.trans ?_ (List.sublist_append_right _ _)))) ?_
        refine TX.step [17] (by kernel_rfl) (by decide) ⟨⟨_, rfl, ?_⟩, trivial⟩
        refine TL.putCell (R := rwI kh N) (h := some (b9, cap9, sp9)) (l0 := x.P) (j := x.R.length) (f := 0) (v := gval (kh (x.P.getD (x.R.length + k) 0)) N) (r := x.P.getD (x.R.length + k) 0) (e := 25) rfl rfl Tb.cells_25 (gval_one _ _) hrk.go rfl (by repeat (first | exact PutH.here _ _ _ _ | apply PutH.tail | apply PutH.app)) (by omega) Nat.one_pos rfl rfl ?_
        refine TL.nil ?_
        refine TX.next (.inl (by repeat (first | exact List.Sublist.slnil | exact List.nil_sublist _ | exact List.Sublist.refl _ | refine List.Sublist.cons_cons _ ?_ | refine List.Sublist.cons _ ?_ | refine List.Sublist.trans ?_ (List.sublist_append_right _ _)))) ?_
        refine TX.step [18] (by kernel_rfl) (by decide) ⟨⟨_, rfl, ?_⟩, trivial⟩
        refine TL.pure (PV.indexG (h := some (b9, cap9, sp9)) (len := S) (ys := rcs (rwI kh N) x.P) (j := x.R.length + k) rfl rfl hgo Tb.elm_97 (by omega) (by omega)) rfl (by decide) ?_
        refine TL.nil ?_
        refine TX.next (.inr (by kernel_rfl)) ?_
        refine TX.step [19] (by kernel_rfl) (by decide) ⟨⟨_, rfl, ?_⟩, trivial⟩
        refine TL.putCell (R := rwI kh N) (h := some (b9, cap9, sp9)) (l0 := x.P.set x.R.length (x.P.getD (x.R.length + k) 0)) (j := x.R.length + k) (f := 0) (v := gval (kh (x.P.getD x.R.length 0)) N) (r := x.P.getD x.R.length 0) (e := 25) rfl rfl Tb.cells_25 (gval_one _ _) hg2 rfl (by repeat (first | exact PutH.here _ _ _ _ | apply PutH.tail | apply PutH.app)) (by rw [List.length_set]; omega) Nat.one_pos rfl rfl ?_
        refine TL.nil ?_
        refine TX.next (.inr (by kernel_rfl)) ?_
        refine TX.done (by kernel_rfl) ?_
        refine TQ.thenC ?_
        refine TC.seq ?_
        rw [show (x.P.set x.R.length (x.P.getD (x.R.length + k) 0)).set (x.R.length + k) (x.P.getD x.R.length 0) = P' from hP'.symm]
        refine TC.region ?_
        refine TL.pure (PV.move rfl) rfl (by decide) ?_
        refine TL.pure (PV.move rfl) rfl (by decide) ?_
        refine TL.pure (PV.indexG (h := some (b9, cap9, sp9)) (len := S) (ys := rcs (rwI kh N) P') (j := x.R.length) rfl rfl hgoP Tb.elm_97 rfl (by omega)) rfl (by decide) ?_
        refine TL.pure (PV.loadRecF (R := rwI kh N) (h := some (b9, cap9, sp9)) (l := P') (j := x.R.length) (f := 0) (v := gval (kh (P'.getD x.R.length 0)) N) (e := 25) rfl Tb.one_25 (fun yy hyy => by repeat (first | exact List.mem_append_left _ hyy | exact List.mem_append_left _ (List.mem_append_right _ hyy) | exact List.mem_append_left _ (List.mem_append_left _ hyy) | refine List.mem_append_right _ ?_ | refine List.Mem.tail _ ?_)) hgP (by have := hsw.pl; omega) Nat.one_pos rfl) rfl (by decide) ?_
        refine TL.pure (PV.assign rfl) rfl (by decide) ?_
        refine TL.nil ?_
        refine TQ.thenC ?_
        refine TC.seq ?_
        refine TC.region ?_
        refine TL.pure (PV.move rfl) rfl (by decide) ?_
        refine TL.pure (PV.add rfl rfl (by omega)) rfl (by decide) ?_
        refine TL.pure (PV.assign rfl) rfl (by decide) ?_
        refine TL.nil ?_
        refine TQ.thenC ?_
        refine TC.seq ?_
        refine TC.seq ?_
        refine TC.region ?_
        refine TL.pure (PV.move rfl) rfl (by decide) ?_
        refine TL.pure (PV.move rfl) rfl (by decide) ?_
        refine TL.pure (PV.sliceG (ys := rcs (rwI kh N) P') (l := x.R.length + 1) rfl rfl hgoP Tb.elm_97 rfl (by omega)) rfl (by decide) ?_
        refine TL.pure (PV.len rfl Tb.sl_97) rfl (by decide) ?_
        refine TL.pure (PV.move rfl) rfl (by decide) ?_
        refine TL.nil ?_
        refine TQ.thenC ?_
        refine TC.block ?_
        refine TC.lit [(0, _), (4, _), (5, _), (6, _), (7, _), (9, _), (14, _), (15, _), (51, _), (52, _), (53, _)] (by repeat (first | exact True.intro | refine And.intro rfl ?_)) ?_
        refine TC.loopK [0, 4, 5, 6, 7, 9, 14, 15, 51, 52] (X := Nat × (Nat → List Int)) (fun y => y.1 ≤ S - (x.R.length + 1) ∧ MD M S N kh x P' y.1 y.2) (fun y => [(53, .int .i64 y.1)]) (fun y => (bC, Obj.cells #[.int .i64 x.c] 3 (0, 0)) :: (blk kh y.2 (List.range S) ++ (gbR (rwI kh N) 25 (some (b9, cap9, sp9)) P' ++ R9))) (fun y => S - (x.R.length + 1) - y.1) (0, x.L) ⟨Nat.zero_le _, MD.zero hrk hsw (by omega)⟩ (by repeat (first | exact True.intro | refine And.intro rfl ?_)) (by repeat (first | exact List.Sublist.slnil | exact List.nil_sublist _ | exact List.Sublist.refl _ | refine List.Sublist.cons_cons _ ?_ | refine List.Sublist.cons _ ?_ | refine List.Sublist.trans ?_ (List.sublist_append_right _ _))) ?_
        intro y hy9
        refine TC.lit [(0, _), (4, _), (5, _), (6, _), (7, _), (9, _), (14, _), (15, _), (51, _), (52, _), (53, _)] (by repeat (first | exact True.intro | refine And.intro rfl ?_)) ?_
        refine TC.seq ?_
        refine TC.region ?_
        refine TL.pure (PV.lss rfl rfl) rfl (by decide) ?_
        refine TL.nil ?_
        refine TQ.thenC ?_
        refine TC.seq ?_
        first | refine TC.condD rfl (fun hlt2 => ?_) (fun hlt2 => ?_) | refine TC.cond rfl (fun hlt2 => ?_) (fun hlt2 => ?_)
        · skip
          refine TC.skip ?_
          refine TQ.thenC ?_
          refine TC.seq ?_
          refine TC.block ?_
          refine TC.seq ?_
          have hq1p : cutA (gp (some (b9, cap9, sp9))) (gc (some (b9, cap9, sp9))) (x.R.length + 1) 1 = some (Addr.add ⟨b9, 0, none⟩ ((x.R.length + 1) * 1)) := if_neg (by show ¬ cap9 = _; omega)
          have hIu : x.R.length + 1 + y.1 < S := by omega
          have hI : (P'.getD (x.R.length + 1 + y.1) 0) < S := hsw.pb _ hIu
          have hmd := hy9.2
          have hyI : y.2 (P'.getD (x.R.length + 1 + y.1) 0) = mk N (Ab M x.R x.C (P'.getD (x.R.length + 1 + y.1) 0)) := hmd.td _ (by omega) hIu
          have hP9 := hsw.pl
          refine TC.region ?_
          refine TL.pure (PV.indexA (j := y.1) rfl hq1p rfl Tb.elm_97 rfl (by omega)) rfl (by decide) ?_
          refine TL.pure (PV.loadRecF (R := rwI kh N) (h := some (b9, cap9, sp9)) (l := P') (j := x.R.length + 1 + y.1) (f := 0) (v := gval (kh (P'.getD (x.R.length + 1 + y.1) 0)) N) (e := 25) (congrArg (fun z => some (Value.pointer (some z))) (addr_slot b9 x.R.length y.1)) Tb.one_25 (fun yy hyy => by repeat (first | exact List.mem_append_left _ hyy | exact List.mem_append_left _ (List.mem_append_right _ hyy) | exact List.mem_append_left _ (List.mem_append_left _ hyy) | refine List.mem_append_right _ ?_ | refine List.Mem.tail _ ?_)) hgP (by omega) Nat.one_pos rfl) rfl (by decide) ?_
          refine TL.pure (PV.assign rfl) rfl (by decide) ?_
          refine TL.nil ?_
          refine TQ.thenC ?_
          refine TC.seq ?_
          have hsplit : blk kh y.2 (List.range S) ++ (gbR (rwI kh N) 25 (some (b9, cap9, sp9)) P' ++ R9) = blk kh y.2 (preI (P'.getD (x.R.length + 1 + y.1) 0)) ++ (gbI (kh (P'.getD (x.R.length + 1 + y.1) 0), mk N (Ab M x.R x.C (P'.getD (x.R.length + 1 + y.1) 0))) ++ (blk kh y.2 (posI S (P'.getD (x.R.length + 1 + y.1) 0)) ++ (gbR (rwI kh N) 25 (some (b9, cap9, sp9)) P' ++ R9))) := by have h5 := blk_at (hs := kh) (L := y.2) hI (y.2 (P'.getD (x.R.length + 1 + y.1) 0)) (gbR (rwI kh N) 25 (some (b9, cap9, sp9)) P' ++ R9); rw [upL_self, hyI] at h5; exact h5
          rw [hsplit]
          have hgI0 := (hmd.ok _ hI).1
          rw [hyI] at hgI0
          have hgI : gok (kh (P'.getD (x.R.length + 1 + y.1) 0)) N 1 (ival (mk N (Ab M x.R x.C (P'.getD (x.R.length + 1 + y.1) 0)))) := by have h5 := hgI0; unfold goI at h5; rw [mk_len] at h5; exact h5
          have hpS : (P'.getD x.R.length 0) < S := hsw.pb _ (by omega)
          have hgp0 := (hmd.ok _ hpS).1
          rw [hmd.hp] at hgp0
          have hgp : gok (kh (P'.getD x.R.length 0)) N 1 (ival (mk N (Ab M x.R x.C (P'.getD x.R.length 0)))) := by have h5 := hgp0; unfold goI at h5; rw [mk_len] at h5; exact h5
          have hpI : (P'.getD x.R.length 0) ≠ (P'.getD (x.R.length + 1 + y.1) 0) := fun e => by have := hsw.pi _ _ (by omega) hIu e; omega
          have hpm : ∀ z ∈ gbI (kh (P'.getD x.R.length 0), mk N (Ab M x.R x.C (P'.getD x.R.length 0))), z ∈ blk kh y.2 (preI (P'.getD (x.R.length + 1 + y.1) 0)) ∨ z ∈ blk kh y.2 (posI S (P'.getD (x.R.length + 1 + y.1) 0)) := fun z hz => by rw [← hmd.hp] at hz; exact (mem_pp hpS hpI).imp (fun h => blk_mem h z hz) (fun h => blk_mem h z hz)
          have hB1 := Ab_bd hM (R := x.R) (C := x.C) (show x.R.length < 6 by omega) (P'.getD x.R.length 0) x.c
          have hB2 := Ab_bd hM (R := x.R) (C := x.C) (show x.R.length < 6 by omega) (P'.getD (x.R.length + 1 + y.1) 0) x.c
          refine TC.region ?_
          refine TL.pure (PV.move rfl) rfl (by decide) ?_
          refine TL.pure (PV.load rfl Tb.one_3 (by repeat (first | exact List.Mem.head _ | refine List.Mem.tail _ ?_ | refine List.mem_append_right _ ?_)) rfl) rfl (by decide) ?_
          refine TL.pure (PV.indexG (h := kh (P'.getD (x.R.length + 1 + y.1) 0)) (len := N) (ys := ival (mk N (Ab M x.R x.C (P'.getD (x.R.length + 1 + y.1) 0)))) (j := x.c) rfl rfl hgI Tb.elm_25 rfl (by omega)) rfl (by decide) ?_
          refine TL.pure (PV.loadGI (y := (kh (P'.getD (x.R.length + 1 + y.1) 0), mk N (Ab M x.R x.C (P'.getD (x.R.length + 1 + y.1) 0)))) (j := x.c) (v := (Ab M x.R x.C (P'.getD (x.R.length + 1 + y.1) 0)) x.c) rfl Tb.one_3 (fun yy hyy => by repeat (first | exact List.mem_append_left _ hyy | exact List.mem_append_left _ (List.mem_append_right _ hyy) | exact List.mem_append_left _ (List.mem_append_left _ hyy) | refine List.mem_append_right _ ?_ | refine List.Mem.tail _ ?_)) hgI0 (by show x.c < (mk N _).length; rw [mk_len]; omega) (mk_at _ (by omega))) rfl (by decide) ?_
          refine TL.pure (PV.assign rfl) rfl (by decide) ?_
          refine TL.nil ?_
          refine TQ.thenC ?_
          refine TC.seq ?_
          refine TC.region ?_
          refine TL.pure (PV.move rfl) rfl (by decide) ?_
          refine TL.pure (PV.lenG (h := kh (P'.getD (x.R.length + 1 + y.1) 0)) (len := N) (ys := ival (mk N (Ab M x.R x.C (P'.getD (x.R.length + 1 + y.1) 0)))) rfl hgI Tb.sl_25) rfl (by decide) ?_
          refine TL.pure (PV.move rfl) rfl (by decide) ?_
          refine TL.nil ?_
          refine TQ.thenC ?_
          refine TC.block ?_
          refine TC.lit [(0, _), (4, _), (5, _), (6, _), (7, _), (9, _), (11, _), (12, _), (14, _), (15, _), (51, _), (52, _), (53, _), (62, _), (63, _)] (by repeat (first | exact True.intro | refine And.intro rfl ?_)) ?_
          refine TC.loopK [0, 4, 5, 6, 7, 9, 11, 12, 14, 15, 51, 52, 53, 62] (X := Nat) (fun j => j ≤ N) (fun j => [(63, .int .i64 j)]) (fun j => (bC, Obj.cells #[.int .i64 x.c] 3 (0, 0)) :: (blk kh y.2 (preI (P'.getD (x.R.length + 1 + y.1) 0)) ++ (gbI (kh (P'.getD (x.R.length + 1 + y.1) 0), mk N (mx (Ab M ((P'.getD x.R.length 0) :: x.R) (x.c :: x.C) (P'.getD (x.R.length + 1 + y.1) 0)) (Ab M x.R x.C (P'.getD (x.R.length + 1 + y.1) 0)) j)) ++ (blk kh y.2 (posI S (P'.getD (x.R.length + 1 + y.1) 0)) ++ (gbR (rwI kh N) 25 (some (b9, cap9, sp9)) P' ++ R9))))) (fun j => N - j) 0 (Nat.zero_le _) (by repeat (first | exact True.intro | refine And.intro rfl ?_)) (by show List.Sublist (_ :: (_ ++ (gbI (kh (P'.getD (x.R.length + 1 + y.1) 0), mk N (mx (Ab M ((P'.getD x.R.length 0) :: x.R) (x.c :: x.C) (P'.getD (x.R.length + 1 + y.1) 0)) (Ab M x.R x.C (P'.getD (x.R.length + 1 + y.1) 0)) 0)) ++ _))) _; rw [mx_zero]; exact List.Sublist.refl _) ?_
          intro j hj9
          refine TC.lit [(0, _), (4, _), (5, _), (6, _), (7, _), (9, _), (11, _), (12, _), (14, _), (15, _), (51, _), (52, _), (53, _), (62, _), (63, _)] (by repeat (first | exact True.intro | refine And.intro rfl ?_)) ?_
          refine TC.seq ?_
          refine TC.region ?_
          refine TL.pure (PV.lss rfl rfl) rfl (by decide) ?_
          refine TL.nil ?_
          refine TQ.thenC ?_
          refine TC.seq ?_
          first | refine TC.condD rfl (fun hlt3 => ?_) (fun hlt3 => ?_) | refine TC.cond rfl (fun hlt3 => ?_) (fun hlt3 => ?_)
          · skip
            refine TC.skip ?_
            refine TQ.thenC ?_
            refine TC.seq ?_
            refine TC.block ?_
            refine TC.seq ?_
            refine TC.region ?_
            refine TL.pure (PV.move rfl) rfl (by decide) ?_
            refine TL.pure (PV.assign rfl) rfl (by decide) ?_
            refine TL.nil ?_
            refine TQ.thenC ?_
            have hB3 := Ab_bd hM (R := x.R) (C := x.C) (show x.R.length < 6 by omega) (P'.getD (x.R.length + 1 + y.1) 0) j
            have hB4 := Ab_bd hM (R := x.R) (C := x.C) (show x.R.length < 6 by omega) (P'.getD x.R.length 0) j
            have hB5 := Ab_bd hM (R := (P'.getD x.R.length 0) :: x.R) (C := x.c :: x.C) (show ((P'.getD x.R.length 0) :: x.R).length < 6 by rw [List.length_cons]; omega) (P'.getD (x.R.length + 1 + y.1) 0) j
            have hm1 := mul_bd2 hB1 hB3 (by decide) (by decide)
            have hm2 := mul_bd2 hB2 hB4 (by decide) (by decide)
            have hex := hrk.el.ex (mem_drop.2 (by obtain ⟨v, h1, h2, e⟩ := hsw.pv x.R.length (Nat.le_refl _) (by omega); exact ⟨v, h1, by omega, e.symm⟩)) (mem_drop.2 (by obtain ⟨v, h1, h2, e⟩ := hsw.pv (x.R.length + 1 + y.1) (by omega) hIu; exact ⟨v, h1, by omega, e.symm⟩)) hpc2 j
            unfold uR at hex
            have hdiv : ((Ab M x.R x.C (P'.getD x.R.length 0)) x.c * (Ab M x.R x.C (P'.getD (x.R.length + 1 + y.1) 0)) j - (Ab M x.R x.C (P'.getD (x.R.length + 1 + y.1) 0)) x.c * (Ab M x.R x.C (P'.getD x.R.length 0)) j).tdiv (Dn M x.R x.C) = (Ab M ((P'.getD x.R.length 0) :: x.R) (x.c :: x.C) (P'.getD (x.R.length + 1 + y.1) 0)) j := by rw [← hex]; exact Int.mul_tdiv_cancel_left _ hrk.el.d
            have hgj : goI (kh (P'.getD (x.R.length + 1 + y.1) 0), mk N (mx (Ab M ((P'.getD x.R.length 0) :: x.R) (x.c :: x.C) (P'.getD (x.R.length + 1 + y.1) 0)) (Ab M x.R x.C (P'.getD (x.R.length + 1 + y.1) 0)) j)) := go_lenI hgI0 (by rw [mk_len, mk_len])
            have hgjN : gok (kh (P'.getD (x.R.length + 1 + y.1) 0)) N 1 (ival (mk N (mx (Ab M ((P'.getD x.R.length 0) :: x.R) (x.c :: x.C) (P'.getD (x.R.length + 1 + y.1) 0)) (Ab M x.R x.C (P'.getD (x.R.length + 1 + y.1) 0)) j))) := by have h5 := hgj; unfold goI at h5; rw [mk_len] at h5; exact h5
            have hmj : (mk N (mx (Ab M ((P'.getD x.R.length 0) :: x.R) (x.c :: x.C) (P'.getD (x.R.length + 1 + y.1) 0)) (Ab M x.R x.C (P'.getD (x.R.length + 1 + y.1) 0)) j)).getD j 0 = (Ab M x.R x.C (P'.getD (x.R.length + 1 + y.1) 0)) j := (mk_at _ (by omega)).trans (if_neg (Nat.lt_irrefl _))
            refine TC.draw 21 Tb.mixed (by kernel_rfl) ?_
            simp only [List.take_succ_cons, List.take_zero, List.drop_succ_cons, List.drop_zero]
            refine TS.pure (PV.move rfl) rfl (by decide) ?_
            refine TS.pure (PV.move rfl) rfl (by decide) ?_
            refine TS.pure (PV.move rfl) rfl (by decide) ?_
            refine TS.pure (PV.load rfl Tb.one_3 (by repeat (first | exact List.Mem.head _ | refine List.Mem.tail _ ?_ | refine List.mem_append_right _ ?_)) rfl) rfl (by decide) ?_
            refine TS.pure (PV.indexG (h := kh (P'.getD x.R.length 0)) (len := N) (ys := ival (mk N (Ab M x.R x.C (P'.getD x.R.length 0)))) (j := x.c) rfl rfl hgp Tb.elm_25 rfl (by omega)) rfl (by decide) ?_
            refine TS.pure (PV.loadGI (y := (kh (P'.getD x.R.length 0), mk N (Ab M x.R x.C (P'.getD x.R.length 0)))) (j := x.c) (v := (Ab M x.R x.C (P'.getD x.R.length 0)) x.c) rfl Tb.one_3 (fun y8 h8 => (hpm y8 h8).elim (fun h7 => List.mem_cons_of_mem _ (List.mem_append_left _ h7)) (fun h7 => List.mem_cons_of_mem _ (List.mem_append_right _ (List.mem_append_right _ (List.mem_append_left _ h7))))) hgp0 (by show x.c < (mk N _).length; rw [mk_len]; omega) (mk_at _ (by omega))) rfl (by decide) ?_
            refine TS.pure (PV.move rfl) rfl (by decide) ?_
            refine TS.pure (PV.move rfl) rfl (by decide) ?_
            refine TS.pure (PV.indexG (h := kh (P'.getD (x.R.length + 1 + y.1) 0)) (len := N) (ys := ival (mk N (mx (Ab M ((P'.getD x.R.length 0) :: x.R) (x.c :: x.C) (P'.getD (x.R.length + 1 + y.1) 0)) (Ab M x.R x.C (P'.getD (x.R.length + 1 + y.1) 0)) j))) (j := j) rfl rfl hgjN Tb.elm_25 rfl (by omega)) rfl (by decide) ?_
            refine TS.pure (PV.loadGI (y := (kh (P'.getD (x.R.length + 1 + y.1) 0), mk N (mx (Ab M ((P'.getD x.R.length 0) :: x.R) (x.c :: x.C) (P'.getD (x.R.length + 1 + y.1) 0)) (Ab M x.R x.C (P'.getD (x.R.length + 1 + y.1) 0)) j))) (j := j) (v := (Ab M x.R x.C (P'.getD (x.R.length + 1 + y.1) 0)) j) rfl Tb.one_3 (fun yy hyy => by repeat (first | exact List.mem_append_left _ hyy | exact List.mem_append_left _ (List.mem_append_right _ hyy) | exact List.mem_append_left _ (List.mem_append_left _ hyy) | refine List.mem_append_right _ ?_ | refine List.Mem.tail _ ?_)) hgj (by show j < (mk N _).length; rw [mk_len]; omega) hmj) rfl (by decide) ?_
            refine TS.pure (PV.mul rfl rfl (by omega)) rfl (by decide) ?_
            refine TS.pure (PV.move rfl) rfl (by decide) ?_
            refine TS.pure (PV.move rfl) rfl (by decide) ?_
            refine TS.pure (PV.move rfl) rfl (by decide) ?_
            refine TS.pure (PV.indexG (h := kh (P'.getD x.R.length 0)) (len := N) (ys := ival (mk N (Ab M x.R x.C (P'.getD x.R.length 0)))) (j := j) rfl rfl hgp Tb.elm_25 rfl (by omega)) rfl (by decide) ?_
            refine TS.pure (PV.loadGI (y := (kh (P'.getD x.R.length 0), mk N (Ab M x.R x.C (P'.getD x.R.length 0)))) (j := j) (v := (Ab M x.R x.C (P'.getD x.R.length 0)) j) rfl Tb.one_3 (fun y8 h8 => (hpm y8 h8).elim (fun h7 => List.mem_cons_of_mem _ (List.mem_append_left _ h7)) (fun h7 => List.mem_cons_of_mem _ (List.mem_append_right _ (List.mem_append_right _ (List.mem_append_left _ h7))))) hgp0 (by show j < (mk N _).length; rw [mk_len]; omega) (mk_at _ (by omega))) rfl (by decide) ?_
            refine TS.pure (PV.mul rfl rfl (by omega)) rfl (by decide) ?_
            refine TS.pure (PV.sub rfl rfl (by omega)) rfl (by decide) ?_
            refine TS.pure (PV.move rfl) rfl (by decide) ?_
            refine TS.pure (PV.quo rfl rfl hrk.el.d (by rw [hdiv]; omega)) rfl (by decide) ?_
            refine TS.pure (PV.indexG (h := kh (P'.getD (x.R.length + 1 + y.1) 0)) (len := N) (ys := ival (mk N (mx (Ab M ((P'.getD x.R.length 0) :: x.R) (x.c :: x.C) (P'.getD (x.R.length + 1 + y.1) 0)) (Ab M x.R x.C (P'.getD (x.R.length + 1 + y.1) 0)) j))) (j := j) rfl rfl hgjN Tb.elm_25 rfl (by omega)) rfl (by decide) ?_
            refine TS.nil ?_
            refine TL.putI (h := kh (P'.getD (x.R.length + 1 + y.1) 0)) (xs := mk N (mx (Ab M ((P'.getD x.R.length 0) :: x.R) (x.c :: x.C) (P'.getD (x.R.length + 1 + y.1) 0)) (Ab M x.R x.C (P'.getD (x.R.length + 1 + y.1) 0)) j)) (xs' := mk N (mx (Ab M ((P'.getD x.R.length 0) :: x.R) (x.c :: x.C) (P'.getD (x.R.length + 1 + y.1) 0)) (Ab M x.R x.C (P'.getD (x.R.length + 1 + y.1) 0)) (j + 1))) (j := j) rfl rfl Tb.cells_3 hgj (mx_set (by omega) hdiv) (by repeat (first | exact PutH.here _ _ _ _ | apply PutH.tail | apply PutH.app)) (by rw [mk_len]; omega) rfl rfl ?_
            refine TL.nil ?_
            refine TQ.blkN ?_
            refine TQ.thenC ?_
            refine TC.region ?_
            refine TL.pure (PV.add rfl rfl (by omega)) rfl (by decide) ?_
            refine TL.pure (PV.move rfl) rfl (by decide) ?_
            refine TL.nil ?_
            refine TQ.thenN ?_
            refine TQ.backK (j + 1) (by repeat (first | exact True.intro | refine And.intro rfl ?_)) (by repeat (first | exact True.intro | refine And.intro rfl ?_)) (List.Sublist.refl _) (by omega) (by omega)
          · skip
            refine TC.exit ?_
            refine TQ.thenE ?_
            refine TQ.thenE ?_
            refine TQ.blkS ?_
            refine TQ.blkN ?_
            refine TQ.thenC ?_
            refine TC.region ?_
            refine TL.pure (PV.add rfl rfl (by omega)) rfl (by decide) ?_
            refine TL.pure (PV.move rfl) rfl (by decide) ?_
            refine TL.nil ?_
            refine TQ.thenN ?_
            refine TQ.backK (y.1 + 1, upL y.2 (P'.getD (x.R.length + 1 + y.1) 0) (mk N (Ab M ((P'.getD x.R.length 0) :: x.R) (x.c :: x.C) (P'.getD (x.R.length + 1 + y.1) 0)))) (by repeat (first | exact True.intro | refine And.intro rfl ?_)) (by repeat (first | exact True.intro | refine And.intro rfl ?_)) (by show List.Sublist (_ :: (blk kh (upL y.2 (P'.getD (x.R.length + 1 + y.1) 0) (mk N (Ab M ((P'.getD x.R.length 0) :: x.R) (x.c :: x.C) (P'.getD (x.R.length + 1 + y.1) 0)))) (List.range S) ++ _)) _; rw [blk_at hI, ← mx_all (f := (Ab M ((P'.getD x.R.length 0) :: x.R) (x.c :: x.C) (P'.getD (x.R.length + 1 + y.1) 0))) (g := (Ab M x.R x.C (P'.getD (x.R.length + 1 + y.1) 0))) (show N ≤ j by omega)]; exact List.Sublist.refl _) ⟨by simp only; omega, md_step hy9.2 hsw (by omega) rfl⟩ (by simp only; omega)
        · skip
          refine TC.exit ?_
          refine TQ.thenE ?_
          refine TQ.thenE ?_
          refine TQ.blkS ?_
          refine TQ.thenC ?_
          have hpS : (P'.getD x.R.length 0) < S := hsw.pb _ (by omega)
          have hgp0 := (hy9.2.ok _ hpS).1
          rw [hy9.2.hp] at hgp0
          have hgp : gok (kh (P'.getD x.R.length 0)) N 1 (ival (mk N (Ab M x.R x.C (P'.getD x.R.length 0)))) := by have h5 := hgp0; unfold goI at h5; rw [mk_len] at h5; exact h5
          have hpm2 : ∀ z ∈ gbI (kh (P'.getD x.R.length 0), mk N (Ab M x.R x.C (P'.getD x.R.length 0))), z ∈ blk kh y.2 (List.range S) := fun z hz => by rw [← hy9.2.hp] at hz; exact blk_mem (List.mem_range.2 hpS) z hz
          refine TC.region ?_
          refine TL.pure (PV.move rfl) rfl (by decide) ?_
          refine TL.pure (PV.load rfl Tb.one_3 (by repeat (first | exact List.Mem.head _ | refine List.Mem.tail _ ?_ | refine List.mem_append_right _ ?_)) rfl) rfl (by decide) ?_
          refine TL.pure (PV.indexG (h := kh (P'.getD x.R.length 0)) (len := N) (ys := ival (mk N (Ab M x.R x.C (P'.getD x.R.length 0)))) (j := x.c) rfl rfl hgp Tb.elm_25 rfl (by omega)) rfl (by decide) ?_
          refine TL.pure (PV.loadGI (y := (kh (P'.getD x.R.length 0), mk N (Ab M x.R x.C (P'.getD x.R.length 0)))) (j := x.c) (v := (Ab M x.R x.C (P'.getD x.R.length 0)) x.c) rfl Tb.one_3 (fun y8 h8 => by have h7 := hpm2 y8 h8; simp [h7]) hgp0 (by show x.c < (mk N _).length; rw [mk_len]; omega) (mk_at _ (by omega))) rfl (by decide) ?_
          refine TL.pure (PV.assign rfl) rfl (by decide) ?_
          refine TL.nil ?_
          refine TQ.blkN ?_
          refine TQ.thenC ?_
          refine TC.region ?_
          refine TL.pure (PV.add rfl rfl (by omega)) rfl (by decide) ?_
          refine TL.pure (PV.move rfl) rfl (by decide) ?_
          refine TL.nil ?_
          refine TQ.thenN ?_
          refine TQ.backK (by first | exact ⟨x.c + 1, (P'.getD x.R.length 0) :: x.R, x.c :: x.C, P', y.2⟩ | exact ⟨x.c + 1, x.R, x.C, x.P, x.L⟩) (by exact And.intro rfl (And.intro rfl (And.intro rfl True.intro))) (by repeat (first | exact True.intro | refine And.intro rfl ?_)) (by exact List.sublist_cons_self _ _) (by first | exact ⟨by simp only; omega, RK.next hrk hsw (by omega) hpc2 hgP hy9.2 (by omega)⟩ | exact ⟨by simp only; omega, hrk.skip hsk⟩) (by simp only; omega)
      · skip
        refine TL.pure (PV.loadRecF (R := rwI kh N) (h := some (b9, cap9, sp9)) (l := x.P) (j := x.R.length) (f := 0) (v := gval (kh (x.P.getD x.R.length 0)) N) (e := 25) rfl Tb.one_25 (fun yy hyy => by repeat (first | exact List.mem_append_left _ hyy | exact List.mem_append_left _ (List.mem_append_right _ hyy) | exact List.mem_append_left _ (List.mem_append_left _ hyy) | refine List.mem_append_right _ ?_ | refine List.Mem.tail _ ?_)) hrk.go (by omega) Nat.one_pos rfl) rfl (by decide) ?_
        refine TL.nil ?_
        refine TX.next (.inl (by repeat (first | exact List.Sublist.slnil | exact List.nil_sublist _ | exact List.Sublist.refl _ | refine List.Sublist.cons_cons _ ?_ | refine List.Sublist.cons _ ?_ | refine List.Sublist.trans ?_ (List.sublist_append_right _ _)))) ?_
        refine TX.step [11] (by kernel_rfl) (by decide) ⟨⟨_, rfl, ?_⟩, trivial⟩
        refine TL.pure (PV.loadRecF (R := rwI kh N) (h := some (b9, cap9, sp9)) (l := x.P) (j := x.R.length + k) (f := 0) (v := gval (kh (x.P.getD (x.R.length + k) 0)) N) (e := 25) rfl Tb.one_25 (fun yy hyy => by repeat (first | exact List.mem_append_left _ hyy | exact List.mem_append_left _ (List.mem_append_right _ hyy) | exact List.mem_append_left _ (List.mem_append_left _ hyy) | refine List.mem_append_right _ ?_ | refine List.Mem.tail _ ?_)) hrk.go (by omega) Nat.one_pos rfl) rfl (by decide) ?_
        refine TL.nil ?_
        refine TX.next (.inl (by repeat (first | exact List.Sublist.slnil | exact List.nil_sublist _ | exact List.Sublist.refl _ | refine List.Sublist.cons_cons _ ?_ | refine List.Sublist.cons _ ?_ | refine List.Sublist.trans ?_ (List.sublist_append_right _ _)))) ?_
        refine TX.step [16] (by kernel_rfl) (by decide) ⟨⟨_, rfl, ?_⟩, trivial⟩
        refine TL.pure (PV.indexG (h := some (b9, cap9, sp9)) (len := S) (ys := rcs (rwI kh N) x.P) (j := x.R.length) rfl rfl hgo Tb.elm_97 rfl (by omega)) rfl (by decide) ?_
        refine TL.nil ?_
        refine TX.next (.inl (by repeat (first | exact List.Sublist.slnil | exact List.nil_sublist _ | exact List.Sublist.refl _ | refine List.Sublist.cons_cons _ ?_ | refine List.Sublist.cons _ ?_ | refine List.Sublist.trans ?_ (List.sublist_append_right _ _)))) ?_
        refine TX.step [17] (by kernel_rfl) (by decide) ⟨⟨_, rfl, ?_⟩, trivial⟩
        refine TL.putCell (R := rwI kh N) (h := some (b9, cap9, sp9)) (l0 := x.P) (j := x.R.length) (f := 0) (v := gval (kh (x.P.getD (x.R.length + k) 0)) N) (r := x.P.getD (x.R.length + k) 0) (e := 25) rfl rfl Tb.cells_25 (gval_one _ _) hrk.go rfl (by repeat (first | exact PutH.here _ _ _ _ | apply PutH.tail | apply PutH.app)) (by omega) Nat.one_pos rfl rfl ?_
        refine TL.nil ?_
        refine TX.next (.inl (by repeat (first | exact List.Sublist.slnil | exact List.nil_sublist _ | exact List.Sublist.refl _ | refine List.Sublist.cons_cons _ ?_ | refine List.Sublist.cons _ ?_ | refine List.Sublist.trans ?_ (List.sublist_append_right _ _)))) ?_
        refine TX.step [18] (by kernel_rfl) (by decide) ⟨⟨_, rfl, ?_⟩, trivial⟩
        refine TL.pure (PV.indexG (h := some (b9, cap9, sp9)) (len := S) (ys := rcs (rwI kh N) x.P) (j := x.R.length + k) rfl rfl hgo Tb.elm_97 (by omega) (by omega)) rfl (by decide) ?_
        refine TL.nil ?_
        refine TX.next (.inr (by kernel_rfl)) ?_
        refine TX.step [19] (by kernel_rfl) (by decide) ⟨⟨_, rfl, ?_⟩, trivial⟩
        refine TL.putCell (R := rwI kh N) (h := some (b9, cap9, sp9)) (l0 := x.P.set x.R.length (x.P.getD (x.R.length + k) 0)) (j := x.R.length + k) (f := 0) (v := gval (kh (x.P.getD x.R.length 0)) N) (r := x.P.getD x.R.length 0) (e := 25) rfl rfl Tb.cells_25 (gval_one _ _) hg2 rfl (by repeat (first | exact PutH.here _ _ _ _ | apply PutH.tail | apply PutH.app)) (by rw [List.length_set]; omega) Nat.one_pos rfl rfl ?_
        refine TL.nil ?_
        refine TX.next (.inr (by kernel_rfl)) ?_
        refine TX.done (by kernel_rfl) ?_
        refine TQ.thenC ?_
        refine TC.seq ?_
        rw [show (x.P.set x.R.length (x.P.getD (x.R.length + k) 0)).set (x.R.length + k) (x.P.getD x.R.length 0) = P' from hP'.symm]
        refine TC.region ?_
        refine TL.pure (PV.move rfl) rfl (by decide) ?_
        refine TL.pure (PV.move rfl) rfl (by decide) ?_
        refine TL.pure (PV.indexG (h := some (b9, cap9, sp9)) (len := S) (ys := rcs (rwI kh N) P') (j := x.R.length) rfl rfl hgoP Tb.elm_97 rfl (by omega)) rfl (by decide) ?_
        refine TL.pure (PV.loadRecF (R := rwI kh N) (h := some (b9, cap9, sp9)) (l := P') (j := x.R.length) (f := 0) (v := gval (kh (P'.getD x.R.length 0)) N) (e := 25) rfl Tb.one_25 (fun yy hyy => by repeat (first | exact List.mem_append_left _ hyy | exact List.mem_append_left _ (List.mem_append_right _ hyy) | exact List.mem_append_left _ (List.mem_append_left _ hyy) | refine List.mem_append_right _ ?_ | refine List.Mem.tail _ ?_)) hgP (by have := hsw.pl; omega) Nat.one_pos rfl) rfl (by decide) ?_
        refine TL.pure (PV.assign rfl) rfl (by decide) ?_
        refine TL.nil ?_
        refine TQ.thenC ?_
        refine TC.seq ?_
        refine TC.region ?_
        refine TL.pure (PV.move rfl) rfl (by decide) ?_
        refine TL.pure (PV.add rfl rfl (by omega)) rfl (by decide) ?_
        refine TL.pure (PV.assign rfl) rfl (by decide) ?_
        refine TL.nil ?_
        refine TQ.thenC ?_
        refine TC.seq ?_
        refine TC.seq ?_
        refine TC.region ?_
        refine TL.pure (PV.move rfl) rfl (by decide) ?_
        refine TL.pure (PV.move rfl) rfl (by decide) ?_
        refine TL.pure (PV.sliceG (ys := rcs (rwI kh N) P') (l := x.R.length + 1) rfl rfl hgoP Tb.elm_97 rfl (by omega)) rfl (by decide) ?_
        refine TL.pure (PV.len rfl Tb.sl_97) rfl (by decide) ?_
        refine TL.pure (PV.move rfl) rfl (by decide) ?_
        refine TL.nil ?_
        refine TQ.thenC ?_
        refine TC.block ?_
        refine TC.lit [(0, _), (4, _), (5, _), (6, _), (7, _), (9, _), (14, _), (15, _), (51, _), (52, _), (53, _)] (by repeat (first | exact True.intro | refine And.intro rfl ?_)) ?_
        refine TC.loopK [0, 4, 5, 6, 7, 9, 14, 15, 51, 52] (X := Nat × (Nat → List Int)) (fun y => y.1 ≤ S - (x.R.length + 1) ∧ MD M S N kh x P' y.1 y.2) (fun y => [(53, .int .i64 y.1)]) (fun y => (bC, Obj.cells #[.int .i64 x.c] 3 (0, 0)) :: (blk kh y.2 (List.range S) ++ (gbR (rwI kh N) 25 (some (b9, cap9, sp9)) P' ++ R9))) (fun y => S - (x.R.length + 1) - y.1) (0, x.L) ⟨Nat.zero_le _, MD.zero hrk hsw (by omega)⟩ (by repeat (first | exact True.intro | refine And.intro rfl ?_)) (by repeat (first | exact List.Sublist.slnil | exact List.nil_sublist _ | exact List.Sublist.refl _ | refine List.Sublist.cons_cons _ ?_ | refine List.Sublist.cons _ ?_ | refine List.Sublist.trans ?_ (List.sublist_append_right _ _))) ?_
        intro y hy9
        refine TC.lit [(0, _), (4, _), (5, _), (6, _), (7, _), (9, _), (14, _), (15, _), (51, _), (52, _), (53, _)] (by repeat (first | exact True.intro | refine And.intro rfl ?_)) ?_
        refine TC.seq ?_
        refine TC.region ?_
        refine TL.pure (PV.lss rfl rfl) rfl (by decide) ?_
        refine TL.nil ?_
        refine TQ.thenC ?_
        refine TC.seq ?_
        first | refine TC.condD rfl (fun hlt2 => ?_) (fun hlt2 => ?_) | refine TC.cond rfl (fun hlt2 => ?_) (fun hlt2 => ?_)
        · skip
          refine TC.skip ?_
          refine TQ.thenC ?_
          refine TC.seq ?_
          refine TC.block ?_
          refine TC.seq ?_
          have hq1p : cutA (gp (some (b9, cap9, sp9))) (gc (some (b9, cap9, sp9))) (x.R.length + 1) 1 = some (Addr.add ⟨b9, 0, none⟩ ((x.R.length + 1) * 1)) := if_neg (by show ¬ cap9 = _; omega)
          have hIu : x.R.length + 1 + y.1 < S := by omega
          have hI : (P'.getD (x.R.length + 1 + y.1) 0) < S := hsw.pb _ hIu
          have hmd := hy9.2
          have hyI : y.2 (P'.getD (x.R.length + 1 + y.1) 0) = mk N (Ab M x.R x.C (P'.getD (x.R.length + 1 + y.1) 0)) := hmd.td _ (by omega) hIu
          have hP9 := hsw.pl
          refine TC.region ?_
          refine TL.pure (PV.indexA (j := y.1) rfl hq1p rfl Tb.elm_97 rfl (by omega)) rfl (by decide) ?_
          refine TL.pure (PV.loadRecF (R := rwI kh N) (h := some (b9, cap9, sp9)) (l := P') (j := x.R.length + 1 + y.1) (f := 0) (v := gval (kh (P'.getD (x.R.length + 1 + y.1) 0)) N) (e := 25) (congrArg (fun z => some (Value.pointer (some z))) (addr_slot b9 x.R.length y.1)) Tb.one_25 (fun yy hyy => by repeat (first | exact List.mem_append_left _ hyy | exact List.mem_append_left _ (List.mem_append_right _ hyy) | exact List.mem_append_left _ (List.mem_append_left _ hyy) | refine List.mem_append_right _ ?_ | refine List.Mem.tail _ ?_)) hgP (by omega) Nat.one_pos rfl) rfl (by decide) ?_
          refine TL.pure (PV.assign rfl) rfl (by decide) ?_
          refine TL.nil ?_
          refine TQ.thenC ?_
          refine TC.seq ?_
          have hsplit : blk kh y.2 (List.range S) ++ (gbR (rwI kh N) 25 (some (b9, cap9, sp9)) P' ++ R9) = blk kh y.2 (preI (P'.getD (x.R.length + 1 + y.1) 0)) ++ (gbI (kh (P'.getD (x.R.length + 1 + y.1) 0), mk N (Ab M x.R x.C (P'.getD (x.R.length + 1 + y.1) 0))) ++ (blk kh y.2 (posI S (P'.getD (x.R.length + 1 + y.1) 0)) ++ (gbR (rwI kh N) 25 (some (b9, cap9, sp9)) P' ++ R9))) := by have h5 := blk_at (hs := kh) (L := y.2) hI (y.2 (P'.getD (x.R.length + 1 + y.1) 0)) (gbR (rwI kh N) 25 (some (b9, cap9, sp9)) P' ++ R9); rw [upL_self, hyI] at h5; exact h5
          rw [hsplit]
          have hgI0 := (hmd.ok _ hI).1
          rw [hyI] at hgI0
          have hgI : gok (kh (P'.getD (x.R.length + 1 + y.1) 0)) N 1 (ival (mk N (Ab M x.R x.C (P'.getD (x.R.length + 1 + y.1) 0)))) := by have h5 := hgI0; unfold goI at h5; rw [mk_len] at h5; exact h5
          have hpS : (P'.getD x.R.length 0) < S := hsw.pb _ (by omega)
          have hgp0 := (hmd.ok _ hpS).1
          rw [hmd.hp] at hgp0
          have hgp : gok (kh (P'.getD x.R.length 0)) N 1 (ival (mk N (Ab M x.R x.C (P'.getD x.R.length 0)))) := by have h5 := hgp0; unfold goI at h5; rw [mk_len] at h5; exact h5
          have hpI : (P'.getD x.R.length 0) ≠ (P'.getD (x.R.length + 1 + y.1) 0) := fun e => by have := hsw.pi _ _ (by omega) hIu e; omega
          have hpm : ∀ z ∈ gbI (kh (P'.getD x.R.length 0), mk N (Ab M x.R x.C (P'.getD x.R.length 0))), z ∈ blk kh y.2 (preI (P'.getD (x.R.length + 1 + y.1) 0)) ∨ z ∈ blk kh y.2 (posI S (P'.getD (x.R.length + 1 + y.1) 0)) := fun z hz => by rw [← hmd.hp] at hz; exact (mem_pp hpS hpI).imp (fun h => blk_mem h z hz) (fun h => blk_mem h z hz)
          have hB1 := Ab_bd hM (R := x.R) (C := x.C) (show x.R.length < 6 by omega) (P'.getD x.R.length 0) x.c
          have hB2 := Ab_bd hM (R := x.R) (C := x.C) (show x.R.length < 6 by omega) (P'.getD (x.R.length + 1 + y.1) 0) x.c
          refine TC.region ?_
          refine TL.pure (PV.move rfl) rfl (by decide) ?_
          refine TL.pure (PV.load rfl Tb.one_3 (by repeat (first | exact List.Mem.head _ | refine List.Mem.tail _ ?_ | refine List.mem_append_right _ ?_)) rfl) rfl (by decide) ?_
          refine TL.pure (PV.indexG (h := kh (P'.getD (x.R.length + 1 + y.1) 0)) (len := N) (ys := ival (mk N (Ab M x.R x.C (P'.getD (x.R.length + 1 + y.1) 0)))) (j := x.c) rfl rfl hgI Tb.elm_25 rfl (by omega)) rfl (by decide) ?_
          refine TL.pure (PV.loadGI (y := (kh (P'.getD (x.R.length + 1 + y.1) 0), mk N (Ab M x.R x.C (P'.getD (x.R.length + 1 + y.1) 0)))) (j := x.c) (v := (Ab M x.R x.C (P'.getD (x.R.length + 1 + y.1) 0)) x.c) rfl Tb.one_3 (fun yy hyy => by repeat (first | exact List.mem_append_left _ hyy | exact List.mem_append_left _ (List.mem_append_right _ hyy) | exact List.mem_append_left _ (List.mem_append_left _ hyy) | refine List.mem_append_right _ ?_ | refine List.Mem.tail _ ?_)) hgI0 (by show x.c < (mk N _).length; rw [mk_len]; omega) (mk_at _ (by omega))) rfl (by decide) ?_
          refine TL.pure (PV.assign rfl) rfl (by decide) ?_
          refine TL.nil ?_
          refine TQ.thenC ?_
          refine TC.seq ?_
          refine TC.region ?_
          refine TL.pure (PV.move rfl) rfl (by decide) ?_
          refine TL.pure (PV.lenG (h := kh (P'.getD (x.R.length + 1 + y.1) 0)) (len := N) (ys := ival (mk N (Ab M x.R x.C (P'.getD (x.R.length + 1 + y.1) 0)))) rfl hgI Tb.sl_25) rfl (by decide) ?_
          refine TL.pure (PV.move rfl) rfl (by decide) ?_
          refine TL.nil ?_
          refine TQ.thenC ?_
          refine TC.block ?_
          refine TC.lit [(0, _), (4, _), (5, _), (6, _), (7, _), (9, _), (11, _), (12, _), (14, _), (15, _), (51, _), (52, _), (53, _), (62, _), (63, _)] (by repeat (first | exact True.intro | refine And.intro rfl ?_)) ?_
          refine TC.loopK [0, 4, 5, 6, 7, 9, 11, 12, 14, 15, 51, 52, 53, 62] (X := Nat) (fun j => j ≤ N) (fun j => [(63, .int .i64 j)]) (fun j => (bC, Obj.cells #[.int .i64 x.c] 3 (0, 0)) :: (blk kh y.2 (preI (P'.getD (x.R.length + 1 + y.1) 0)) ++ (gbI (kh (P'.getD (x.R.length + 1 + y.1) 0), mk N (mx (Ab M ((P'.getD x.R.length 0) :: x.R) (x.c :: x.C) (P'.getD (x.R.length + 1 + y.1) 0)) (Ab M x.R x.C (P'.getD (x.R.length + 1 + y.1) 0)) j)) ++ (blk kh y.2 (posI S (P'.getD (x.R.length + 1 + y.1) 0)) ++ (gbR (rwI kh N) 25 (some (b9, cap9, sp9)) P' ++ R9))))) (fun j => N - j) 0 (Nat.zero_le _) (by repeat (first | exact True.intro | refine And.intro rfl ?_)) (by show List.Sublist (_ :: (_ ++ (gbI (kh (P'.getD (x.R.length + 1 + y.1) 0), mk N (mx (Ab M ((P'.getD x.R.length 0) :: x.R) (x.c :: x.C) (P'.getD (x.R.length + 1 + y.1) 0)) (Ab M x.R x.C (P'.getD (x.R.length + 1 + y.1) 0)) 0)) ++ _))) _; rw [mx_zero]; exact List.Sublist.refl _) ?_
          intro j hj9
          refine TC.lit [(0, _), (4, _), (5, _), (6, _), (7, _), (9, _), (11, _), (12, _), (14, _), (15, _), (51, _), (52, _), (53, _), (62, _), (63, _)] (by repeat (first | exact True.intro | refine And.intro rfl ?_)) ?_
          refine TC.seq ?_
          refine TC.region ?_
          refine TL.pure (PV.lss rfl rfl) rfl (by decide) ?_
          refine TL.nil ?_
          refine TQ.thenC ?_
          refine TC.seq ?_
          first | refine TC.condD rfl (fun hlt3 => ?_) (fun hlt3 => ?_) | refine TC.cond rfl (fun hlt3 => ?_) (fun hlt3 => ?_)
          · skip
            refine TC.skip ?_
            refine TQ.thenC ?_
            refine TC.seq ?_
            refine TC.block ?_
            refine TC.seq ?_
            refine TC.region ?_
            refine TL.pure (PV.move rfl) rfl (by decide) ?_
            refine TL.pure (PV.assign rfl) rfl (by decide) ?_
            refine TL.nil ?_
            refine TQ.thenC ?_
            have hB3 := Ab_bd hM (R := x.R) (C := x.C) (show x.R.length < 6 by omega) (P'.getD (x.R.length + 1 + y.1) 0) j
            have hB4 := Ab_bd hM (R := x.R) (C := x.C) (show x.R.length < 6 by omega) (P'.getD x.R.length 0) j
            have hB5 := Ab_bd hM (R := (P'.getD x.R.length 0) :: x.R) (C := x.c :: x.C) (show ((P'.getD x.R.length 0) :: x.R).length < 6 by rw [List.length_cons]; omega) (P'.getD (x.R.length + 1 + y.1) 0) j
            have hm1 := mul_bd2 hB1 hB3 (by decide) (by decide)
            have hm2 := mul_bd2 hB2 hB4 (by decide) (by decide)
            have hex := hrk.el.ex (mem_drop.2 (by obtain ⟨v, h1, h2, e⟩ := hsw.pv x.R.length (Nat.le_refl _) (by omega); exact ⟨v, h1, by omega, e.symm⟩)) (mem_drop.2 (by obtain ⟨v, h1, h2, e⟩ := hsw.pv (x.R.length + 1 + y.1) (by omega) hIu; exact ⟨v, h1, by omega, e.symm⟩)) hpc2 j
            unfold uR at hex
            have hdiv : ((Ab M x.R x.C (P'.getD x.R.length 0)) x.c * (Ab M x.R x.C (P'.getD (x.R.length + 1 + y.1) 0)) j - (Ab M x.R x.C (P'.getD (x.R.length + 1 + y.1) 0)) x.c * (Ab M x.R x.C (P'.getD x.R.length 0)) j).tdiv (Dn M x.R x.C) = (Ab M ((P'.getD x.R.length 0) :: x.R) (x.c :: x.C) (P'.getD (x.R.length + 1 + y.1) 0)) j := by rw [← hex]; exact Int.mul_tdiv_cancel_left _ hrk.el.d
            have hgj : goI (kh (P'.getD (x.R.length + 1 + y.1) 0), mk N (mx (Ab M ((P'.getD x.R.length 0) :: x.R) (x.c :: x.C) (P'.getD (x.R.length + 1 + y.1) 0)) (Ab M x.R x.C (P'.getD (x.R.length + 1 + y.1) 0)) j)) := go_lenI hgI0 (by rw [mk_len, mk_len])
            have hgjN : gok (kh (P'.getD (x.R.length + 1 + y.1) 0)) N 1 (ival (mk N (mx (Ab M ((P'.getD x.R.length 0) :: x.R) (x.c :: x.C) (P'.getD (x.R.length + 1 + y.1) 0)) (Ab M x.R x.C (P'.getD (x.R.length + 1 + y.1) 0)) j))) := by have h5 := hgj; unfold goI at h5; rw [mk_len] at h5; exact h5
            have hmj : (mk N (mx (Ab M ((P'.getD x.R.length 0) :: x.R) (x.c :: x.C) (P'.getD (x.R.length + 1 + y.1) 0)) (Ab M x.R x.C (P'.getD (x.R.length + 1 + y.1) 0)) j)).getD j 0 = (Ab M x.R x.C (P'.getD (x.R.length + 1 + y.1) 0)) j := (mk_at _ (by omega)).trans (if_neg (Nat.lt_irrefl _))
            refine TC.draw 21 Tb.mixed (by kernel_rfl) ?_
            simp only [List.take_succ_cons, List.take_zero, List.drop_succ_cons, List.drop_zero]
            refine TS.pure (PV.move rfl) rfl (by decide) ?_
            refine TS.pure (PV.move rfl) rfl (by decide) ?_
            refine TS.pure (PV.move rfl) rfl (by decide) ?_
            refine TS.pure (PV.load rfl Tb.one_3 (by repeat (first | exact List.Mem.head _ | refine List.Mem.tail _ ?_ | refine List.mem_append_right _ ?_)) rfl) rfl (by decide) ?_
            refine TS.pure (PV.indexG (h := kh (P'.getD x.R.length 0)) (len := N) (ys := ival (mk N (Ab M x.R x.C (P'.getD x.R.length 0)))) (j := x.c) rfl rfl hgp Tb.elm_25 rfl (by omega)) rfl (by decide) ?_
            refine TS.pure (PV.loadGI (y := (kh (P'.getD x.R.length 0), mk N (Ab M x.R x.C (P'.getD x.R.length 0)))) (j := x.c) (v := (Ab M x.R x.C (P'.getD x.R.length 0)) x.c) rfl Tb.one_3 (fun y8 h8 => (hpm y8 h8).elim (fun h7 => List.mem_cons_of_mem _ (List.mem_append_left _ h7)) (fun h7 => List.mem_cons_of_mem _ (List.mem_append_right _ (List.mem_append_right _ (List.mem_append_left _ h7))))) hgp0 (by show x.c < (mk N _).length; rw [mk_len]; omega) (mk_at _ (by omega))) rfl (by decide) ?_
            refine TS.pure (PV.move rfl) rfl (by decide) ?_
            refine TS.pure (PV.move rfl) rfl (by decide) ?_
            refine TS.pure (PV.indexG (h := kh (P'.getD (x.R.length + 1 + y.1) 0)) (len := N) (ys := ival (mk N (mx (Ab M ((P'.getD x.R.length 0) :: x.R) (x.c :: x.C) (P'.getD (x.R.length + 1 + y.1) 0)) (Ab M x.R x.C (P'.getD (x.R.length + 1 + y.1) 0)) j))) (j := j) rfl rfl hgjN Tb.elm_25 rfl (by omega)) rfl (by decide) ?_
            refine TS.pure (PV.loadGI (y := (kh (P'.getD (x.R.length + 1 + y.1) 0), mk N (mx (Ab M ((P'.getD x.R.length 0) :: x.R) (x.c :: x.C) (P'.getD (x.R.length + 1 + y.1) 0)) (Ab M x.R x.C (P'.getD (x.R.length + 1 + y.1) 0)) j))) (j := j) (v := (Ab M x.R x.C (P'.getD (x.R.length + 1 + y.1) 0)) j) rfl Tb.one_3 (fun yy hyy => by repeat (first | exact List.mem_append_left _ hyy | exact List.mem_append_left _ (List.mem_append_right _ hyy) | exact List.mem_append_left _ (List.mem_append_left _ hyy) | refine List.mem_append_right _ ?_ | refine List.Mem.tail _ ?_)) hgj (by show j < (mk N _).length; rw [mk_len]; omega) hmj) rfl (by decide) ?_
            refine TS.pure (PV.mul rfl rfl (by omega)) rfl (by decide) ?_
            refine TS.pure (PV.move rfl) rfl (by decide) ?_
            refine TS.pure (PV.move rfl) rfl (by decide) ?_
            refine TS.pure (PV.move rfl) rfl (by decide) ?_
            refine TS.pure (PV.indexG (h := kh (P'.getD x.R.length 0)) (len := N) (ys := ival (mk N (Ab M x.R x.C (P'.getD x.R.length 0)))) (j := j) rfl rfl hgp Tb.elm_25 rfl (by omega)) rfl (by decide) ?_
            refine TS.pure (PV.loadGI (y := (kh (P'.getD x.R.length 0), mk N (Ab M x.R x.C (P'.getD x.R.length 0)))) (j := j) (v := (Ab M x.R x.C (P'.getD x.R.length 0)) j) rfl Tb.one_3 (fun y8 h8 => (hpm y8 h8).elim (fun h7 => List.mem_cons_of_mem _ (List.mem_append_left _ h7)) (fun h7 => List.mem_cons_of_mem _ (List.mem_append_right _ (List.mem_append_right _ (List.mem_append_left _ h7))))) hgp0 (by show j < (mk N _).length; rw [mk_len]; omega) (mk_at _ (by omega))) rfl (by decide) ?_
            refine TS.pure (PV.mul rfl rfl (by omega)) rfl (by decide) ?_
            refine TS.pure (PV.sub rfl rfl (by omega)) rfl (by decide) ?_
            refine TS.pure (PV.move rfl) rfl (by decide) ?_
            refine TS.pure (PV.quo rfl rfl hrk.el.d (by rw [hdiv]; omega)) rfl (by decide) ?_
            refine TS.pure (PV.indexG (h := kh (P'.getD (x.R.length + 1 + y.1) 0)) (len := N) (ys := ival (mk N (mx (Ab M ((P'.getD x.R.length 0) :: x.R) (x.c :: x.C) (P'.getD (x.R.length + 1 + y.1) 0)) (Ab M x.R x.C (P'.getD (x.R.length + 1 + y.1) 0)) j))) (j := j) rfl rfl hgjN Tb.elm_25 rfl (by omega)) rfl (by decide) ?_
            refine TS.nil ?_
            refine TL.putI (h := kh (P'.getD (x.R.length + 1 + y.1) 0)) (xs := mk N (mx (Ab M ((P'.getD x.R.length 0) :: x.R) (x.c :: x.C) (P'.getD (x.R.length + 1 + y.1) 0)) (Ab M x.R x.C (P'.getD (x.R.length + 1 + y.1) 0)) j)) (xs' := mk N (mx (Ab M ((P'.getD x.R.length 0) :: x.R) (x.c :: x.C) (P'.getD (x.R.length + 1 + y.1) 0)) (Ab M x.R x.C (P'.getD (x.R.length + 1 + y.1) 0)) (j + 1))) (j := j) rfl rfl Tb.cells_3 hgj (mx_set (by omega) hdiv) (by repeat (first | exact PutH.here _ _ _ _ | apply PutH.tail | apply PutH.app)) (by rw [mk_len]; omega) rfl rfl ?_
            refine TL.nil ?_
            refine TQ.blkN ?_
            refine TQ.thenC ?_
            refine TC.region ?_
            refine TL.pure (PV.add rfl rfl (by omega)) rfl (by decide) ?_
            refine TL.pure (PV.move rfl) rfl (by decide) ?_
            refine TL.nil ?_
            refine TQ.thenN ?_
            refine TQ.backK (j + 1) (by repeat (first | exact True.intro | refine And.intro rfl ?_)) (by repeat (first | exact True.intro | refine And.intro rfl ?_)) (List.Sublist.refl _) (by omega) (by omega)
          · skip
            refine TC.exit ?_
            refine TQ.thenE ?_
            refine TQ.thenE ?_
            refine TQ.blkS ?_
            refine TQ.blkN ?_
            refine TQ.thenC ?_
            refine TC.region ?_
            refine TL.pure (PV.add rfl rfl (by omega)) rfl (by decide) ?_
            refine TL.pure (PV.move rfl) rfl (by decide) ?_
            refine TL.nil ?_
            refine TQ.thenN ?_
            refine TQ.backK (y.1 + 1, upL y.2 (P'.getD (x.R.length + 1 + y.1) 0) (mk N (Ab M ((P'.getD x.R.length 0) :: x.R) (x.c :: x.C) (P'.getD (x.R.length + 1 + y.1) 0)))) (by repeat (first | exact True.intro | refine And.intro rfl ?_)) (by repeat (first | exact True.intro | refine And.intro rfl ?_)) (by show List.Sublist (_ :: (blk kh (upL y.2 (P'.getD (x.R.length + 1 + y.1) 0) (mk N (Ab M ((P'.getD x.R.length 0) :: x.R) (x.c :: x.C) (P'.getD (x.R.length + 1 + y.1) 0)))) (List.range S) ++ _)) _; rw [blk_at hI, ← mx_all (f := (Ab M ((P'.getD x.R.length 0) :: x.R) (x.c :: x.C) (P'.getD (x.R.length + 1 + y.1) 0))) (g := (Ab M x.R x.C (P'.getD (x.R.length + 1 + y.1) 0))) (show N ≤ j by omega)]; exact List.Sublist.refl _) ⟨by simp only; omega, md_step hy9.2 hsw (by omega) rfl⟩ (by simp only; omega)
        · skip
          refine TC.exit ?_
          refine TQ.thenE ?_
          refine TQ.thenE ?_
          refine TQ.blkS ?_
          refine TQ.thenC ?_
          have hpS : (P'.getD x.R.length 0) < S := hsw.pb _ (by omega)
          have hgp0 := (hy9.2.ok _ hpS).1
          rw [hy9.2.hp] at hgp0
          have hgp : gok (kh (P'.getD x.R.length 0)) N 1 (ival (mk N (Ab M x.R x.C (P'.getD x.R.length 0)))) := by have h5 := hgp0; unfold goI at h5; rw [mk_len] at h5; exact h5
          have hpm2 : ∀ z ∈ gbI (kh (P'.getD x.R.length 0), mk N (Ab M x.R x.C (P'.getD x.R.length 0))), z ∈ blk kh y.2 (List.range S) := fun z hz => by rw [← hy9.2.hp] at hz; exact blk_mem (List.mem_range.2 hpS) z hz
          refine TC.region ?_
          refine TL.pure (PV.move rfl) rfl (by decide) ?_
          refine TL.pure (PV.load rfl Tb.one_3 (by repeat (first | exact List.Mem.head _ | refine List.Mem.tail _ ?_ | refine List.mem_append_right _ ?_)) rfl) rfl (by decide) ?_
          refine TL.pure (PV.indexG (h := kh (P'.getD x.R.length 0)) (len := N) (ys := ival (mk N (Ab M x.R x.C (P'.getD x.R.length 0)))) (j := x.c) rfl rfl hgp Tb.elm_25 rfl (by omega)) rfl (by decide) ?_
          refine TL.pure (PV.loadGI (y := (kh (P'.getD x.R.length 0), mk N (Ab M x.R x.C (P'.getD x.R.length 0)))) (j := x.c) (v := (Ab M x.R x.C (P'.getD x.R.length 0)) x.c) rfl Tb.one_3 (fun y8 h8 => by have h7 := hpm2 y8 h8; simp [h7]) hgp0 (by show x.c < (mk N _).length; rw [mk_len]; omega) (mk_at _ (by omega))) rfl (by decide) ?_
          refine TL.pure (PV.assign rfl) rfl (by decide) ?_
          refine TL.nil ?_
          refine TQ.blkN ?_
          refine TQ.thenC ?_
          refine TC.region ?_
          refine TL.pure (PV.add rfl rfl (by omega)) rfl (by decide) ?_
          refine TL.pure (PV.move rfl) rfl (by decide) ?_
          refine TL.nil ?_
          refine TQ.thenN ?_
          refine TQ.backK (by first | exact ⟨x.c + 1, (P'.getD x.R.length 0) :: x.R, x.c :: x.C, P', y.2⟩ | exact ⟨x.c + 1, x.R, x.C, x.P, x.L⟩) (by exact And.intro rfl (And.intro rfl (And.intro rfl True.intro))) (by repeat (first | exact True.intro | refine And.intro rfl ?_)) (by exact List.sublist_cons_self _ _) (by first | exact ⟨by simp only; omega, RK.next hrk hsw (by omega) hpc2 hgP hy9.2 (by omega)⟩ | exact ⟨by simp only; omega, hrk.skip hsk⟩) (by simp only; omega)
  · skip
    refine TC.exit ?_
    refine TQ.thenE ?_
    refine TQ.thenE ?_
    refine TQ.blkS ?_
    refine TQ.thenC ?_
    refine TC.seq ?_
    refine TC.region ?_
    refine TL.pure (PV.move rfl) rfl (by decide) ?_
    refine TL.pure (PV.assign rfl) rfl (by decide) ?_
    refine TL.nil ?_
    refine TQ.thenC ?_
    refine TC.ret ?_
    refine TQ.retE1 rfl rfl ?_
    exact ⟨x.R.length, rfl, hx9.2.rank (by omega), List.Sublist.trans (List.sublist_append_right _ _) (List.sublist_append_right _ _)⟩

end Go.Proofs.Ytkkipbkkijoneaa
