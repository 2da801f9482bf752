/- The program's best heights and errors. -/
import Derived.Test.YtmmgcajegokkoaaF1
set_option linter.unusedVariables false
set_option linter.unusedSimpArgs false
namespace Go.Proofs.Ytmmgcajegokkoaa
open Go.Sx Go.RowKit

/-- The equations of a survey, and their solution over a common denominator. -/
def eqG (N : Nat) (rs : List Rd) (loads : List Int) : Nat → Nat → Int := getM (eqM N rs loads)
def solD (N : Nat) (rs : List Rd) (loads : List Int) : Int := (eS (eqG N rs loads) N).1
def solV (N : Nat) (rs : List Rd) (loads : List Int) (p : Nat) : Int := (eS (eqG N rs loads) N).2 p N
def solN (N : Nat) (rs : List Rd) (loads : List Int) : List Int := (List.range N).map (solV N rs loads)
def solZ (N : Nat) (rs : List Rd) (loads : List Int) (k : Nat) : List Int := (List.range N).map fun j => if j < k then solV N rs loads j else 0
theorem solZ_zero (N : Nat) (rs : List Rd) (loads : List Int) : solZ N rs loads 0 = List.replicate N 0 := by
  apply List.ext_getElem <;> simp [solZ]
theorem solZ_len (N : Nat) (rs : List Rd) (loads : List Int) (k : Nat) : (solZ N rs loads k).length = N := by simp [solZ]
theorem solZ_all (N : Nat) (rs : List Rd) (loads : List Int) : solZ N rs loads N = solN N rs loads := by
  apply List.ext_getElem
  · simp [solZ, solN]
  · intro i h1 h2
    simp [solZ, solN] at h1 ⊢
    intro h; omega
theorem solZ_set {N : Nat} {rs : List Rd} {loads : List Int} {k : Nat} (h : k < N) : (solZ N rs loads k).set k (solV N rs loads k) = solZ N rs loads (k + 1) := by
  apply List.ext_getElem
  · simp [solZ]
  · intro j h1 h2
    simp only [solZ, List.getElem_set, List.getElem_map, List.getElem_range]
    by_cases hij : k = j
    · subst hij; simp
    · rw [if_neg hij]
      by_cases hj : j < k
      · rw [if_pos hj, if_pos (by omega)]
      · rw [if_neg hj, if_neg (by omega)]
theorem eqM_sh (N : Nat) (rs : List Rd) (loads : List Int) : Sh (eqM N rs loads) N (N + 1) := eqF_sh _ (m0_sh _ _ _ _)
abbrev solB (N : Nat) (rs : List Rd) (loads : List Int) (ids : List Nat) : Heap := rowsH 3 ids (tabM N (N + 1) (eS (eqG N rs loads) N).2)
theorem solZ_get (N : Nat) (rs : List Rd) (loads : List Int) {p : Nat} (h : p < N) : (solN N rs loads).getD p 0 = solV N rs loads p := by simp [solN, List.getD, h]


set_option maxRecDepth 100000 in
set_option maxHeartbeats 1000000 in
theorem solve_ok (w0 : World) (n : Int) (p : Option Addr) (cap : Nat) (rs : List Rd) (hr : RdsAt w0 p rs) (hv : Valid n rs) (pl : Option Addr) (cl : Nat) (loads : List Int) (hla : IntsAt w0 pl loads) (hll : loads.length = n.toNat) (B : Int) (hB : 1 ≤ B ∧ B ≤ 1000000000000000) (hlb : Bd loads B) (hsafe : eSafe n.toNat (n.toNat + 1) (eqG n.toNat rs loads)) :
    Calls Try.prog 98 #[sv n p rs.length cap, .slice pl n.toNat cl] w0 (Post (X := Nat) (fun b => .agg #[.int .i64 (solD n.toNat rs loads), .slice (some ⟨b, 0, none⟩) n.toNat n.toNat]) (fun _ => True) (fun b => [arrI b (solN n.toNat rs loads)]) w0) := by
  have hp := hv.pts
  have hl := hv.len
  obtain ⟨N, rfl⟩ : ∃ N : Nat, n = N := ⟨n.toNat, by omega⟩
  simp only [Int.toNat_natCast] at hsafe
  refine calls Try.func98 rfl (n := 36) rfl (by simp) ?_
  refine TC.seq ?_
  refine TC.region ?_
  refine TL.box rfl rfl (by decide) (fun b0 hb0 => ?_)
  refine TL.alloc Tb.zero_51 rfl (by decide) (fun b1 hb1 => ?_)
  refine TL.nil ?_
  refine TQ.thenC ?_
  refine TC.seq ?_
  refine TC.region ?_
  refine TL.pure (PV.loadBox rfl Tb.agg_24 (by repeat (first | exact List.Mem.head _ | refine List.Mem.tail _ ?_ | refine List.mem_append_right _ ?_)) rfl) rfl (by decide) ?_
  refine TL.pure (PV.move rfl) rfl (by decide) ?_
  refine TL.call rfl Tb.gofn_105 (fun a w hs => equations_ok w _ _ _ _ (hr.new hs.new) hv _ _ _ (hla.new hs.new) hll B hB hlb) rfl (by decide) (fun e hel => ?_)
  refine TL.pure (PV.assign rfl) rfl (by decide) ?_
  refine TL.nil ?_
  refine TQ.thenC ?_
  refine TC.seqK [2, 4, 5] (X := Nat × Nat) (fun x => True) (fun x => [(6, .pointer (some ⟨x.2, 0, none⟩))]) (fun x => (x.2, .cells #[.int .i64 (solD N rs loads), .slice (some ⟨x.1, 0, none⟩) N N] 51 (0, 0)) :: arrI x.1 (List.replicate N 0) :: outB e.1 e.2 (N + 1) :: (solB N rs loads e.2 ++ [(b1, .cells #[.int .i64 0, .slice none 0 0] 51 (0, 0)), (b0, .cells #[.int .i64 N, .slice p rs.length cap] 24 (0, 0))])) ?_ ?_
  · skip
    have hel : e.2.length = N := hel
    refine TC.congrG (G' := outB e.1 e.2 (N + 1) :: (rowsH 3 e.2 (tabM N (N + 1) (eqG N rs loads)) ++ [(b1, .cells #[.int .i64 0, .slice none 0 0] 51 (0, 0)), (b0, .cells #[.int .i64 N, .slice p rs.length cap] 24 (0, 0))])) (by rw [eqG, ← tab_of_sh (eqM_sh N rs loads)]; rfl) ?_
    refine TC.mix [true, false, true, true, false, false, false, false] [(b0, .cells #[.int .i64 N, .slice p rs.length cap] 24 (0, 0))] 5 Tb.mixed rfl (by kernel_rfl) (by kernel_rfl) (by kernel_rfl) (by kernel_rfl) (by repeat (first | exact List.Sublist.slnil | exact List.nil_sublist _ | exact List.Sublist.refl _ | refine List.Sublist.cons_cons _ ?_ | refine List.Sublist.cons _ ?_ | refine List.Sublist.trans ?_ (List.sublist_append_right _ _))) ?_
    refine TB.op (SOK.pure (PV.move rfl) rfl) (by decide) ?_
    refine TB.no ?_
    refine TB.op (SOK.pure (PV.fieldAddr rfl Tb.fo_24_0) rfl) (by decide) ?_
    refine TB.op (SOK.pure (PV.load rfl Tb.one_3 (by repeat (first | exact List.Mem.head _ | refine List.Mem.tail _ ?_ | refine List.mem_append_right _ ?_)) rfl) rfl) (by decide) ?_
    refine TB.no ?_
    refine TB.no ?_
    refine TB.no ?_
    refine TB.no ?_
    refine TB.fin ?_
    refine TX.step [1, 4, 6] (by kernel_rfl) (by decide) ⟨⟨_, rfl, ?_⟩, ⟨_, rfl, ?_⟩, ⟨_, rfl, ?_⟩, trivial⟩
    · skip
      refine TL.callW (X := Unit) (fun _ => .int .i64 (solD N rs loads)) (fun _ => True) _ rfl Tb.gofn_106 (fun a w hs => (by first | exact eliminate_ok w0 w e.1 e.2 [(b1, .cells #[.int .i64 0, .slice none 0 0] 51 (0, 0)), (b0, .cells #[.int .i64 N, .slice p rs.length cap] 24 (0, 0))] N (N + 1) (eqG N rs loads) hel (by omega) hsafe hs.new | exact eliminate_ok w0 w e.1 e.2 (_ :: [(b1, .cells #[.int .i64 0, .slice none 0 0] 51 (0, 0)), (b0, .cells #[.int .i64 N, .slice p rs.length cap] 24 (0, 0))]) N (N + 1) (eqG N rs loads) hel (by omega) hsafe (hs.new.perm (List.Perm.trans (List.Perm.cons _ List.perm_middle) (List.Perm.swap _ _ _))) | exact eliminate_ok w0 w e.1 e.2 (_ :: _ :: [(b1, .cells #[.int .i64 0, .slice none 0 0] 51 (0, 0)), (b0, .cells #[.int .i64 N, .slice p rs.length cap] 24 (0, 0))]) N (N + 1) (eqG N rs loads) hel (by omega) hsafe (hs.new.perm (List.Perm.trans (List.Perm.cons _ (List.Perm.trans List.perm_middle (List.Perm.cons _ List.perm_middle))) (List.Perm.trans (List.Perm.swap _ _ _) (List.Perm.cons _ (List.Perm.swap _ _ _))))))) rfl (by decide) (fun _ _ => ?_)
      refine TL.nil ?_
      refine TX.next (.inl (by repeat (first | exact List.Sublist.slnil | exact List.nil_sublist _ | exact List.Sublist.refl _ | refine List.Sublist.cons_cons _ ?_ | refine List.Sublist.cons _ ?_ | refine List.Sublist.trans ?_ (List.sublist_append_right _ _)))) ?_
      refine TX.step [4, 6] (by kernel_rfl) (by decide) ⟨⟨_, rfl, ?_⟩, ⟨_, rfl, ?_⟩, trivial⟩
      · skip
        refine TL.makeI rfl rfl Tb.sl_31 Tb.zi_3 (k := N) rfl (by omega) (by omega) rfl (by decide) (fun b2 hb2 => ?_)
        refine TL.nil ?_
        refine TX.next (.inl (by repeat (first | exact List.Sublist.slnil | exact List.nil_sublist _ | exact List.Sublist.refl _ | refine List.Sublist.cons_cons _ ?_ | refine List.Sublist.cons _ ?_ | refine List.Sublist.trans ?_ (List.sublist_append_right _ _)))) ?_
        refine TX.step [5, 6] (by kernel_rfl) (by decide) ⟨⟨_, rfl, ?_⟩, ⟨_, rfl, ?_⟩, trivial⟩
        · skip
          refine TL.pure (PV.build rfl Tb.zero_51 Tb.pl_51 rfl) rfl (by decide) ?_
          refine TL.nil ?_
          refine TX.next (.inl (by repeat (first | exact List.Sublist.slnil | exact List.nil_sublist _ | exact List.Sublist.refl _ | refine List.Sublist.cons_cons _ ?_ | refine List.Sublist.cons _ ?_ | refine List.Sublist.trans ?_ (List.sublist_append_right _ _)))) ?_
          refine TX.step [6] (by kernel_rfl) (by decide) ⟨⟨_, rfl, ?_⟩, trivial⟩
          refine TL.alloc Tb.zero_51 rfl (by decide) (fun b3 hb3 => ?_)
          refine TL.nil ?_
          refine TX.next (.inl (by repeat (first | exact List.Sublist.slnil | exact List.nil_sublist _ | exact List.Sublist.refl _ | refine List.Sublist.cons_cons _ ?_ | refine List.Sublist.cons _ ?_ | refine List.Sublist.trans ?_ (List.sublist_append_right _ _)))) ?_
          refine TX.step [7] (by kernel_rfl) (by decide) ⟨⟨_, rfl, ?_⟩, trivial⟩
          refine TL.storeAgg rfl rfl Tb.cells_51 (by repeat (first | exact Upd.head _ | apply Upd.tail | apply Upd.appR)) rfl rfl rfl rfl rfl ?_
          refine TL.nil ?_
          refine TX.next (.inr (by kernel_rfl)) ?_
          refine TX.done (by kernel_rfl) ?_
          refine TQ.thenN ?_
          refine TQ.perm (G' := (_, .cells #[.int .i64 (solD N rs loads), .slice (some ⟨_, 0, none⟩) N N] 51 (0, 0)) :: arrI _ (List.replicate N 0) :: outB e.1 e.2 (N + 1) :: (solB N rs loads e.2 ++ [(b1, .cells #[.int .i64 0, .slice none 0 0] 51 (0, 0)), (b0, .cells #[.int .i64 N, .slice p rs.length cap] 24 (0, 0))])) (by repeat (first | exact List.Perm.refl _ | refine permTake (by repeat (first | exact Take.head _ | apply Take.tail | apply Take.appR)) ?_ | refine permMid ?_)) ?_
          refine TQ.midK (_, _) (by repeat (first | exact True.intro | refine And.intro rfl ?_)) (by repeat (first | exact True.intro | refine And.intro rfl ?_)) (by repeat (first | exact List.Sublist.slnil | exact List.nil_sublist _ | exact List.Sublist.refl _ | refine List.Sublist.cons_cons _ ?_ | refine List.Sublist.cons _ ?_ | refine List.Sublist.trans ?_ (List.sublist_append_right _ _))) (by first | trivial | omega)
        · skip
          refine TL.alloc Tb.zero_51 rfl (by decide) (fun b4 hb4 => ?_)
          refine TL.nil ?_
          refine TX.next (.inl (by repeat (first | exact List.Sublist.slnil | exact List.nil_sublist _ | exact List.Sublist.refl _ | refine List.Sublist.cons_cons _ ?_ | refine List.Sublist.cons _ ?_ | refine List.Sublist.trans ?_ (List.sublist_append_right _ _)))) ?_
          refine TX.step [5] (by kernel_rfl) (by decide) ⟨⟨_, rfl, ?_⟩, trivial⟩
          refine TL.pure (PV.build rfl Tb.zero_51 Tb.pl_51 rfl) rfl (by decide) ?_
          refine TL.nil ?_
          refine TX.next (.inl (by repeat (first | exact List.Sublist.slnil | exact List.nil_sublist _ | exact List.Sublist.refl _ | refine List.Sublist.cons_cons _ ?_ | refine List.Sublist.cons _ ?_ | refine List.Sublist.trans ?_ (List.sublist_append_right _ _)))) ?_
          refine TX.step [7] (by kernel_rfl) (by decide) ⟨⟨_, rfl, ?_⟩, trivial⟩
          refine TL.storeAgg rfl rfl Tb.cells_51 (by repeat (first | exact Upd.head _ | apply Upd.tail | apply Upd.appR)) rfl rfl rfl rfl rfl ?_
          refine TL.nil ?_
          refine TX.next (.inr (by kernel_rfl)) ?_
          refine TX.done (by kernel_rfl) ?_
          refine TQ.thenN ?_
          refine TQ.perm (G' := (_, .cells #[.int .i64 (solD N rs loads), .slice (some ⟨_, 0, none⟩) N N] 51 (0, 0)) :: arrI _ (List.replicate N 0) :: outB e.1 e.2 (N + 1) :: (solB N rs loads e.2 ++ [(b1, .cells #[.int .i64 0, .slice none 0 0] 51 (0, 0)), (b0, .cells #[.int .i64 N, .slice p rs.length cap] 24 (0, 0))])) (by repeat (first | exact List.Perm.refl _ | refine permTake (by repeat (first | exact Take.head _ | apply Take.tail | apply Take.appR)) ?_ | refine permMid ?_)) ?_
          refine TQ.midK (_, _) (by repeat (first | exact True.intro | refine And.intro rfl ?_)) (by repeat (first | exact True.intro | refine And.intro rfl ?_)) (by repeat (first | exact List.Sublist.slnil | exact List.nil_sublist _ | exact List.Sublist.refl _ | refine List.Sublist.cons_cons _ ?_ | refine List.Sublist.cons _ ?_ | refine List.Sublist.trans ?_ (List.sublist_append_right _ _))) (by first | trivial | omega)
      · skip
        refine TL.alloc Tb.zero_51 rfl (by decide) (fun b5 hb5 => ?_)
        refine TL.nil ?_
        refine TX.next (.inl (by repeat (first | exact List.Sublist.slnil | exact List.nil_sublist _ | exact List.Sublist.refl _ | refine List.Sublist.cons_cons _ ?_ | refine List.Sublist.cons _ ?_ | refine List.Sublist.trans ?_ (List.sublist_append_right _ _)))) ?_
        refine TX.step [4] (by kernel_rfl) (by decide) ⟨⟨_, rfl, ?_⟩, trivial⟩
        refine TL.makeI rfl rfl Tb.sl_31 Tb.zi_3 (k := N) rfl (by omega) (by omega) rfl (by decide) (fun b6 hb6 => ?_)
        refine TL.nil ?_
        refine TX.next (.inl (by repeat (first | exact List.Sublist.slnil | exact List.nil_sublist _ | exact List.Sublist.refl _ | refine List.Sublist.cons_cons _ ?_ | refine List.Sublist.cons _ ?_ | refine List.Sublist.trans ?_ (List.sublist_append_right _ _)))) ?_
        refine TX.step [5] (by kernel_rfl) (by decide) ⟨⟨_, rfl, ?_⟩, trivial⟩
        refine TL.pure (PV.build rfl Tb.zero_51 Tb.pl_51 rfl) rfl (by decide) ?_
        refine TL.nil ?_
        refine TX.next (.inl (by repeat (first | exact List.Sublist.slnil | exact List.nil_sublist _ | exact List.Sublist.refl _ | refine List.Sublist.cons_cons _ ?_ | refine List.Sublist.cons _ ?_ | refine List.Sublist.trans ?_ (List.sublist_append_right _ _)))) ?_
        refine TX.step [7] (by kernel_rfl) (by decide) ⟨⟨_, rfl, ?_⟩, trivial⟩
        refine TL.storeAgg rfl rfl Tb.cells_51 (by repeat (first | exact Upd.head _ | apply Upd.tail | apply Upd.appR)) rfl rfl rfl rfl rfl ?_
        refine TL.nil ?_
        refine TX.next (.inr (by kernel_rfl)) ?_
        refine TX.done (by kernel_rfl) ?_
        refine TQ.thenN ?_
        refine TQ.perm (G' := (_, .cells #[.int .i64 (solD N rs loads), .slice (some ⟨_, 0, none⟩) N N] 51 (0, 0)) :: arrI _ (List.replicate N 0) :: outB e.1 e.2 (N + 1) :: (solB N rs loads e.2 ++ [(b1, .cells #[.int .i64 0, .slice none 0 0] 51 (0, 0)), (b0, .cells #[.int .i64 N, .slice p rs.length cap] 24 (0, 0))])) (by repeat (first | exact List.Perm.refl _ | refine permTake (by repeat (first | exact Take.head _ | apply Take.tail | apply Take.appR)) ?_ | refine permMid ?_)) ?_
        refine TQ.midK (_, _) (by repeat (first | exact True.intro | refine And.intro rfl ?_)) (by repeat (first | exact True.intro | refine And.intro rfl ?_)) (by repeat (first | exact List.Sublist.slnil | exact List.nil_sublist _ | exact List.Sublist.refl _ | refine List.Sublist.cons_cons _ ?_ | refine List.Sublist.cons _ ?_ | refine List.Sublist.trans ?_ (List.sublist_append_right _ _))) (by first | trivial | omega)
    · skip
      refine TL.makeI rfl rfl Tb.sl_31 Tb.zi_3 (k := N) rfl (by omega) (by omega) rfl (by decide) (fun b7 hb7 => ?_)
      refine TL.nil ?_
      refine TX.next (.inl (by repeat (first | exact List.Sublist.slnil | exact List.nil_sublist _ | exact List.Sublist.refl _ | refine List.Sublist.cons_cons _ ?_ | refine List.Sublist.cons _ ?_ | refine List.Sublist.trans ?_ (List.sublist_append_right _ _)))) ?_
      refine TX.step [1, 6] (by kernel_rfl) (by decide) ⟨⟨_, rfl, ?_⟩, ⟨_, rfl, ?_⟩, trivial⟩
      · skip
        refine TL.callW (X := Unit) (fun _ => .int .i64 (solD N rs loads)) (fun _ => True) _ rfl Tb.gofn_106 (fun a w hs => (by first | exact eliminate_ok w0 w e.1 e.2 [(b1, .cells #[.int .i64 0, .slice none 0 0] 51 (0, 0)), (b0, .cells #[.int .i64 N, .slice p rs.length cap] 24 (0, 0))] N (N + 1) (eqG N rs loads) hel (by omega) hsafe hs.new | exact eliminate_ok w0 w e.1 e.2 (_ :: [(b1, .cells #[.int .i64 0, .slice none 0 0] 51 (0, 0)), (b0, .cells #[.int .i64 N, .slice p rs.length cap] 24 (0, 0))]) N (N + 1) (eqG N rs loads) hel (by omega) hsafe (hs.new.perm (List.Perm.trans (List.Perm.cons _ List.perm_middle) (List.Perm.swap _ _ _))) | exact eliminate_ok w0 w e.1 e.2 (_ :: _ :: [(b1, .cells #[.int .i64 0, .slice none 0 0] 51 (0, 0)), (b0, .cells #[.int .i64 N, .slice p rs.length cap] 24 (0, 0))]) N (N + 1) (eqG N rs loads) hel (by omega) hsafe (hs.new.perm (List.Perm.trans (List.Perm.cons _ (List.Perm.trans List.perm_middle (List.Perm.cons _ List.perm_middle))) (List.Perm.trans (List.Perm.swap _ _ _) (List.Perm.cons _ (List.Perm.swap _ _ _))))))) rfl (by decide) (fun _ _ => ?_)
        refine TL.nil ?_
        refine TX.next (.inl (by repeat (first | exact List.Sublist.slnil | exact List.nil_sublist _ | exact List.Sublist.refl _ | refine List.Sublist.cons_cons _ ?_ | refine List.Sublist.cons _ ?_ | refine List.Sublist.trans ?_ (List.sublist_append_right _ _)))) ?_
        refine TX.step [5, 6] (by kernel_rfl) (by decide) ⟨⟨_, rfl, ?_⟩, ⟨_, rfl, ?_⟩, trivial⟩
        · skip
          refine TL.pure (PV.build rfl Tb.zero_51 Tb.pl_51 rfl) rfl (by decide) ?_
          refine TL.nil ?_
          refine TX.next (.inl (by repeat (first | exact List.Sublist.slnil | exact List.nil_sublist _ | exact List.Sublist.refl _ | refine List.Sublist.cons_cons _ ?_ | refine List.Sublist.cons _ ?_ | refine List.Sublist.trans ?_ (List.sublist_append_right _ _)))) ?_
          refine TX.step [6] (by kernel_rfl) (by decide) ⟨⟨_, rfl, ?_⟩, trivial⟩
          refine TL.alloc Tb.zero_51 rfl (by decide) (fun b8 hb8 => ?_)
          refine TL.nil ?_
          refine TX.next (.inl (by repeat (first | exact List.Sublist.slnil | exact List.nil_sublist _ | exact List.Sublist.refl _ | refine List.Sublist.cons_cons _ ?_ | refine List.Sublist.cons _ ?_ | refine List.Sublist.trans ?_ (List.sublist_append_right _ _)))) ?_
          refine TX.step [7] (by kernel_rfl) (by decide) ⟨⟨_, rfl, ?_⟩, trivial⟩
          refine TL.storeAgg rfl rfl Tb.cells_51 (by repeat (first | exact Upd.head _ | apply Upd.tail | apply Upd.appR)) rfl rfl rfl rfl rfl ?_
          refine TL.nil ?_
          refine TX.next (.inr (by kernel_rfl)) ?_
          refine TX.done (by kernel_rfl) ?_
          refine TQ.thenN ?_
          refine TQ.perm (G' := (_, .cells #[.int .i64 (solD N rs loads), .slice (some ⟨_, 0, none⟩) N N] 51 (0, 0)) :: arrI _ (List.replicate N 0) :: outB e.1 e.2 (N + 1) :: (solB N rs loads e.2 ++ [(b1, .cells #[.int .i64 0, .slice none 0 0] 51 (0, 0)), (b0, .cells #[.int .i64 N, .slice p rs.length cap] 24 (0, 0))])) (by repeat (first | exact List.Perm.refl _ | refine permTake (by repeat (first | exact Take.head _ | apply Take.tail | apply Take.appR)) ?_ | refine permMid ?_)) ?_
          refine TQ.midK (_, _) (by repeat (first | exact True.intro | refine And.intro rfl ?_)) (by repeat (first | exact True.intro | refine And.intro rfl ?_)) (by repeat (first | exact List.Sublist.slnil | exact List.nil_sublist _ | exact List.Sublist.refl _ | refine List.Sublist.cons_cons _ ?_ | refine List.Sublist.cons _ ?_ | refine List.Sublist.trans ?_ (List.sublist_append_right _ _))) (by first | trivial | omega)
        · skip
          refine TL.alloc Tb.zero_51 rfl (by decide) (fun b9 hb9 => ?_)
          refine TL.nil ?_
          refine TX.next (.inl (by repeat (first | exact List.Sublist.slnil | exact List.nil_sublist _ | exact List.Sublist.refl _ | refine List.Sublist.cons_cons _ ?_ | refine List.Sublist.cons _ ?_ | refine List.Sublist.trans ?_ (List.sublist_append_right _ _)))) ?_
          refine TX.step [5] (by kernel_rfl) (by decide) ⟨⟨_, rfl, ?_⟩, trivial⟩
          refine TL.pure (PV.build rfl Tb.zero_51 Tb.pl_51 rfl) rfl (by decide) ?_
          refine TL.nil ?_
          refine TX.next (.inl (by repeat (first | exact List.Sublist.slnil | exact List.nil_sublist _ | exact List.Sublist.refl _ | refine List.Sublist.cons_cons _ ?_ | refine List.Sublist.cons _ ?_ | refine List.Sublist.trans ?_ (List.sublist_append_right _ _)))) ?_
          refine TX.step [7] (by kernel_rfl) (by decide) ⟨⟨_, rfl, ?_⟩, trivial⟩
          refine TL.storeAgg rfl rfl Tb.cells_51 (by repeat (first | exact Upd.head _ | apply Upd.tail | apply Upd.appR)) rfl rfl rfl rfl rfl ?_
          refine TL.nil ?_
          refine TX.next (.inr (by kernel_rfl)) ?_
          refine TX.done (by kernel_rfl) ?_
          refine TQ.thenN ?_
          refine TQ.perm (G' := (_, .cells #[.int .i64 (solD N rs loads), .slice (some ⟨_, 0, none⟩) N N] 51 (0, 0)) :: arrI _ (List.replicate N 0) :: outB e.1 e.2 (N + 1) :: (solB N rs loads e.2 ++ [(b1, .cells #[.int .i64 0, .slice none 0 0] 51 (0, 0)), (b0, .cells #[.int .i64 N, .slice p rs.length cap] 24 (0, 0))])) (by repeat (first | exact List.Perm.refl _ | refine permTake (by repeat (first | exact Take.head _ | apply Take.tail | apply Take.appR)) ?_ | refine permMid ?_)) ?_
          refine TQ.midK (_, _) (by repeat (first | exact True.intro | refine And.intro rfl ?_)) (by repeat (first | exact True.intro | refine And.intro rfl ?_)) (by repeat (first | exact List.Sublist.slnil | exact List.nil_sublist _ | exact List.Sublist.refl _ | refine List.Sublist.cons_cons _ ?_ | refine List.Sublist.cons _ ?_ | refine List.Sublist.trans ?_ (List.sublist_append_right _ _))) (by first | trivial | omega)
      · skip
        refine TL.alloc Tb.zero_51 rfl (by decide) (fun b10 hb10 => ?_)
        refine TL.nil ?_
        refine TX.next (.inl (by repeat (first | exact List.Sublist.slnil | exact List.nil_sublist _ | exact List.Sublist.refl _ | refine List.Sublist.cons_cons _ ?_ | refine List.Sublist.cons _ ?_ | refine List.Sublist.trans ?_ (List.sublist_append_right _ _)))) ?_
        refine TX.step [1] (by kernel_rfl) (by decide) ⟨⟨_, rfl, ?_⟩, trivial⟩
        refine TL.callW (X := Unit) (fun _ => .int .i64 (solD N rs loads)) (fun _ => True) _ rfl Tb.gofn_106 (fun a w hs => (by first | exact eliminate_ok w0 w e.1 e.2 [(b1, .cells #[.int .i64 0, .slice none 0 0] 51 (0, 0)), (b0, .cells #[.int .i64 N, .slice p rs.length cap] 24 (0, 0))] N (N + 1) (eqG N rs loads) hel (by omega) hsafe hs.new | exact eliminate_ok w0 w e.1 e.2 (_ :: [(b1, .cells #[.int .i64 0, .slice none 0 0] 51 (0, 0)), (b0, .cells #[.int .i64 N, .slice p rs.length cap] 24 (0, 0))]) N (N + 1) (eqG N rs loads) hel (by omega) hsafe (hs.new.perm (List.Perm.trans (List.Perm.cons _ List.perm_middle) (List.Perm.swap _ _ _))) | exact eliminate_ok w0 w e.1 e.2 (_ :: _ :: [(b1, .cells #[.int .i64 0, .slice none 0 0] 51 (0, 0)), (b0, .cells #[.int .i64 N, .slice p rs.length cap] 24 (0, 0))]) N (N + 1) (eqG N rs loads) hel (by omega) hsafe (hs.new.perm (List.Perm.trans (List.Perm.cons _ (List.Perm.trans List.perm_middle (List.Perm.cons _ List.perm_middle))) (List.Perm.trans (List.Perm.swap _ _ _) (List.Perm.cons _ (List.Perm.swap _ _ _))))))) rfl (by decide) (fun _ _ => ?_)
        refine TL.nil ?_
        refine TX.next (.inl (by repeat (first | exact List.Sublist.slnil | exact List.nil_sublist _ | exact List.Sublist.refl _ | refine List.Sublist.cons_cons _ ?_ | refine List.Sublist.cons _ ?_ | refine List.Sublist.trans ?_ (List.sublist_append_right _ _)))) ?_
        refine TX.step [5] (by kernel_rfl) (by decide) ⟨⟨_, rfl, ?_⟩, trivial⟩
        refine TL.pure (PV.build rfl Tb.zero_51 Tb.pl_51 rfl) rfl (by decide) ?_
        refine TL.nil ?_
        refine TX.next (.inl (by repeat (first | exact List.Sublist.slnil | exact List.nil_sublist _ | exact List.Sublist.refl _ | refine List.Sublist.cons_cons _ ?_ | refine List.Sublist.cons _ ?_ | refine List.Sublist.trans ?_ (List.sublist_append_right _ _)))) ?_
        refine TX.step [7] (by kernel_rfl) (by decide) ⟨⟨_, rfl, ?_⟩, trivial⟩
        refine TL.storeAgg rfl rfl Tb.cells_51 (by repeat (first | exact Upd.head _ | apply Upd.tail | apply Upd.appR)) rfl rfl rfl rfl rfl ?_
        refine TL.nil ?_
        refine TX.next (.inr (by kernel_rfl)) ?_
        refine TX.done (by kernel_rfl) ?_
        refine TQ.thenN ?_
        refine TQ.perm (G' := (_, .cells #[.int .i64 (solD N rs loads), .slice (some ⟨_, 0, none⟩) N N] 51 (0, 0)) :: arrI _ (List.replicate N 0) :: outB e.1 e.2 (N + 1) :: (solB N rs loads e.2 ++ [(b1, .cells #[.int .i64 0, .slice none 0 0] 51 (0, 0)), (b0, .cells #[.int .i64 N, .slice p rs.length cap] 24 (0, 0))])) (by repeat (first | exact List.Perm.refl _ | refine permTake (by repeat (first | exact Take.head _ | apply Take.tail | apply Take.appR)) ?_ | refine permMid ?_)) ?_
        refine TQ.midK (_, _) (by repeat (first | exact True.intro | refine And.intro rfl ?_)) (by repeat (first | exact True.intro | refine And.intro rfl ?_)) (by repeat (first | exact List.Sublist.slnil | exact List.nil_sublist _ | exact List.Sublist.refl _ | refine List.Sublist.cons_cons _ ?_ | refine List.Sublist.cons _ ?_ | refine List.Sublist.trans ?_ (List.sublist_append_right _ _))) (by first | trivial | omega)
    · skip
      refine TL.alloc Tb.zero_51 rfl (by decide) (fun b11 hb11 => ?_)
      refine TL.nil ?_
      refine TX.next (.inl (by repeat (first | exact List.Sublist.slnil | exact List.nil_sublist _ | exact List.Sublist.refl _ | refine List.Sublist.cons_cons _ ?_ | refine List.Sublist.cons _ ?_ | refine List.Sublist.trans ?_ (List.sublist_append_right _ _)))) ?_
      refine TX.step [1, 4] (by kernel_rfl) (by decide) ⟨⟨_, rfl, ?_⟩, ⟨_, rfl, ?_⟩, trivial⟩
      · skip
        refine TL.callW (X := Unit) (fun _ => .int .i64 (solD N rs loads)) (fun _ => True) _ rfl Tb.gofn_106 (fun a w hs => (by first | exact eliminate_ok w0 w e.1 e.2 [(b1, .cells #[.int .i64 0, .slice none 0 0] 51 (0, 0)), (b0, .cells #[.int .i64 N, .slice p rs.length cap] 24 (0, 0))] N (N + 1) (eqG N rs loads) hel (by omega) hsafe hs.new | exact eliminate_ok w0 w e.1 e.2 (_ :: [(b1, .cells #[.int .i64 0, .slice none 0 0] 51 (0, 0)), (b0, .cells #[.int .i64 N, .slice p rs.length cap] 24 (0, 0))]) N (N + 1) (eqG N rs loads) hel (by omega) hsafe (hs.new.perm (List.Perm.trans (List.Perm.cons _ List.perm_middle) (List.Perm.swap _ _ _))) | exact eliminate_ok w0 w e.1 e.2 (_ :: _ :: [(b1, .cells #[.int .i64 0, .slice none 0 0] 51 (0, 0)), (b0, .cells #[.int .i64 N, .slice p rs.length cap] 24 (0, 0))]) N (N + 1) (eqG N rs loads) hel (by omega) hsafe (hs.new.perm (List.Perm.trans (List.Perm.cons _ (List.Perm.trans List.perm_middle (List.Perm.cons _ List.perm_middle))) (List.Perm.trans (List.Perm.swap _ _ _) (List.Perm.cons _ (List.Perm.swap _ _ _))))))) rfl (by decide) (fun _ _ => ?_)
        refine TL.nil ?_
        refine TX.next (.inl (by repeat (first | exact List.Sublist.slnil | exact List.nil_sublist _ | exact List.Sublist.refl _ | refine List.Sublist.cons_cons _ ?_ | refine List.Sublist.cons _ ?_ | refine List.Sublist.trans ?_ (List.sublist_append_right _ _)))) ?_
        refine TX.step [4] (by kernel_rfl) (by decide) ⟨⟨_, rfl, ?_⟩, trivial⟩
        refine TL.makeI rfl rfl Tb.sl_31 Tb.zi_3 (k := N) rfl (by omega) (by omega) rfl (by decide) (fun b12 hb12 => ?_)
        refine TL.nil ?_
        refine TX.next (.inl (by repeat (first | exact List.Sublist.slnil | exact List.nil_sublist _ | exact List.Sublist.refl _ | refine List.Sublist.cons_cons _ ?_ | refine List.Sublist.cons _ ?_ | refine List.Sublist.trans ?_ (List.sublist_append_right _ _)))) ?_
        refine TX.step [5] (by kernel_rfl) (by decide) ⟨⟨_, rfl, ?_⟩, trivial⟩
        refine TL.pure (PV.build rfl Tb.zero_51 Tb.pl_51 rfl) rfl (by decide) ?_
        refine TL.nil ?_
        refine TX.next (.inl (by repeat (first | exact List.Sublist.slnil | exact List.nil_sublist _ | exact List.Sublist.refl _ | refine List.Sublist.cons_cons _ ?_ | refine List.Sublist.cons _ ?_ | refine List.Sublist.trans ?_ (List.sublist_append_right _ _)))) ?_
        refine TX.step [7] (by kernel_rfl) (by decide) ⟨⟨_, rfl, ?_⟩, trivial⟩
        refine TL.storeAgg rfl rfl Tb.cells_51 (by repeat (first | exact Upd.head _ | apply Upd.tail | apply Upd.appR)) rfl rfl rfl rfl rfl ?_
        refine TL.nil ?_
        refine TX.next (.inr (by kernel_rfl)) ?_
        refine TX.done (by kernel_rfl) ?_
        refine TQ.thenN ?_
        refine TQ.perm (G' := (_, .cells #[.int .i64 (solD N rs loads), .slice (some ⟨_, 0, none⟩) N N] 51 (0, 0)) :: arrI _ (List.replicate N 0) :: outB e.1 e.2 (N + 1) :: (solB N rs loads e.2 ++ [(b1, .cells #[.int .i64 0, .slice none 0 0] 51 (0, 0)), (b0, .cells #[.int .i64 N, .slice p rs.length cap] 24 (0, 0))])) (by repeat (first | exact List.Perm.refl _ | refine permTake (by repeat (first | exact Take.head _ | apply Take.tail | apply Take.appR)) ?_ | refine permMid ?_)) ?_
        refine TQ.midK (_, _) (by repeat (first | exact True.intro | refine And.intro rfl ?_)) (by repeat (first | exact True.intro | refine And.intro rfl ?_)) (by repeat (first | exact List.Sublist.slnil | exact List.nil_sublist _ | exact List.Sublist.refl _ | refine List.Sublist.cons_cons _ ?_ | refine List.Sublist.cons _ ?_ | refine List.Sublist.trans ?_ (List.sublist_append_right _ _))) (by first | trivial | omega)
      · skip
        refine TL.makeI rfl rfl Tb.sl_31 Tb.zi_3 (k := N) rfl (by omega) (by omega) rfl (by decide) (fun b13 hb13 => ?_)
        refine TL.nil ?_
        refine TX.next (.inl (by repeat (first | exact List.Sublist.slnil | exact List.nil_sublist _ | exact List.Sublist.refl _ | refine List.Sublist.cons_cons _ ?_ | refine List.Sublist.cons _ ?_ | refine List.Sublist.trans ?_ (List.sublist_append_right _ _)))) ?_
        refine TX.step [1] (by kernel_rfl) (by decide) ⟨⟨_, rfl, ?_⟩, trivial⟩
        refine TL.callW (X := Unit) (fun _ => .int .i64 (solD N rs loads)) (fun _ => True) _ rfl Tb.gofn_106 (fun a w hs => (by first | exact eliminate_ok w0 w e.1 e.2 [(b1, .cells #[.int .i64 0, .slice none 0 0] 51 (0, 0)), (b0, .cells #[.int .i64 N, .slice p rs.length cap] 24 (0, 0))] N (N + 1) (eqG N rs loads) hel (by omega) hsafe hs.new | exact eliminate_ok w0 w e.1 e.2 (_ :: [(b1, .cells #[.int .i64 0, .slice none 0 0] 51 (0, 0)), (b0, .cells #[.int .i64 N, .slice p rs.length cap] 24 (0, 0))]) N (N + 1) (eqG N rs loads) hel (by omega) hsafe (hs.new.perm (List.Perm.trans (List.Perm.cons _ List.perm_middle) (List.Perm.swap _ _ _))) | exact eliminate_ok w0 w e.1 e.2 (_ :: _ :: [(b1, .cells #[.int .i64 0, .slice none 0 0] 51 (0, 0)), (b0, .cells #[.int .i64 N, .slice p rs.length cap] 24 (0, 0))]) N (N + 1) (eqG N rs loads) hel (by omega) hsafe (hs.new.perm (List.Perm.trans (List.Perm.cons _ (List.Perm.trans List.perm_middle (List.Perm.cons _ List.perm_middle))) (List.Perm.trans (List.Perm.swap _ _ _) (List.Perm.cons _ (List.Perm.swap _ _ _))))))) rfl (by decide) (fun _ _ => ?_)
        refine TL.nil ?_
        refine TX.next (.inl (by repeat (first | exact List.Sublist.slnil | exact List.nil_sublist _ | exact List.Sublist.refl _ | refine List.Sublist.cons_cons _ ?_ | refine List.Sublist.cons _ ?_ | refine List.Sublist.trans ?_ (List.sublist_append_right _ _)))) ?_
        refine TX.step [5] (by kernel_rfl) (by decide) ⟨⟨_, rfl, ?_⟩, trivial⟩
        refine TL.pure (PV.build rfl Tb.zero_51 Tb.pl_51 rfl) rfl (by decide) ?_
        refine TL.nil ?_
        refine TX.next (.inl (by repeat (first | exact List.Sublist.slnil | exact List.nil_sublist _ | exact List.Sublist.refl _ | refine List.Sublist.cons_cons _ ?_ | refine List.Sublist.cons _ ?_ | refine List.Sublist.trans ?_ (List.sublist_append_right _ _)))) ?_
        refine TX.step [7] (by kernel_rfl) (by decide) ⟨⟨_, rfl, ?_⟩, trivial⟩
        refine TL.storeAgg rfl rfl Tb.cells_51 (by repeat (first | exact Upd.head _ | apply Upd.tail | apply Upd.appR)) rfl rfl rfl rfl rfl ?_
        refine TL.nil ?_
        refine TX.next (.inr (by kernel_rfl)) ?_
        refine TX.done (by kernel_rfl) ?_
        refine TQ.thenN ?_
        refine TQ.perm (G' := (_, .cells #[.int .i64 (solD N rs loads), .slice (some ⟨_, 0, none⟩) N N] 51 (0, 0)) :: arrI _ (List.replicate N 0) :: outB e.1 e.2 (N + 1) :: (solB N rs loads e.2 ++ [(b1, .cells #[.int .i64 0, .slice none 0 0] 51 (0, 0)), (b0, .cells #[.int .i64 N, .slice p rs.length cap] 24 (0, 0))])) (by repeat (first | exact List.Perm.refl _ | refine permTake (by repeat (first | exact Take.head _ | apply Take.tail | apply Take.appR)) ?_ | refine permMid ?_)) ?_
        refine TQ.midK (_, _) (by repeat (first | exact True.intro | refine And.intro rfl ?_)) (by repeat (first | exact True.intro | refine And.intro rfl ?_)) (by repeat (first | exact List.Sublist.slnil | exact List.nil_sublist _ | exact List.Sublist.refl _ | refine List.Sublist.cons_cons _ ?_ | refine List.Sublist.cons _ ?_ | refine List.Sublist.trans ?_ (List.sublist_append_right _ _))) (by first | trivial | omega)
  · skip
    intro x hx
    refine TC.seq ?_
    refine TC.seq ?_
    refine TC.region ?_
    refine TL.pure (PV.move rfl) rfl (by decide) ?_
    refine TL.pure (PV.len rfl Tb.sl_27) rfl (by decide) ?_
    refine TL.pure (PV.move rfl) rfl (by decide) ?_
    refine TL.nil ?_
    refine TQ.thenC ?_
    refine TC.block ?_
    refine TC.loopK [2, 4, 5, 6, 18] (X := Nat) (fun k => k ≤ N) (fun k => [(19, .int .i64 k)]) (fun k => (x.2, .cells #[.int .i64 (solD N rs loads), .slice (some ⟨x.1, 0, none⟩) N N] 51 (0, 0)) :: arrI x.1 (solZ N rs loads k) :: outB e.1 e.2 (N + 1) :: (solB N rs loads e.2 ++ [(b1, .cells #[.int .i64 0, .slice none 0 0] 51 (0, 0)), (b0, .cells #[.int .i64 N, .slice p rs.length cap] 24 (0, 0))])) (fun k => N - k) 0 (Nat.zero_le _) (by repeat (first | exact True.intro | refine And.intro rfl ?_)) (by rw [solZ_zero]; exact List.Sublist.refl _) ?_
    intro k hk
    refine TC.seq ?_
    refine TC.region ?_
    refine TL.pure (PV.lss rfl rfl) rfl (by decide) ?_
    refine TL.nil ?_
    refine TQ.thenC ?_
    refine TC.seq ?_
    first | refine TC.condD rfl (fun hlt => ?_) (fun hlt => ?_) | refine TC.cond rfl (fun hlt => ?_) (fun hlt => ?_)
    · skip
      refine TC.skip ?_
      refine TQ.thenC ?_
      refine TC.seq ?_
      refine TC.block ?_
      refine TC.seq ?_
      refine TC.region ?_
      refine TL.pure (PV.move rfl) rfl (by decide) ?_
      refine TL.pure (PV.assign rfl) rfl (by decide) ?_
      refine TL.nil ?_
      refine TQ.thenC ?_
      refine TC.draw 12 Tb.mixed (by kernel_rfl) ?_
      simp only [List.take_succ_cons, List.take_zero, List.drop_succ_cons, List.drop_zero]
      have hz := solZ_len N rs loads k
      refine TS.pure (PV.fieldAddr rfl Tb.fo_51_1) rfl (by decide) ?_
      refine TS.pure (PV.load rfl Tb.one_31 (by repeat (first | exact List.Mem.head _ | refine List.Mem.tail _ ?_ | refine List.mem_append_right _ ?_)) rfl) rfl (by decide) ?_
      refine TS.pure (PV.move rfl) rfl (by decide) ?_
      refine TS.pure (PV.move rfl) rfl (by decide) ?_
      refine TS.pure (PV.move rfl) rfl (by decide) ?_
      refine TS.pure (PV.index1 rfl rfl Tb.elm_27 rfl (by omega)) rfl (by decide) ?_
      refine TS.pure (PV.loadHead rfl Tb.one_31 (by repeat (first | exact List.Mem.head _ | refine List.Mem.tail _ ?_ | refine List.mem_append_right _ ?_)) (by omega)) rfl (by decide) ?_
      refine TS.pure (PV.fieldAddr rfl Tb.fo_24_0) rfl (by decide) ?_
      refine TS.pure (PV.load rfl Tb.one_3 (by repeat (first | exact List.Mem.head _ | refine List.Mem.tail _ ?_ | refine List.mem_append_right _ ?_)) rfl) rfl (by decide) ?_
      refine TS.pure (PV.index1 rfl rfl Tb.elm_31 rfl (by omega)) rfl (by decide) ?_
      refine TS.pure (PV.loadRow (m := tabM N (N + 1) (eS (eqG N rs loads) N).2) rfl Tb.one_3 (.tail _ (.tail _ (.tail _ (List.mem_append_left _ (mem_rowsH (m := tabM N (N + 1) (eS (eqG N rs loads) N).2) (by omega) (Nat.lt_of_lt_of_eq (by omega) (tabM_len _ _ _).symm)))))) (Nat.lt_of_lt_of_eq (by omega) ((tabM_sh _ _ _).2 k (by omega)).symm)) rfl (by decide) ?_
      refine TS.pure (PV.index1 rfl rfl Tb.elm_31 rfl (by omega)) rfl (by decide) ?_
      refine TS.nil ?_
      refine TL.storeI rfl rfl Tb.cells_3 (by repeat (first | exact Upd.head _ | apply Upd.tail | apply Upd.appR)) (by omega) rfl rfl ?_
      refine TL.congrG (G' := (x.2, .cells #[.int .i64 (solD N rs loads), .slice (some ⟨x.1, 0, none⟩) N N] 51 (0, 0)) :: arrI x.1 (solZ N rs loads (k + 1)) :: outB e.1 e.2 (N + 1) :: (solB N rs loads e.2 ++ [(b1, .cells #[.int .i64 0, .slice none 0 0] 51 (0, 0)), (b0, .cells #[.int .i64 N, .slice p rs.length cap] 24 (0, 0))])) (by rw [← solZ_set (by omega), ← show getM (tabM N (N + 1) (eS (eqG N rs loads) N).2) k N = solV N rs loads k from getM_tab (by omega) (by omega)]) ?_
      refine TL.nil ?_
      refine TQ.blkN ?_
      refine TQ.thenC ?_
      refine TC.region ?_
      refine TL.pure (PV.add rfl rfl (by omega)) rfl (by decide) ?_
      refine TL.pure (PV.move rfl) rfl (by decide) ?_
      refine TL.nil ?_
      refine TQ.thenN ?_
      refine TQ.backK (k + 1) (by repeat (first | exact True.intro | refine And.intro rfl ?_)) (by repeat (first | exact True.intro | refine And.intro rfl ?_)) (List.Sublist.refl _) (by omega) (by omega)
    · skip
      refine TC.exit ?_
      refine TQ.thenE ?_
      refine TQ.thenE ?_
      refine TQ.blkS ?_
      refine TQ.thenC ?_
      refine TC.seq ?_
      refine TC.region ?_
      refine TL.pure (PV.loadBox rfl Tb.agg_51 (by repeat (first | exact List.Mem.head _ | refine List.Mem.tail _ ?_ | refine List.mem_append_right _ ?_)) rfl) rfl (by decide) ?_
      refine TL.storeAgg rfl rfl Tb.cells_51 (by repeat (first | exact Upd.head _ | apply Upd.tail | apply Upd.appR)) rfl rfl rfl rfl rfl ?_
      refine TL.nil ?_
      refine TQ.thenC ?_
      refine TC.ret ?_
      refine TQ.retR rfl (Res.agg rfl Tb.agg_51 (by repeat (first | exact List.Mem.head _ | refine List.Mem.tail _ ?_ | refine List.mem_append_right _ ?_)) rfl Res.nil) ?_
      simp only [tup]
      exact ⟨x.1, rfl, trivial, by rw [show solN (N : Int).toNat rs loads = solZ N rs loads k by rw [show k = N by omega, solZ_all]; rfl]; exact List.Sublist.cons _ (List.Sublist.cons_cons _ (List.nil_sublist _))⟩

end Go.Proofs.Ytmmgcajegokkoaa
