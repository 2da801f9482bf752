/- Hollows are numbered without gaps: the law's contract. -/
import Derived.Test.YtfgjojoipbbacaaDT
set_option linter.unusedVariables false
set_option linter.unusedSimpArgs false
namespace Go.Proofs.Ytfgjojoipbbacaa
open Go.Sx Go.RowKit

section
variable {P : Program} {n : Nat} {w0 : World} {E : Env} {G : Heap} {d : Option Nat} {ty : TypeId} {pos : String} {aft : Array Edge} {g : Option (Nat × Bool)}
theorem PV.conv {x : Operand} {k k2 : IntKind} {s t : Nat} {i v : Int} (hs : P.underlying s = some (.int k)) (ht : P.underlying t = some (.int k2)) (hx : evo E x = some (.int k i)) (hv : k2.wrap i = v) : PV P n w0 E G ⟨d, .convert s t x, ty, pos, aft, g⟩ (.int k2 v) :=
  fun a w hS => by
    subst hv
    simp only [execOp, hS.ev hx]
    simp [convert, run_underlying hs, run_underlying ht, Conv.intToInt]
theorem PV.remU {x y : Operand} {i j v : Int} {t t' : TypeId} (hx : evo E x = some (.int .u64 i)) (hy : evo E y = some (.int .u64 j)) (hj : j ≠ 0) (hv : i.tmod j = v) : PV P n w0 E G ⟨d, .binOp .rem t x y t', ty, pos, aft, g⟩ (.int .u64 v) :=
  fun a w hS => by
    subst hv
    simp only [execOp, hS.ev hx, hS.ev hy]; simp [go_sem, Op.intDiv, hj]
end
theorem int_3 : Try.prog.underlying 3 = some (.int .i64) := by kernel_rfl
theorem int_53 : Try.prog.underlying 53 = some (.int .u64) := by kernel_rfl
theorem wrap_u (i : Int) : 0 ≤ IntKind.u64.wrap i := by
  unfold IntKind.wrap
  have : 0 ≤ i % (2 ^ IntKind.u64.bits : Int) := Int.emod_nonneg _ (by decide)
  simp [IntKind.signed]
  exact this
theorem wrap_un {N : Int} (h0 : 0 ≤ N) (h1 : N ≤ 1000000) : IntKind.u64.wrap N = N := by
  unfold IntKind.wrap
  have : N % (2 ^ IntKind.u64.bits : Int) = N := Int.emod_eq_of_lt h0 (by show N < 18446744073709551616; omega)
  simp only [this]
  simp [IntKind.signed]
/-- The rank that is asked for. -/
theorem rank_of (i N : Int) (h0 : 1 ≤ N) (h1 : N ≤ 1000000) : ∃ r : Nat, (r : Int) < N ∧ (IntKind.u64.wrap i).tmod N = (r : Int) ∧ IntKind.i64.wrap (r : Int) = (r : Int) := by
  have ha := wrap_u i
  have h2 : 0 ≤ (IntKind.u64.wrap i).tmod N := Int.tmod_nonneg _ ha
  have h3 : (IntKind.u64.wrap i).tmod N < N := Int.tmod_lt_of_pos _ (by omega)
  refine ⟨((IntKind.u64.wrap i).tmod N).toNat, by omega, by omega, ?_⟩
  rw [IntKind.wrap_i64]
  omega
theorem asc_next {ls : List (List Int)} {r : Nat} (h : r + 1 < (allH ls).length) : cmpL ((allH ls).getD r []) ((allH ls).getD (r + 1) []) < 0 := by
  have h1 : r + 1 < (allL (dep ls) ls.length).length := h
  have := List.pairwise_iff_getElem.1 (all_asc (dep ls) ls.length) r (r + 1) (by omega) h1 (by omega)
  simp only [List.getD, List.getElem?_eq_getElem h, List.getElem?_eq_getElem (show r < (allH ls).length by omega), Option.getD_some]
  exact this
theorem asc_at {xs ys : List Int} {n c : Nat} (hx : xs.length = n) (hy : ys.length = n) (h : cmpL xs ys < 0) (hc : c < n) (he : ∀ j, j < c → xs.getD j 0 = ys.getD j 0) (hne : ¬ xs.getD c 0 = ys.getD c 0) : xs.getD c 0 < ys.getD c 0 := by
  have h0 : cmpI (xs.getD c 0) (ys.getD c 0) ≠ 0 := fun e => hne (cmpI_0 e)
  rw [cmpL_diff c (by omega) (by omega) he h0] at h
  unfold cmpI at h
  split at h
  · assumption
  · split at h <;> omega


set_option maxRecDepth 100000 in
set_option maxHeartbeats 2000000 in
theorem cutNumbers_ok (w0 : World) (p : Option Addr) (cap : Nat) (ls : List (List Int)) (hr : LsAt w0 p ls) (hl2 : ls.length ≤ 9223372036854775807) (hcap : CapsAt w0 p ls) (i : Int) (hi : -9223372036854775808 ≤ i ∧ i ≤ 9223372036854775807) :
    Calls Try.prog 10 #[bv p ls.length cap, .int .i64 i] w0 (Post (X := Unit) (fun _ => .bool true) (fun _ => True) (fun _ => []) w0) := by
  refine calls Try.func10 rfl (n := 118) rfl (by simp) ?_
  refine TC.seq ?_
  refine TC.region ?_
  refine TL.box rfl rfl (by decide) (fun b0 hb0 => ?_)
  refine TL.pure (PV.assign rfl) rfl (by decide) ?_
  refine TL.nil ?_
  refine TQ.thenC ?_
  refine TC.seq ?_
  refine TC.seq ?_
  refine TC.region ?_
  refine TL.pure (PV.loadBox rfl Tb.agg_24 (by repeat (first | exact List.Mem.head _ | refine List.Mem.tail _ ?_ | refine List.mem_append_right _ ?_)) rfl) rfl (by decide) ?_
  refine TL.call rfl Tb.gofn_17 (fun a w hs => long_ok w _ _ _ (hr.new hs.new) _ 0 [] (fun j hj => absurd hj (Nat.not_lt_zero _)) (by decide) hl2) rfl (by decide) (fun _ _ => ?_)
  refine TL.nil ?_
  refine TQ.thenC ?_
  first | refine TC.condD rfl (fun hlong => ?_) (fun hlong => ?_) | refine TC.cond rfl (fun hlong => ?_) (fun hlong => ?_)
  · skip
    refine TC.seq ?_
    refine TC.region ?_
    refine TL.call rfl Tb.gofn_18 (fun a w hs => sane_ok w) rfl (by decide) (fun _ _ => ?_)
    refine TL.pure (PV.assign rfl) rfl (by decide) ?_
    refine TL.nil ?_
    refine TQ.thenC ?_
    refine TC.ret ?_
    refine TQ.thenR ?_
    refine TQ.retE1 rfl rfl ?_
    first | exact ⟨(), rfl, trivial, List.nil_sublist _⟩ | contradiction | (exfalso; omega) | (exfalso; have he9 : urL ls (p9 : Int) = urL ls ((p9 : Int) + 1) := ints_ext (f3.trans g5.symm) (fun j hj => hc.2 j (by omega)); rw [he9, cmpL_self] at hasc; exact absurd hasc (by decide)) | (exfalso; simp_all; done)
  · skip
    refine TC.skip ?_
    refine TQ.thenC ?_
    refine TC.seq ?_
    refine TC.region ?_
    refine TL.pure (PV.loadBox rfl Tb.agg_24 (by repeat (first | exact List.Mem.head _ | refine List.Mem.tail _ ?_ | refine List.mem_append_right _ ?_)) rfl) rfl (by decide) ?_
    refine TL.call rfl Tb.gofn_45 (fun a w hs => Count_ok w _ _ _ (hr.new hs.new)) rfl (by decide) (fun c9 hc9 => ?_)
    refine TL.pure (PV.move rfl) rfl (by decide) ?_
    refine TL.pure (PV.extract rfl rfl) rfl (by decide) ?_
    refine TL.pure (PV.extract rfl rfl) rfl (by decide) ?_
    refine TL.pure (PV.assign rfl) rfl (by decide) ?_
    refine TL.pure (PV.assign rfl) rfl (by decide) ?_
    refine TL.nil ?_
    refine TQ.thenC ?_
    refine TC.seq ?_
    refine TC.seq ?_
    refine TC.region ?_
    refine TL.pure (PV.move rfl) rfl (by decide) ?_
    refine TL.pure (PV.neq rfl rfl) rfl (by decide) ?_
    refine TL.nil ?_
    refine TQ.thenC ?_
    first | refine TC.condD rfl (fun hbad => ?_) (fun hbad => ?_) | refine TC.cond rfl (fun hbad => ?_) (fun hbad => ?_)
    · skip
      refine TC.seq ?_
      refine TC.region ?_
      refine TL.pure (PV.move rfl) rfl (by decide) ?_
      refine TL.pure (PV.eql rfl rfl) rfl (by decide) ?_
      refine TL.pure (PV.move rfl) rfl (by decide) ?_
      first | refine TL.splitD 26 rfl (fun h2 => ?_) (fun h2 => ?_) | refine TL.split 26 rfl (fun h2 => ?_) (fun h2 => ?_)
      · skip
        refine TL.call rfl Tb.gofn_18 (fun a w hs => sane_ok w) rfl (by decide) (fun _ _ => ?_)
        refine TL.pure (PV.pickT rfl rfl) rfl (by decide) ?_
        refine TL.pure (PV.assign rfl) rfl (by decide) ?_
        refine TL.nil ?_
        refine TQ.thenC ?_
        refine TC.ret ?_
        refine TQ.thenR ?_
        refine TQ.retE1 rfl rfl ?_
        first | exact ⟨(), rfl, trivial, List.nil_sublist _⟩ | contradiction | (exfalso; omega) | (exfalso; have he9 : urL ls (p9 : Int) = urL ls ((p9 : Int) + 1) := ints_ext (f3.trans g5.symm) (fun j hj => hc.2 j (by omega)); rw [he9, cmpL_self] at hasc; exact absurd hasc (by decide)) | (exfalso; simp_all; done)
      · skip
        refine TL.skip rfl (fun k hk => by cases hk; decide) ?_
        refine TL.pure (PV.pickF rfl rfl) rfl (by decide) ?_
        refine TL.pure (PV.assign rfl) rfl (by decide) ?_
        refine TL.nil ?_
        refine TQ.thenC ?_
        refine TC.ret ?_
        refine TQ.thenR ?_
        refine TQ.retE1 rfl rfl ?_
        first | exact ⟨(), rfl, trivial, List.nil_sublist _⟩ | contradiction | (exfalso; omega) | (exfalso; have he9 : urL ls (p9 : Int) = urL ls ((p9 : Int) + 1) := ints_ext (f3.trans g5.symm) (fun j hj => hc.2 j (by omega)); rw [he9, cmpL_self] at hasc; exact absurd hasc (by decide)) | (exfalso; simp_all; done)
    · skip
      refine TC.skip ?_
      refine TQ.thenC ?_
      refine TC.seq ?_
      refine TC.seq ?_
      have hv0 : validI ls = 0 := Decidable.of_not_not hbad
      have hb := vb_of hbad
      have hcn := count_is hb (hc9 hv0)
      have hal := allH_15625 hb
      have hap : 0 < (allH ls).length := by have h7 := (all_ho hb _).2 (ho_zero hb); cases e : allH ls with | nil => rw [e] at h7; cases h7 | cons _ _ => simp
      rw [if_pos hv0, hcn]
      refine TC.region ?_
      refine TL.pure (PV.move rfl) rfl (by decide) ?_
      refine TL.pure (PV.lss rfl rfl) rfl (by decide) ?_
      refine TL.nil ?_
      refine TQ.thenC ?_
      first | refine TC.condD rfl (fun hn1 => ?_) (fun hn1 => ?_) | refine TC.cond rfl (fun hn1 => ?_) (fun hn1 => ?_)
      · skip
        refine TC.seq ?_
        refine TC.region ?_
        refine TL.pure (PV.assign rfl) rfl (by decide) ?_
        refine TL.nil ?_
        refine TQ.thenC ?_
        refine TC.ret ?_
        refine TQ.thenR ?_
        refine TQ.retE1 rfl rfl ?_
        first | exact ⟨(), rfl, trivial, List.nil_sublist _⟩ | contradiction | (exfalso; omega) | (exfalso; have he9 : urL ls (p9 : Int) = urL ls ((p9 : Int) + 1) := ints_ext (f3.trans g5.symm) (fun j hj => hc.2 j (by omega)); rw [he9, cmpL_self] at hasc; exact absurd hasc (by decide)) | (exfalso; simp_all; done)
      · skip
        refine TC.skip ?_
        refine TQ.thenC ?_
        refine TC.seq ?_
        obtain ⟨r, hrn, hrt, hri⟩ := rank_of i ((allH ls).length : Int) (by omega) (by omega)
        have hwn := wrap_un (N := ((allH ls).length : Int)) (by omega) (by omega)
        refine TC.region ?_
        refine TL.pure (PV.move rfl) rfl (by decide) ?_
        refine TL.pure (PV.conv int_3 int_53 rfl rfl) rfl (by decide) ?_
        refine TL.pure (PV.move rfl) rfl (by decide) ?_
        refine TL.pure (PV.conv int_3 int_53 rfl hwn) rfl (by decide) ?_
        refine TL.pure (PV.remU rfl rfl (by omega) hrt) rfl (by decide) ?_
        refine TL.pure (PV.conv int_53 int_3 rfl hri) rfl (by decide) ?_
        refine TL.pure (PV.assign rfl) rfl (by decide) ?_
        refine TL.nil ?_
        refine TQ.thenC ?_
        refine TC.seq ?_
        refine TC.region ?_
        refine TL.pure (PV.loadBox rfl Tb.agg_24 (by repeat (first | exact List.Mem.head _ | refine List.Mem.tail _ ?_ | refine List.mem_append_right _ ?_)) rfl) rfl (by decide) ?_
        refine TL.pure (PV.move rfl) rfl (by decide) ?_
        refine TL.call rfl Tb.gofn_49 (fun a w hs => Unrank_ok w _ _ _ (hr.new hs.new) (r : Int)) rfl (by decide) (fun x9 hx9 => ?_)
        refine TL.pure (PV.move rfl) rfl (by decide) ?_
        refine TL.pure (PV.extract rfl rfl) rfl (by decide) ?_
        refine TL.pure (PV.extract rfl rfl) rfl (by decide) ?_
        refine TL.pure (PV.assign rfl) rfl (by decide) ?_
        refine TL.pure (PV.assign rfl) rfl (by decide) ?_
        refine TL.nil ?_
        refine TQ.thenC ?_
        refine TC.seq ?_
        refine TC.region ?_
        refine TL.pure (PV.loadBox rfl Tb.agg_24 (by repeat (first | exact List.Mem.head _ | refine List.Mem.tail _ ?_ | refine List.mem_append_right _ ?_)) rfl) rfl (by decide) ?_
        refine TL.pure (PV.move rfl) rfl (by decide) ?_
        refine TL.call rfl Tb.gofn_47 (fun a w hs => (by rw [show gval x9 (urL ls (r : Int)).length = .slice (gp x9) (urL ls (r : Int)).length (gc x9) from gval_eq hx9]; exact Rank_ok w _ _ _ (hr.new hs.new) _ _ (urL ls (r : Int)) (IntsAt.g (x := (x9, (urL ls (r : Int)))) hs.new (fun yy hyy => by simp only [List.mem_append, List.mem_cons]; simp [hyy]) hx9))) rfl (by decide) (fun p9 hp9 => ?_)
        refine TL.pure (PV.move rfl) rfl (by decide) ?_
        refine TL.pure (PV.extract rfl rfl) rfl (by decide) ?_
        refine TL.pure (PV.extract rfl rfl) rfl (by decide) ?_
        refine TL.pure (PV.assign rfl) rfl (by decide) ?_
        refine TL.pure (PV.assign rfl) rfl (by decide) ?_
        refine TL.nil ?_
        refine TQ.thenC ?_
        refine TC.seq ?_
        refine TC.seq ?_
        have f0 : urI ls (r : Int) = 0 := ur_0 hbad (by omega)
        have fL : (urL ls (r : Int)) = (allH ls).getD r [] := by rw [urL_ok f0, Int.toNat_natCast]
        have hhr := ho_at hb (show r < (allH ls).length by omega)
        have f1 : holI ls (urL ls (r : Int)) = 0 := by rw [fL]; exact ho_to hbad hhr
        have f2 : p9 = r := by obtain ⟨a1, a2⟩ := hp9.ok f1; exact nodup_at allH_nodup a1 (by omega) (a2.trans fL)
        have f3 : (urL ls (r : Int)).length = ls.length := by rw [fL]; exact hhr.len
        subst f2
        rw [f0, f1]
        refine TC.region ?_
        refine TL.pure (PV.move rfl) rfl (by decide) ?_
        refine TL.pure (PV.neq rfl rfl) rfl (by decide) ?_
        refine TL.pure (PV.move rfl) rfl (by decide) ?_
        first | refine TL.splitD 51 rfl (fun h4 => ?_) (fun h4 => ?_) | refine TL.split 51 rfl (fun h4 => ?_) (fun h4 => ?_)
        · skip
          refine TL.skip rfl (fun k hk => by cases hk; decide) ?_
          refine TL.skip rfl (fun k hk => by cases hk; decide) ?_
          refine TL.pure (PV.pickT rfl rfl) rfl (by decide) ?_
          refine TL.pure (PV.move rfl) rfl (by decide) ?_
          refine TL.skip rfl (fun k hk => by cases hk; decide) ?_
          refine TL.skip rfl (fun k hk => by cases hk; decide) ?_
          refine TL.skip rfl (fun k hk => by cases hk; decide) ?_
          refine TL.pure (PV.pickT rfl rfl) rfl (by decide) ?_
          refine TL.pure (PV.move rfl) rfl (by decide) ?_
          refine TL.skip rfl (fun k hk => by cases hk; decide) ?_
          refine TL.skip rfl (fun k hk => by cases hk; decide) ?_
          refine TL.skip rfl (fun k hk => by cases hk; decide) ?_
          refine TL.skip rfl (fun k hk => by cases hk; decide) ?_
          refine TL.pure (PV.pickT rfl rfl) rfl (by decide) ?_
          refine TL.nil ?_
          refine TQ.thenC ?_
          refine TC.condT rfl ?_
          refine TC.seq ?_
          refine TC.region ?_
          refine TL.pure (PV.assign rfl) rfl (by decide) ?_
          refine TL.nil ?_
          refine TQ.thenC ?_
          refine TC.ret ?_
          refine TQ.thenR ?_
          refine TQ.retE1 rfl rfl ?_
          first | exact ⟨(), rfl, trivial, List.nil_sublist _⟩ | contradiction | (exfalso; omega) | (exfalso; have he9 : urL ls (p9 : Int) = urL ls ((p9 : Int) + 1) := ints_ext (f3.trans g5.symm) (fun j hj => hc.2 j (by omega)); rw [he9, cmpL_self] at hasc; exact absurd hasc (by decide)) | (exfalso; simp_all; done)
        · skip
          refine TL.pure (PV.move rfl) rfl (by decide) ?_
          refine TL.pure (PV.neq rfl rfl) rfl (by decide) ?_
          refine TL.pure (PV.pickF rfl rfl) rfl (by decide) ?_
          refine TL.pure (PV.move rfl) rfl (by decide) ?_
          first | refine TL.splitD 55 rfl (fun h5 => ?_) (fun h5 => ?_) | refine TL.split 55 rfl (fun h5 => ?_) (fun h5 => ?_)
          · skip
            refine TL.skip rfl (fun k hk => by cases hk; decide) ?_
            refine TL.skip rfl (fun k hk => by cases hk; decide) ?_
            refine TL.skip rfl (fun k hk => by cases hk; decide) ?_
            refine TL.pure (PV.pickT rfl rfl) rfl (by decide) ?_
            refine TL.pure (PV.move rfl) rfl (by decide) ?_
            refine TL.skip rfl (fun k hk => by cases hk; decide) ?_
            refine TL.skip rfl (fun k hk => by cases hk; decide) ?_
            refine TL.skip rfl (fun k hk => by cases hk; decide) ?_
            refine TL.skip rfl (fun k hk => by cases hk; decide) ?_
            refine TL.pure (PV.pickT rfl rfl) rfl (by decide) ?_
            refine TL.nil ?_
            refine TQ.thenC ?_
            refine TC.condT rfl ?_
            refine TC.seq ?_
            refine TC.region ?_
            refine TL.pure (PV.assign rfl) rfl (by decide) ?_
            refine TL.nil ?_
            refine TQ.thenC ?_
            refine TC.ret ?_
            refine TQ.thenR ?_
            refine TQ.retE1 rfl rfl ?_
            first | exact ⟨(), rfl, trivial, List.nil_sublist _⟩ | contradiction | (exfalso; omega) | (exfalso; have he9 : urL ls (p9 : Int) = urL ls ((p9 : Int) + 1) := ints_ext (f3.trans g5.symm) (fun j hj => hc.2 j (by omega)); rw [he9, cmpL_self] at hasc; exact absurd hasc (by decide)) | (exfalso; simp_all; done)
          · skip
            refine TL.pure (PV.move rfl) rfl (by decide) ?_
            refine TL.pure (PV.move rfl) rfl (by decide) ?_
            refine TL.pure (PV.neq rfl rfl) rfl (by decide) ?_
            refine TL.pure (PV.pickF rfl rfl) rfl (by decide) ?_
            refine TL.pure (PV.move rfl) rfl (by decide) ?_
            first | refine TL.splitD 60 rfl (fun h6 => ?_) (fun h6 => ?_) | refine TL.split 60 rfl (fun h6 => ?_) (fun h6 => ?_)
            · skip
              refine TL.skip rfl (fun k hk => by cases hk; decide) ?_
              refine TL.skip rfl (fun k hk => by cases hk; decide) ?_
              refine TL.skip rfl (fun k hk => by cases hk; decide) ?_
              refine TL.skip rfl (fun k hk => by cases hk; decide) ?_
              refine TL.pure (PV.pickT rfl rfl) rfl (by decide) ?_
              refine TL.nil ?_
              refine TQ.thenC ?_
              refine TC.condT rfl ?_
              refine TC.seq ?_
              refine TC.region ?_
              refine TL.pure (PV.assign rfl) rfl (by decide) ?_
              refine TL.nil ?_
              refine TQ.thenC ?_
              refine TC.ret ?_
              refine TQ.thenR ?_
              refine TQ.retE1 rfl rfl ?_
              first | exact ⟨(), rfl, trivial, List.nil_sublist _⟩ | contradiction | (exfalso; omega) | (exfalso; have he9 : urL ls (p9 : Int) = urL ls ((p9 : Int) + 1) := ints_ext (f3.trans g5.symm) (fun j hj => hc.2 j (by omega)); rw [he9, cmpL_self] at hasc; exact absurd hasc (by decide)) | (exfalso; simp_all; done)
            · skip
              refine TL.pure (PV.loadBox rfl Tb.agg_24 (by repeat (first | exact List.Mem.head _ | refine List.Mem.tail _ ?_ | refine List.mem_append_right _ ?_)) rfl) rfl (by decide) ?_
              refine TL.pure (PV.move rfl) rfl (by decide) ?_
              refine TL.call rfl Tb.gofn_23 (fun a w hs => (by rw [show gval x9 (urL ls (p9 : Int)).length = .slice (gp x9) (urL ls (p9 : Int)).length (gc x9) from gval_eq hx9]; exact checkHollow_ok w _ _ _ (hr.new hs.new) _ _ (urL ls (p9 : Int)) (IntsAt.g (x := (x9, (urL ls (p9 : Int)))) hs.new (fun yy hyy => by simp only [List.mem_append, List.mem_cons]; simp [hyy]) hx9))) rfl (by decide) (fun _ _ => ?_)
              refine TL.pure (PV.neq rfl rfl) rfl (by decide) ?_
              refine TL.pure (PV.pickF rfl rfl) rfl (by decide) ?_
              refine TL.nil ?_
              refine TQ.thenC ?_
              first | refine TC.condD rfl (fun g1 => ?_) (fun g1 => ?_) | refine TC.cond rfl (fun g1 => ?_) (fun g1 => ?_)
              · skip
                refine TC.seq ?_
                refine TC.region ?_
                refine TL.pure (PV.assign rfl) rfl (by decide) ?_
                refine TL.nil ?_
                refine TQ.thenC ?_
                refine TC.ret ?_
                refine TQ.thenR ?_
                refine TQ.retE1 rfl rfl ?_
                first | exact ⟨(), rfl, trivial, List.nil_sublist _⟩ | contradiction | (exfalso; omega) | (exfalso; have he9 : urL ls (p9 : Int) = urL ls ((p9 : Int) + 1) := ints_ext (f3.trans g5.symm) (fun j hj => hc.2 j (by omega)); rw [he9, cmpL_self] at hasc; exact absurd hasc (by decide)) | (exfalso; simp_all; done)
              · skip
                refine TC.skip ?_
                refine TQ.thenC ?_
                refine TC.seq ?_
                refine TC.region ?_
                refine TL.pure (PV.loadBox rfl Tb.agg_24 (by repeat (first | exact List.Mem.head _ | refine List.Mem.tail _ ?_ | refine List.mem_append_right _ ?_)) rfl) rfl (by decide) ?_
                refine TL.pure (PV.move rfl) rfl (by decide) ?_
                refine TL.pure (PV.add rfl rfl (by omega)) rfl (by decide) ?_
                refine TL.call rfl Tb.gofn_49 (fun a w hs => Unrank_ok w _ _ _ (hr.new hs.new) ((p9 : Int) + 1)) rfl (by decide) (fun y9 hy9 => ?_)
                refine TL.pure (PV.move rfl) rfl (by decide) ?_
                refine TL.pure (PV.extract rfl rfl) rfl (by decide) ?_
                refine TL.pure (PV.extract rfl rfl) rfl (by decide) ?_
                refine TL.pure (PV.assign rfl) rfl (by decide) ?_
                refine TL.pure (PV.assign rfl) rfl (by decide) ?_
                refine TL.nil ?_
                refine TQ.thenC ?_
                refine TC.seq ?_
                refine TC.seq ?_
                refine TC.region ?_
                refine TL.pure (PV.move rfl) rfl (by decide) ?_
                refine TL.pure (PV.add rfl rfl (by omega)) rfl (by decide) ?_
                refine TL.pure (PV.move rfl) rfl (by decide) ?_
                refine TL.pure (PV.eql rfl rfl) rfl (by decide) ?_
                refine TL.nil ?_
                refine TQ.thenC ?_
                first | refine TC.condD rfl (fun g2 => ?_) (fun g2 => ?_) | refine TC.cond rfl (fun g2 => ?_) (fun g2 => ?_)
                · skip
                  have g4 : urI ls ((p9 : Int) + 1) = 4 := ur_4 hbad (by omega)
                  rw [g4]
                  refine TC.seq ?_
                  refine TC.region ?_
                  refine TL.pure (PV.move rfl) rfl (by decide) ?_
                  refine TL.pure (PV.eql rfl rfl) rfl (by decide) ?_
                  refine TL.pure (PV.move rfl) rfl (by decide) ?_
                  first | refine TL.splitD 79 rfl (fun h9 => ?_) (fun h9 => ?_) | refine TL.split 79 rfl (fun h9 => ?_) (fun h9 => ?_)
                  · skip
                    refine TL.call rfl Tb.gofn_18 (fun a w hs => sane_ok w) rfl (by decide) (fun _ _ => ?_)
                    refine TL.pure (PV.pickT rfl rfl) rfl (by decide) ?_
                    refine TL.pure (PV.assign rfl) rfl (by decide) ?_
                    refine TL.nil ?_
                    refine TQ.thenC ?_
                    refine TC.ret ?_
                    refine TQ.thenR ?_
                    refine TQ.retE1 rfl rfl ?_
                    first | exact ⟨(), rfl, trivial, List.nil_sublist _⟩ | contradiction | (exfalso; omega) | (exfalso; have he9 : urL ls (p9 : Int) = urL ls ((p9 : Int) + 1) := ints_ext (f3.trans g5.symm) (fun j hj => hc.2 j (by omega)); rw [he9, cmpL_self] at hasc; exact absurd hasc (by decide)) | (exfalso; simp_all; done)
                  · skip
                    refine TL.skip rfl (fun k hk => by cases hk; decide) ?_
                    refine TL.pure (PV.pickF rfl rfl) rfl (by decide) ?_
                    refine TL.pure (PV.assign rfl) rfl (by decide) ?_
                    refine TL.nil ?_
                    refine TQ.thenC ?_
                    refine TC.ret ?_
                    refine TQ.thenR ?_
                    refine TQ.retE1 rfl rfl ?_
                    first | exact ⟨(), rfl, trivial, List.nil_sublist _⟩ | contradiction | (exfalso; omega) | (exfalso; have he9 : urL ls (p9 : Int) = urL ls ((p9 : Int) + 1) := ints_ext (f3.trans g5.symm) (fun j hj => hc.2 j (by omega)); rw [he9, cmpL_self] at hasc; exact absurd hasc (by decide)) | (exfalso; simp_all; done)
                · skip
                  have hr1 : p9 + 1 < (allH ls).length := by omega
                  have g4 : urI ls ((p9 : Int) + 1) = 0 := ur_0 hbad (by omega)
                  have gL : urL ls ((p9 : Int) + 1) = (allH ls).getD (p9 + 1) [] := by rw [urL_ok g4]; congr 1
                  have hhn := ho_at hb hr1
                  have g5 : (urL ls ((p9 : Int) + 1)).length = ls.length := by rw [gL]; exact hhn.len
                  have hasc := asc_next hr1
                  rw [← fL, ← gL] at hasc
                  have hnn := hb.n
                  rw [g4]
                  refine TC.skip ?_
                  refine TQ.thenC ?_
                  refine TC.seq ?_
                  refine TC.seq ?_
                  refine TC.region ?_
                  refine TL.pure (PV.move rfl) rfl (by decide) ?_
                  refine TL.pure (PV.neq rfl rfl) rfl (by decide) ?_
                  refine TL.pure (PV.move rfl) rfl (by decide) ?_
                  first | refine TL.splitD 84 rfl (fun h10 => ?_) (fun h10 => ?_) | refine TL.split 84 rfl (fun h10 => ?_) (fun h10 => ?_)
                  · skip
                    refine TL.skip rfl (fun k hk => by cases hk; decide) ?_
                    refine TL.skip rfl (fun k hk => by cases hk; decide) ?_
                    refine TL.skip rfl (fun k hk => by cases hk; decide) ?_
                    refine TL.skip rfl (fun k hk => by cases hk; decide) ?_
                    refine TL.skip rfl (fun k hk => by cases hk; decide) ?_
                    refine TL.pure (PV.pickT rfl rfl) rfl (by decide) ?_
                    refine TL.nil ?_
                    refine TQ.thenC ?_
                    refine TC.condT rfl ?_
                    refine TC.seq ?_
                    refine TC.region ?_
                    refine TL.pure (PV.assign rfl) rfl (by decide) ?_
                    refine TL.nil ?_
                    refine TQ.thenC ?_
                    refine TC.ret ?_
                    refine TQ.thenR ?_
                    refine TQ.retE1 rfl rfl ?_
                    first | exact ⟨(), rfl, trivial, List.nil_sublist _⟩ | contradiction | (exfalso; omega) | (exfalso; have he9 : urL ls (p9 : Int) = urL ls ((p9 : Int) + 1) := ints_ext (f3.trans g5.symm) (fun j hj => hc.2 j (by omega)); rw [he9, cmpL_self] at hasc; exact absurd hasc (by decide)) | (exfalso; simp_all; done)
                  · skip
                    refine TL.pure (PV.move rfl) rfl (by decide) ?_
                    refine TL.pure (PV.lenG rfl hy9 Tb.sl_25) rfl (by decide) ?_
                    refine TL.pure (PV.move rfl) rfl (by decide) ?_
                    refine TL.pure (PV.lenG rfl hx9 Tb.sl_25) rfl (by decide) ?_
                    refine TL.pure (PV.neq rfl rfl) rfl (by decide) ?_
                    refine TL.pure (PV.pickF rfl rfl) rfl (by decide) ?_
                    refine TL.nil ?_
                    refine TQ.thenC ?_
                    first | refine TC.condD rfl (fun g3 => ?_) (fun g3 => ?_) | refine TC.cond rfl (fun g3 => ?_) (fun g3 => ?_)
                    · skip
                      refine TC.seq ?_
                      refine TC.region ?_
                      refine TL.pure (PV.assign rfl) rfl (by decide) ?_
                      refine TL.nil ?_
                      refine TQ.thenC ?_
                      refine TC.ret ?_
                      refine TQ.thenR ?_
                      refine TQ.retE1 rfl rfl ?_
                      first | exact ⟨(), rfl, trivial, List.nil_sublist _⟩ | contradiction | (exfalso; omega) | (exfalso; have he9 : urL ls (p9 : Int) = urL ls ((p9 : Int) + 1) := ints_ext (f3.trans g5.symm) (fun j hj => hc.2 j (by omega)); rw [he9, cmpL_self] at hasc; exact absurd hasc (by decide)) | (exfalso; simp_all; done)
                    · skip
                      refine TC.skip ?_
                      refine TQ.thenC ?_
                      refine TC.seq ?_
                      refine TC.seq ?_
                      refine TC.region ?_
                      refine TL.pure (PV.assign rfl) rfl (by decide) ?_
                      refine TL.nil ?_
                      refine TQ.thenC ?_
                      refine TC.block ?_
                      -- live and written in the loop, not told: [4]
                      refine TC.loopG [7, 11] (X := Nat) (fun c => c ≤ ls.length ∧ ∀ j, j < c → (urL ls (p9 : Int)).getD j 0 = (urL ls ((p9 : Int) + 1)).getD j 0) (fun c => [(13, .int .i64 c)]) (fun c => ls.length - c) 0 ⟨Nat.zero_le _, fun j hj => absurd hj (Nat.not_lt_zero _)⟩ (by repeat (first | exact True.intro | refine And.intro rfl ?_)) ?_
                      intro c hc
                      refine TC.seq ?_
                      refine TC.seq ?_
                      refine TC.region ?_
                      refine TL.pure (PV.move rfl) rfl (by decide) ?_
                      refine TL.pure (PV.move rfl) rfl (by decide) ?_
                      refine TL.pure (PV.lenG rfl hx9 Tb.sl_25) rfl (by decide) ?_
                      refine TL.pure (PV.lss rfl rfl) rfl (by decide) ?_
                      refine TL.nil ?_
                      refine TQ.thenC ?_
                      first | refine TC.condD rfl (fun hlt => ?_) (fun hlt => ?_) | refine TC.cond rfl (fun hlt => ?_) (fun hlt => ?_)
                      · skip
                        refine TC.skip ?_
                        refine TQ.thenC ?_
                        refine TC.seq ?_
                        refine TC.block ?_
                        refine TC.seq ?_
                        refine TC.any Tb.mixed rfl rfl ?_
                        refine TA.op (OpOK.pure (PV.move rfl) rfl (by decide)) (by decide) ?_
                        refine TA.op (OpOK.pure (PV.move rfl) rfl (by decide)) (by decide) ?_
                        refine TA.op (OpOK.pure (PV.indexG (j := c) rfl rfl hx9 Tb.elm_25 rfl (by omega)) rfl (by decide)) (by decide) ?_
                        refine TA.op (OpOK.pure (PV.loadGI (y := (x9, urL ls (p9 : Int))) (j := c) (v := (urL ls (p9 : Int)).getD c 0) rfl Tb.one_3 (fun yy hyy => by simp only [List.mem_append, List.mem_cons]; simp [hyy]) hx9 (by show c < (urL ls (p9 : Int)).length; omega) rfl) rfl (by decide)) (by decide) ?_
                        refine TA.op (OpOK.pure (PV.move rfl) rfl (by decide)) (by decide) ?_
                        refine TA.op (OpOK.pure (PV.move rfl) rfl (by decide)) (by decide) ?_
                        refine TA.op (OpOK.pure (PV.indexG (j := c) rfl rfl hy9 Tb.elm_25 rfl (by omega)) rfl (by decide)) (by decide) ?_
                        refine TA.op (OpOK.pure (PV.loadGI (y := (y9, urL ls ((p9 : Int) + 1))) (j := c) (v := (urL ls ((p9 : Int) + 1)).getD c 0) rfl Tb.one_3 (fun yy hyy => by simp only [List.mem_append, List.mem_cons]; simp [hyy]) hy9 (by show c < (urL ls ((p9 : Int) + 1)).length; omega) rfl) rfl (by decide)) (by decide) ?_
                        refine TA.op (OpOK.pure (PV.neq rfl rfl) rfl (by decide)) (by decide) ?_
                        show TQ _ _ _ _ _
                        refine TQ.thenC ?_
                        first | refine TC.condD rfl (fun hne => ?_) (fun hne => ?_) | refine TC.cond rfl (fun hne => ?_) (fun hne => ?_)
                        · skip
                          have hlt9 := asc_at f3 g5 hasc (c := c) (by omega) hc.2 hne
                          refine TC.seq ?_
                          refine TC.any Tb.mixed rfl rfl ?_
                          refine TA.op (OpOK.pure (PV.move rfl) rfl (by decide)) (by decide) ?_
                          refine TA.op (OpOK.pure (PV.move rfl) rfl (by decide)) (by decide) ?_
                          refine TA.op (OpOK.pure (PV.indexG (j := c) rfl rfl hx9 Tb.elm_25 rfl (by omega)) rfl (by decide)) (by decide) ?_
                          refine TA.op (OpOK.pure (PV.loadGI (y := (x9, urL ls (p9 : Int))) (j := c) (v := (urL ls (p9 : Int)).getD c 0) rfl Tb.one_3 (fun yy hyy => by simp only [List.mem_append, List.mem_cons]; simp [hyy]) hx9 (by show c < (urL ls (p9 : Int)).length; omega) rfl) rfl (by decide)) (by decide) ?_
                          refine TA.op (OpOK.pure (PV.move rfl) rfl (by decide)) (by decide) ?_
                          refine TA.op (OpOK.pure (PV.move rfl) rfl (by decide)) (by decide) ?_
                          refine TA.op (OpOK.pure (PV.indexG (j := c) rfl rfl hy9 Tb.elm_25 rfl (by omega)) rfl (by decide)) (by decide) ?_
                          refine TA.op (OpOK.pure (PV.loadGI (y := (y9, urL ls ((p9 : Int) + 1))) (j := c) (v := (urL ls ((p9 : Int) + 1)).getD c 0) rfl Tb.one_3 (fun yy hyy => by simp only [List.mem_append, List.mem_cons]; simp [hyy]) hy9 (by show c < (urL ls ((p9 : Int) + 1)).length; omega) rfl) rfl (by decide)) (by decide) ?_
                          refine TA.op (OpOK.pure (PV.lss rfl rfl) rfl (by decide)) (by decide) ?_
                          refine TA.op (OpOK.pure (PV.move rfl) rfl (by decide)) (by decide) ?_
                          first | refine TA.splitD 115 rfl (fun h14 => ?_) (fun h14 => ?_) | refine TA.split 115 rfl (fun h14 => ?_) (fun h14 => ?_)
                          · skip
                            refine TA.op (OpOK.call rfl Tb.gofn_18 (fun a w hs => sane_ok w) rfl (by decide)) (by decide) ?_
                            refine TA.op (OpOK.pure (PV.pickT rfl rfl) rfl (by decide)) (by decide) ?_
                            refine TA.op (OpOK.pure (PV.assign rfl) rfl (by decide)) (by decide) ?_
                            show TQ _ _ _ _ _
                            refine TQ.thenC ?_
                            refine TC.ret ?_
                            refine TQ.blkR ?_
                            refine TQ.thenR ?_
                            refine TQ.thenR ?_
                            refine TQ.blkR ?_
                            refine TQ.thenR ?_
                            refine TQ.retE1 rfl rfl ?_
                            first | exact ⟨(), rfl, trivial, List.nil_sublist _⟩ | contradiction | (exfalso; omega) | (exfalso; have he9 : urL ls (p9 : Int) = urL ls ((p9 : Int) + 1) := ints_ext (f3.trans g5.symm) (fun j hj => hc.2 j (by omega)); rw [he9, cmpL_self] at hasc; exact absurd hasc (by decide)) | (exfalso; simp_all; done)
                          · skip
                            refine TA.op (OpOK.skip rfl) (by decide) ?_
                            refine TA.op (OpOK.pure (PV.pickF rfl rfl) rfl (by decide)) (by decide) ?_
                            refine TA.op (OpOK.pure (PV.assign rfl) rfl (by decide)) (by decide) ?_
                            show TQ _ _ _ _ _
                            refine TQ.thenC ?_
                            refine TC.ret ?_
                            refine TQ.blkR ?_
                            refine TQ.thenR ?_
                            refine TQ.thenR ?_
                            refine TQ.blkR ?_
                            refine TQ.thenR ?_
                            refine TQ.retE1 rfl rfl ?_
                            first | exact ⟨(), rfl, trivial, List.nil_sublist _⟩ | contradiction | (exfalso; omega) | (exfalso; have he9 : urL ls (p9 : Int) = urL ls ((p9 : Int) + 1) := ints_ext (f3.trans g5.symm) (fun j hj => hc.2 j (by omega)); rw [he9, cmpL_self] at hasc; exact absurd hasc (by decide)) | (exfalso; simp_all; done)
                        · skip
                          refine TC.skip ?_
                          refine TQ.blkN ?_
                          refine TQ.thenC ?_
                          refine TC.region ?_
                          refine TL.pure (PV.move rfl) rfl (by decide) ?_
                          refine TL.pure (PV.add rfl rfl (by omega)) rfl (by decide) ?_
                          refine TL.pure (PV.assign rfl) rfl (by decide) ?_
                          refine TL.nil ?_
                          refine TQ.thenN ?_
                          refine TQ.backK (c + 1) (by repeat (first | exact True.intro | refine And.intro rfl ?_)) (by repeat (first | exact True.intro | refine And.intro rfl ?_)) (by repeat (first | exact List.Sublist.slnil | exact List.nil_sublist _ | exact List.Sublist.refl _ | refine List.Sublist.cons_cons _ ?_ | refine List.Sublist.cons _ ?_ | refine List.Sublist.trans ?_ (List.sublist_append_right _ _))) ⟨by omega, fun j hj => if e : j < c then hc.2 j e else (show c = j by omega) ▸ (by first | exact hne | omega)⟩ (by omega)
                      · skip
                        refine TC.exit ?_
                        refine TQ.thenE ?_
                        refine TQ.thenE ?_
                        refine TQ.blkS ?_
                        refine TQ.thenC ?_
                        refine TC.seq ?_
                        refine TC.region ?_
                        refine TL.pure (PV.assign rfl) rfl (by decide) ?_
                        refine TL.nil ?_
                        refine TQ.thenC ?_
                        refine TC.ret ?_
                        refine TQ.retE1 rfl rfl ?_
                        first | exact ⟨(), rfl, trivial, List.nil_sublist _⟩ | contradiction | (exfalso; omega) | (exfalso; have he9 : urL ls (p9 : Int) = urL ls ((p9 : Int) + 1) := ints_ext (f3.trans g5.symm) (fun j hj => hc.2 j (by omega)); rw [he9, cmpL_self] at hasc; exact absurd hasc (by decide)) | (exfalso; simp_all; done)

end Go.Proofs.Ytfgjojoipbbacaa
