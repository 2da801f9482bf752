/- The laws of orders. -/
import Derived.Test.YtaeobkgogipceaaDoorRc
import Derived.Test.YtaeobkgogipceaaDoorRa
set_option linter.unusedVariables false
set_option linter.unusedSimpArgs false
namespace Go.Proofs.YtaeobkgogipceaaDoor
open Go.Sx Go.RowKit

theorem mossEdges_ok (w0 : World) (ht : TzAt w0) (r c k w9 : Int) : Calls Tryd.prog 7 #[.agg #[.int .i64 r, .int .i64 c, .int .i64 k], .int .i64 w9] w0 (Post (X := Unit) (fun _ => .bool true) (fun _ => True) (fun _ => []) w0) := by
  by_cases hne : gI r c k w9 = 0
  · obtain ⟨m, S, ho, hS, rfl, rfl, rfl, rfl⟩ := gI_is hne
    exact mossEdges_v w0 ht m ho S hS
  · exact mossEdges_n w0 ht r c k w9 hne
theorem mossCores_ok (w0 : World) (ht : TzAt w0) (r c k w9 : Int) : Calls Tryd.prog 8 #[.agg #[.int .i64 r, .int .i64 c, .int .i64 k], .int .i64 w9] w0 (Post (X := Unit) (fun _ => .bool true) (fun _ => True) (fun _ => []) w0) := by
  by_cases hne : gI r c k w9 = 0
  · obtain ⟨m, S, ho, hS, rfl, rfl, rfl, rfl⟩ := gI_is hne
    exact mossCores_v w0 ht m ho S hS
  · exact mossCores_n w0 ht r c k w9 hne
theorem mossProofs_ok (w0 : World) (ht : TzAt w0) (r c k a9 w9 : Int) : Calls Tryd.prog 9 #[.agg #[.int .i64 r, .int .i64 c, .int .i64 k], .int .i64 a9, .int .i64 w9] w0 (Post (X := Unit) (fun _ => .bool true) (fun _ => True) (fun _ => []) w0) := by
  by_cases hne : ckI r c k a9 = 0 ∧ gI r c k w9 = 0
  · have h1 := hne.1
    obtain ⟨m, S, U, ho, hS, hU, rfl, rfl, rfl, rfl, rfl⟩ := two_is (ck_is hne.1) hne.2
    rw [ck_v ho hS] at h1
    have h2 : Mo.rdy m (Mo.dif (Mo.full m) S) = 0 := by
      by_cases h3 : Mo.rdy m (Mo.dif (Mo.full m) S) = 0
      · exact h3
      · rw [if_neg h3] at h1; cases h1
    exact mossProofs_v w0 ht m ho S hS U hU (isC_rdy.2 h2)
  · exact mossProofs_n w0 ht r c k a9 w9 hne
theorem coF_sub {m : Mo.Md} (ho : Mo.Ok m) {S : Nat} (hS : S < 2 ^ m.N) : ∀ (xs : List Int) (W k : Nat), xs.all (sqB m) = true → Mo.Sub S W → Mo.Sub W (Mo.en m S) → (coF m W k xs).2.2 = 0 → Mo.Sub S (coF m W k xs).1 ∧ Mo.Sub (coF m W k xs).1 (Mo.en m S)
  | [], W, k, _, h1, h2, _ => ⟨h1, h2⟩
  | x :: xs, W, k, hall, h1, h2, h3 => by
    rw [List.all_cons, Bool.and_eq_true] at hall
    have hx : 0 ≤ x ∧ x < ((m.N : Nat) : Int) := of_decide_eq_true hall.1
    unfold coF at h3 ⊢
    by_cases hr : Mo.rdB m W x.toNat = true
    · rw [if_pos hr] at h3 ⊢
      exact coF_sub ho hS xs _ _ hall.2 (h1.trans (Mo.or_left _ _)) (Mo.rd_in ho hS h2 (by omega) hr) h3
    · rw [if_neg hr] at h3; cases h3
theorem coF_ord {m : Mo.Md} : ∀ (l : List Nat) (W k : Nat), Mo.okO m W l = true → coF m W k (ofN l) = (Mo.adds W l, k + l.length, 0)
  | [], W, k, _ => rfl
  | s :: l, W, k, h => by
    have h1 := (Bool.and_eq_true _ _).mp h
    have h2 := (Bool.and_eq_true _ _).mp h1.1
    show coF m W k ((s : Int) :: ofN l) = _
    unfold coF
    rw [show ((s : Int)).toNat = s from rfl, if_pos h2.2, coF_ord l _ _ h1.2]
    show (_, k + 1 + l.length, (0 : Int)) = (_, k + (l.length + 1), (0 : Int))
    rw [show k + 1 + l.length = k + (l.length + 1) by omega]; rfl
theorem okO_sq {m : Mo.Md} : ∀ (l : List Nat) (W : Nat), Mo.okO m W l = true → (ofN l).all (sqB m) = true
  | [], _, _ => rfl
  | s :: l, W, h => by
    have h1 := (Bool.and_eq_true _ _).mp h
    have h2 := (Bool.and_eq_true _ _).mp h1.1
    show (sqB m (s : Int) && (ofN l).all (sqB m)) = true
    rw [okO_sq l _ h1.2, Bool.and_true]
    have := of_decide_eq_true h2.1
    exact decide_eq_true (by omega)
theorem coT_ord {m : Mo.Md} (ho : Mo.Ok m) {S : Nat} (hS : S < 2 ^ m.N) : coT m.R m.C m.K S (ofN (Mo.ordL m S)) = (Mo.en m S, (Mo.ordL m S).length, 0) := by
  have h := Mo.ord_all ho hS
  rw [coT_ok ho hS, if_pos (okO_sq _ _ h.1), coF_ord _ _ _ h.1, h.2.1, Nat.zero_add]
theorem CheckOrder_v {w0 : World} (ht : TzAt w0) {m : Mo.Md} {S : Nat} (vo : Value) (xs : List Int) (hxo : IsI w0 vo xs) (hl : xs.length ≤ 1000000) {A n : Nat} {e : Int} (hc : coT m.R m.C m.K S xs = (A, n, e)) : Calls Tryd.prog 38 #[mV m, .int .i64 S, vo] w0 (Post (X := Unit) (fun _ => .tuple #[.int .i64 A, .int .i64 n, .int .i64 e]) (fun _ => True) (fun _ => []) w0) := by
  have h := CheckOrder_ok w0 ht m.R m.C m.K S vo xs hxo hl
  rw [hc] at h
  exact h
section
variable {w0 : World} (ht : TzAt w0) {m : Mo.Md} (ho : Mo.Ok m) {S : Nat} (hS : S < 2 ^ m.N)
include ht ho hS
theorem Order_v : Calls Tryd.prog 40 #[mV m, .int .i64 S] w0 (Post (X := Value × Heap) (fun x => .tuple #[x.1, .int .i64 0]) (fun x => RdI (ofN (Mo.ordL m S)) x) (fun x => x.2) w0) := by
  have h := Order_ok w0 ht m.R m.C m.K S
  rw [oL_ok ho hS, gI_ok ho hS] at h
  exact h
end
theorem rCheckOrder_v {w0 : World} {m : Mo.Md} (ho : Mo.Ok m) {S : Nat} (hS : S < 2 ^ m.N) (vo : Value) (xs : List Int) (hxo : IsI w0 vo xs) (hl : xs.length ≤ 1000000) {A n : Nat} {e : Int} (hc : coT m.R m.C m.K S xs = (A, n, e)) : Calls Tryd.prog 39 #[mV m, .int .i64 S, vo] w0 (Post (X := Unit) (fun _ => .tuple #[.int .i64 A, .int .i64 n, .int .i64 e]) (fun _ => True) (fun _ => []) w0) := by
  have h := rCheckOrder_ok w0 m.R m.C m.K S vo xs hxo hl
  rw [hc] at h
  exact h
theorem rOrder_v {w0 : World} {m : Mo.Md} (ho : Mo.Ok m) {S : Nat} (hS : S < 2 ^ m.N) : Calls Tryd.prog 41 #[mV m, .int .i64 S] w0 (Post (X := Value × Heap) (fun x => .tuple #[x.1, .int .i64 0]) (fun x => RdI (ofN (Mo.ordL m S)) x) (fun x => x.2) w0) := by
  have h := rOrder_ok w0 m.R m.C m.K S
  rw [oL_ok ho hS, gI_ok ho hS] at h
  exact h
theorem oL_len (r c k w : Int) : (oL r c k w).length ≤ 1000000 := by
  by_cases h : gI r c k w = 0
  · obtain ⟨m, S, ho, hS, rfl, rfl, rfl, rfl⟩ := gI_is h
    rw [oL_ok ho hS, List.length_map]
    have := ord_lt ho hS
    omega
  · rw [oL_no h]; exact Nat.zero_le _


set_option maxRecDepth 100000 in
theorem mossOrders_v (w0 : World) (ht : TzAt w0) (m : Mo.Md) (ho : Mo.Ok m) (S : Nat) (hS : S < 2 ^ m.N) (po : Option Addr) (co : Nat) (xs : List Int) (hx : IntsAt w0 po xs) (A n9 : Nat) (hc : coT m.R m.C m.K S xs = (A, n9, 0)) (hall : xs.all (sqB m) = true) :
    Calls Tryd.prog 10 #[mV m, .int .i64 S, .slice po xs.length co] w0 (Post (X := Unit) (fun _ => .bool true) (fun _ => True) (fun _ => []) w0) := by
  have hco := hc
  rw [coT_ok ho hS, if_pos hall] at hco
  have hsb := coF_sub ho hS xs S 0 hall (Mo.Sub.refl S) (Mo.sub_en m S) (by rw [hco])
  rw [hco] at hsb
  have hA := hsb.2.lt (Mo.en_lt hS)
  have hA63 := set63 ho hA
  have hen63 := set63 ho (Mo.en_lt hS)
  have hae := Mo.en_eq ho hS hsb.1 hsb.2
  refine calls Tryd.func10 rfl (n := 90) rfl (by simp) ?_
  refine TC.seq ?_
  refine TC.region ?_
  refine TL.box rfl rfl (by decide) (fun b0 hb0 => ?_)
  refine TL.pure (PV.assign rfl) rfl (by decide) ?_
  refine TL.nil ?_
  refine TQ.thenC ?_
  refine TC.seq ?_
  refine TC.seq ?_
  refine TC.region ?_
  refine TL.pure (PV.move rfl) rfl (by decide) ?_
  refine TL.pure (PV.len rfl Tb.sl_24) rfl (by decide) ?_
  refine TL.pure (PV.gtr rfl rfl) rfl (by decide) ?_
  refine TL.nil ?_
  refine TQ.thenC ?_
  first | refine TC.condD rfl (fun hlen => ?_) (fun hlen => ?_) | refine TC.cond rfl (fun hlen => ?_) (fun hlen => ?_)
  · skip
    refine TC.seq ?_
    refine TC.region ?_
    refine TL.call rfl Tb.gofn_22 (fun a w hs => sane_ok w (ht.new hs.new)) rfl (by decide) (fun _ _ => ?_)
    refine TL.pure (PV.assign rfl) rfl (by decide) ?_
    refine TL.nil ?_
    refine TQ.thenC ?_
    refine TC.ret ?_
    refine TQ.thenR ?_
    refine TQ.retE1 rfl rfl ?_
    exact ⟨(), rfl, trivial, List.nil_sublist _⟩
  · skip
    refine TC.skip ?_
    refine TQ.thenC ?_
    refine TC.seq ?_
    refine TC.region ?_
    refine TL.pure (PV.loadBox rfl Tb.agg_23 (by repeat (first | exact List.Mem.head _ | refine List.Mem.tail _ ?_ | refine List.mem_append_right _ ?_)) rfl) rfl (by decide) ?_
    refine TL.pure (PV.move rfl) rfl (by decide) ?_
    refine TL.pure (PV.move rfl) rfl (by decide) ?_
    refine TL.call rfl Tb.gofn_38 (fun a w hs => CheckOrder_v (ht.new hs.new) _ xs ((IsI.of hx).new hs.new) (by omega) hc) rfl (by decide) (fun _ _ => ?_)
    refine TL.pure (PV.move rfl) rfl (by decide) ?_
    refine TL.pure (PV.extract rfl rfl) rfl (by decide) ?_
    refine TL.pure (PV.extract rfl rfl) rfl (by decide) ?_
    refine TL.pure (PV.extract rfl rfl) rfl (by decide) ?_
    refine TL.pure (PV.assign rfl) rfl (by decide) ?_
    refine TL.pure (PV.assign rfl) rfl (by decide) ?_
    refine TL.pure (PV.assign rfl) rfl (by decide) ?_
    refine TL.nil ?_
    refine TQ.thenC ?_
    refine TC.seq ?_
    refine TC.region ?_
    refine TL.pure (PV.loadBox rfl Tb.agg_23 (by repeat (first | exact List.Mem.head _ | refine List.Mem.tail _ ?_ | refine List.mem_append_right _ ?_)) rfl) rfl (by decide) ?_
    refine TL.pure (PV.move rfl) rfl (by decide) ?_
    refine TL.pure (PV.move rfl) rfl (by decide) ?_
    refine TL.call rfl Tb.gofn_39 (fun a w hs => rCheckOrder_v ho hS _ xs ((IsI.of hx).new hs.new) (by omega) hc) rfl (by decide) (fun _ _ => ?_)
    refine TL.pure (PV.move rfl) rfl (by decide) ?_
    refine TL.pure (PV.extract rfl rfl) rfl (by decide) ?_
    refine TL.pure (PV.extract rfl rfl) rfl (by decide) ?_
    refine TL.pure (PV.extract rfl rfl) rfl (by decide) ?_
    refine TL.pure (PV.assign rfl) rfl (by decide) ?_
    refine TL.pure (PV.assign rfl) rfl (by decide) ?_
    refine TL.pure (PV.assign rfl) rfl (by decide) ?_
    refine TL.nil ?_
    refine TQ.thenC ?_
    refine TC.seq ?_
    refine TC.seq ?_
    refine TC.region ?_
    refine TL.pure (PV.move rfl) rfl (by decide) ?_
    refine TL.pure (PV.move rfl) rfl (by decide) ?_
    refine TL.pure (PV.neqI rfl rfl) rfl (by decide) ?_
    refine TL.pure (PV.move rfl) rfl (by decide) ?_
    refine TL.pure (PV.move rfl) rfl (by decide) ?_
    refine TL.pure (PV.move rfl) rfl (by decide) ?_
    refine TL.pure (PV.neqI rfl rfl) rfl (by decide) ?_
    refine TL.pure (PV.pickF rfl rfl) rfl (by decide) ?_
    refine TL.pure (PV.move rfl) rfl (by decide) ?_
    refine TL.pure (PV.move rfl) rfl (by decide) ?_
    refine TL.pure (PV.move rfl) rfl (by decide) ?_
    refine TL.pure (PV.neqI rfl rfl) rfl (by decide) ?_
    refine TL.pure (PV.pickF rfl rfl) rfl (by decide) ?_
    refine TL.nil ?_
    refine TQ.thenC ?_
    refine TC.condF rfl ?_
    refine TC.skip ?_
    refine TQ.thenC ?_
    refine TC.seq ?_
    refine TC.seq ?_
    refine TC.region ?_
    refine TL.pure (PV.move rfl) rfl (by decide) ?_
    refine TL.pure (PV.neqI rfl rfl) rfl (by decide) ?_
    refine TL.nil ?_
    refine TQ.thenC ?_
    refine TC.condF rfl ?_
    refine TC.skip ?_
    refine TQ.thenC ?_
    refine TC.seq ?_
    refine TC.region ?_
    refine TL.pure (PV.loadBox rfl Tb.agg_23 (by repeat (first | exact List.Mem.head _ | refine List.Mem.tail _ ?_ | refine List.mem_append_right _ ?_)) rfl) rfl (by decide) ?_
    refine TL.pure (PV.move rfl) rfl (by decide) ?_
    refine TL.call rfl Tb.gofn_25 (fun a w hs => Spread_v (ht.new hs.new) ho hS) rfl (by decide) (fun _ _ => ?_)
    refine TL.pure (PV.move rfl) rfl (by decide) ?_
    refine TL.pure (PV.extract rfl rfl) rfl (by decide) ?_
    refine TL.pure (PV.extract rfl rfl) rfl (by decide) ?_
    refine TL.pure (PV.extract rfl rfl) rfl (by decide) ?_
    refine TL.pure (PV.assign rfl) rfl (by decide) ?_
    refine TL.pure (PV.assign rfl) rfl (by decide) ?_
    refine TL.pure (PV.assign rfl) rfl (by decide) ?_
    refine TL.nil ?_
    refine TQ.thenC ?_
    refine TC.seq ?_
    refine TC.region ?_
    refine TL.pure (PV.loadBox rfl Tb.agg_23 (by repeat (first | exact List.Mem.head _ | refine List.Mem.tail _ ?_ | refine List.mem_append_right _ ?_)) rfl) rfl (by decide) ?_
    refine TL.pure (PV.move rfl) rfl (by decide) ?_
    refine TL.call rfl Tb.gofn_25 (fun a w hs => Spread_v (ht.new hs.new) ho hA) rfl (by decide) (fun _ _ => ?_)
    refine TL.pure (PV.move rfl) rfl (by decide) ?_
    refine TL.pure (PV.extract rfl rfl) rfl (by decide) ?_
    refine TL.pure (PV.extract rfl rfl) rfl (by decide) ?_
    refine TL.pure (PV.extract rfl rfl) rfl (by decide) ?_
    refine TL.pure (PV.assign rfl) rfl (by decide) ?_
    refine TL.pure (PV.assign rfl) rfl (by decide) ?_
    refine TL.pure (PV.assign rfl) rfl (by decide) ?_
    refine TL.nil ?_
    refine TQ.thenC ?_
    refine TC.seq ?_
    refine TC.region ?_
    refine TL.pure (PV.move rfl) rfl (by decide) ?_
    refine TL.pure (PV.eqlI rfl rfl) rfl (by decide) ?_
    refine TL.pure (PV.move rfl) rfl (by decide) ?_
    refine TL.pure (PV.move rfl) rfl (by decide) ?_
    refine TL.pure (PV.eqlI rfl rfl) rfl (by decide) ?_
    refine TL.pure (PV.pickT rfl rfl) rfl (by decide) ?_
    refine TL.pure (PV.move rfl) rfl (by decide) ?_
    refine TL.pure (PV.move rfl) rfl (by decide) ?_
    refine TL.pure (PV.move rfl) rfl (by decide) ?_
    refine TL.pure (PV.andK rfl rfl ((i64_and_nat hA63 hen63).trans (by rw [sub_and hsb.2]))) rfl (by decide) ?_
    refine TL.pure (PV.move rfl) rfl (by decide) ?_
    refine TL.pure (PV.eqlI rfl rfl) rfl (by decide) ?_
    refine TL.pure (PV.pickT rfl rfl) rfl (by decide) ?_
    refine TL.pure (PV.move rfl) rfl (by decide) ?_
    refine TL.pure (PV.move rfl) rfl (by decide) ?_
    refine TL.pure (PV.move rfl) rfl (by decide) ?_
    refine TL.pure (PV.eqlI (i := ((Mo.en m S : Nat) : Int)) (by show some _ = some _; rw [hae]) rfl) rfl (by decide) ?_
    refine TL.pure (PV.pickT rfl rfl) rfl (by decide) ?_
    refine TL.pure (PV.move rfl) rfl (by decide) ?_
    refine TL.call rfl Tb.gofn_22 (fun a w hs => sane_ok w (ht.new hs.new)) rfl (by decide) (fun _ _ => ?_)
    refine TL.pure (PV.pickT rfl rfl) rfl (by decide) ?_
    refine TL.pure (PV.assign rfl) rfl (by decide) ?_
    refine TL.nil ?_
    refine TQ.thenC ?_
    refine TC.ret ?_
    refine TQ.retE1 rfl rfl ?_
    exact ⟨(), rfl, trivial, List.nil_sublist _⟩

set_option maxRecDepth 100000 in
theorem mossOrders_n (w0 : World) (ht : TzAt w0) (r c k w9 : Int) (po : Option Addr) (co : Nat) (xs : List Int) (hx : IntsAt w0 po xs) (hne : (coT r c k w9 xs).2.2 ≠ 0) :
    Calls Tryd.prog 10 #[.agg #[.int .i64 r, .int .i64 c, .int .i64 k], .int .i64 w9, .slice po xs.length co] w0 (Post (X := Unit) (fun _ => .bool true) (fun _ => True) (fun _ => []) w0) := by
  refine calls Tryd.func10 rfl (n := 90) rfl (by simp) ?_
  refine TC.seq ?_
  refine TC.region ?_
  refine TL.box rfl rfl (by decide) (fun b0 hb0 => ?_)
  refine TL.pure (PV.assign rfl) rfl (by decide) ?_
  refine TL.nil ?_
  refine TQ.thenC ?_
  refine TC.seq ?_
  refine TC.seq ?_
  refine TC.region ?_
  refine TL.pure (PV.move rfl) rfl (by decide) ?_
  refine TL.pure (PV.len rfl Tb.sl_24) rfl (by decide) ?_
  refine TL.pure (PV.gtr rfl rfl) rfl (by decide) ?_
  refine TL.nil ?_
  refine TQ.thenC ?_
  first | refine TC.condD rfl (fun hlen => ?_) (fun hlen => ?_) | refine TC.cond rfl (fun hlen => ?_) (fun hlen => ?_)
  · skip
    refine TC.seq ?_
    refine TC.region ?_
    refine TL.call rfl Tb.gofn_22 (fun a w hs => sane_ok w (ht.new hs.new)) rfl (by decide) (fun _ _ => ?_)
    refine TL.pure (PV.assign rfl) rfl (by decide) ?_
    refine TL.nil ?_
    refine TQ.thenC ?_
    refine TC.ret ?_
    refine TQ.thenR ?_
    refine TQ.retE1 rfl rfl ?_
    exact ⟨(), rfl, trivial, List.nil_sublist _⟩
  · skip
    refine TC.skip ?_
    refine TQ.thenC ?_
    refine TC.seq ?_
    refine TC.region ?_
    refine TL.pure (PV.loadBox rfl Tb.agg_23 (by repeat (first | exact List.Mem.head _ | refine List.Mem.tail _ ?_ | refine List.mem_append_right _ ?_)) rfl) rfl (by decide) ?_
    refine TL.pure (PV.move rfl) rfl (by decide) ?_
    refine TL.pure (PV.move rfl) rfl (by decide) ?_
    refine TL.call rfl Tb.gofn_38 (fun a w hs => CheckOrder_ok w (ht.new hs.new) _ _ _ _ _ xs ((IsI.of hx).new hs.new) (by omega)) rfl (by decide) (fun _ _ => ?_)
    refine TL.pure (PV.move rfl) rfl (by decide) ?_
    refine TL.pure (PV.extract rfl rfl) rfl (by decide) ?_
    refine TL.pure (PV.extract rfl rfl) rfl (by decide) ?_
    refine TL.pure (PV.extract rfl rfl) rfl (by decide) ?_
    refine TL.pure (PV.assign rfl) rfl (by decide) ?_
    refine TL.pure (PV.assign rfl) rfl (by decide) ?_
    refine TL.pure (PV.assign rfl) rfl (by decide) ?_
    refine TL.nil ?_
    refine TQ.thenC ?_
    refine TC.seq ?_
    refine TC.region ?_
    refine TL.pure (PV.loadBox rfl Tb.agg_23 (by repeat (first | exact List.Mem.head _ | refine List.Mem.tail _ ?_ | refine List.mem_append_right _ ?_)) rfl) rfl (by decide) ?_
    refine TL.pure (PV.move rfl) rfl (by decide) ?_
    refine TL.pure (PV.move rfl) rfl (by decide) ?_
    refine TL.call rfl Tb.gofn_39 (fun a w hs => rCheckOrder_ok w _ _ _ _ _ xs ((IsI.of hx).new hs.new) (by omega)) rfl (by decide) (fun _ _ => ?_)
    refine TL.pure (PV.move rfl) rfl (by decide) ?_
    refine TL.pure (PV.extract rfl rfl) rfl (by decide) ?_
    refine TL.pure (PV.extract rfl rfl) rfl (by decide) ?_
    refine TL.pure (PV.extract rfl rfl) rfl (by decide) ?_
    refine TL.pure (PV.assign rfl) rfl (by decide) ?_
    refine TL.pure (PV.assign rfl) rfl (by decide) ?_
    refine TL.pure (PV.assign rfl) rfl (by decide) ?_
    refine TL.nil ?_
    refine TQ.thenC ?_
    refine TC.seq ?_
    refine TC.seq ?_
    refine TC.region ?_
    refine TL.pure (PV.move rfl) rfl (by decide) ?_
    refine TL.pure (PV.move rfl) rfl (by decide) ?_
    refine TL.pure (PV.neqI rfl rfl) rfl (by decide) ?_
    refine TL.pure (PV.move rfl) rfl (by decide) ?_
    refine TL.pure (PV.move rfl) rfl (by decide) ?_
    refine TL.pure (PV.move rfl) rfl (by decide) ?_
    refine TL.pure (PV.neqI rfl rfl) rfl (by decide) ?_
    refine TL.pure (PV.pickF rfl rfl) rfl (by decide) ?_
    refine TL.pure (PV.move rfl) rfl (by decide) ?_
    refine TL.pure (PV.move rfl) rfl (by decide) ?_
    refine TL.pure (PV.move rfl) rfl (by decide) ?_
    refine TL.pure (PV.neqI rfl rfl) rfl (by decide) ?_
    refine TL.pure (PV.pickF rfl rfl) rfl (by decide) ?_
    refine TL.nil ?_
    refine TQ.thenC ?_
    refine TC.condF rfl ?_
    refine TC.skip ?_
    refine TQ.thenC ?_
    refine TC.seq ?_
    refine TC.seq ?_
    refine TC.region ?_
    refine TL.pure (PV.move rfl) rfl (by decide) ?_
    refine TL.pure (PV.neqT rfl rfl hne) rfl (by decide) ?_
    refine TL.nil ?_
    refine TQ.thenC ?_
    refine TC.condT rfl ?_
    refine TC.seq ?_
    refine TC.region ?_
    refine TL.call rfl Tb.gofn_22 (fun a w hs => sane_ok w (ht.new hs.new)) rfl (by decide) (fun _ _ => ?_)
    refine TL.pure (PV.assign rfl) rfl (by decide) ?_
    refine TL.nil ?_
    refine TQ.thenC ?_
    refine TC.ret ?_
    refine TQ.thenR ?_
    refine TQ.retE1 rfl rfl ?_
    exact ⟨(), rfl, trivial, List.nil_sublist _⟩

set_option maxRecDepth 100000 in
theorem mossOrderly_v (w0 : World) (ht : TzAt w0) (m : Mo.Md) (ho : Mo.Ok m) (S : Nat) (hS : S < 2 ^ m.N) :
    Calls Tryd.prog 11 #[mV m, .int .i64 S] w0 (Post (X := Unit) (fun _ => .bool true) (fun _ => True) (fun _ => []) w0) := by
  have hct := coT_ord ho hS
  have hol := ord_lt ho hS
  refine calls Tryd.func11 rfl (n := 74) rfl (by simp) ?_
  refine TC.seq ?_
  refine TC.region ?_
  refine TL.box rfl rfl (by decide) (fun b0 hb0 => ?_)
  refine TL.pure (PV.assign rfl) rfl (by decide) ?_
  refine TL.nil ?_
  refine TQ.thenC ?_
  refine TC.seq ?_
  refine TC.region ?_
  refine TL.pure (PV.loadBox rfl Tb.agg_23 (by repeat (first | exact List.Mem.head _ | refine List.Mem.tail _ ?_ | refine List.mem_append_right _ ?_)) rfl) rfl (by decide) ?_
  refine TL.pure (PV.move rfl) rfl (by decide) ?_
  refine TL.call rfl Tb.gofn_40 (fun a w hs => Order_v (ht.new hs.new) ho hS) rfl (by decide) (fun y1 hy1 => ?_)
  obtain ⟨v1, G1⟩ := y1
  obtain ⟨p1, c1, rfl, hsm1, hi1⟩ := hy1
  refine TL.pure (PV.move rfl) rfl (by decide) ?_
  refine TL.pure (PV.extract rfl rfl) rfl (by decide) ?_
  refine TL.pure (PV.extract rfl rfl) rfl (by decide) ?_
  refine TL.pure (PV.assign rfl) rfl (by decide) ?_
  refine TL.pure (PV.assign rfl) rfl (by decide) ?_
  refine TL.nil ?_
  refine TQ.thenC ?_
  refine TC.seq ?_
  refine TC.region ?_
  refine TL.pure (PV.loadBox rfl Tb.agg_23 (by repeat (first | exact List.Mem.head _ | refine List.Mem.tail _ ?_ | refine List.mem_append_right _ ?_)) rfl) rfl (by decide) ?_
  refine TL.pure (PV.move rfl) rfl (by decide) ?_
  refine TL.call rfl Tb.gofn_41 (fun a w hs => rOrder_v ho hS) rfl (by decide) (fun y2 hy2 => ?_)
  refine TL.pure (PV.move rfl) rfl (by decide) ?_
  refine TL.pure (PV.extract rfl rfl) rfl (by decide) ?_
  refine TL.pure (PV.extract rfl rfl) rfl (by decide) ?_
  refine TL.pure (PV.assign rfl) rfl (by decide) ?_
  refine TL.pure (PV.assign rfl) rfl (by decide) ?_
  refine TL.nil ?_
  refine TQ.thenC ?_
  refine TC.seq ?_
  refine TC.seq ?_
  refine TC.region ?_
  refine TL.pure (PV.move rfl) rfl (by decide) ?_
  refine TL.pure (PV.move rfl) rfl (by decide) ?_
  refine TL.call rfl Tb.gofn_21 (fun a w hs => same_ok w _ _ _ ⟨p1, c1, rfl, hi1 _ _ _ hs.new (fun y hy => by simp [hy])⟩ (hy2.isI hs.new (fun y hy => by simp [hy])) (by rw [List.length_map]; omega)) rfl (by decide) (fun _ _ => ?_)
  refine TL.pure (PV.not rfl) rfl (by decide) ?_
  refine TL.pure (PV.move rfl) rfl (by decide) ?_
  refine TL.pure (PV.move rfl) rfl (by decide) ?_
  refine TL.pure (PV.move rfl) rfl (by decide) ?_
  refine TL.pure (PV.neqI rfl rfl) rfl (by decide) ?_
  refine TL.pure (PV.pickF rfl rfl) rfl (by decide) ?_
  refine TL.nil ?_
  refine TQ.thenC ?_
  refine TC.condF rfl ?_
  refine TC.skip ?_
  refine TQ.thenC ?_
  refine TC.seq ?_
  refine TC.seq ?_
  refine TC.region ?_
  refine TL.pure (PV.move rfl) rfl (by decide) ?_
  refine TL.pure (PV.neqI rfl rfl) rfl (by decide) ?_
  refine TL.nil ?_
  refine TQ.thenC ?_
  refine TC.condF rfl ?_
  refine TC.skip ?_
  refine TQ.thenC ?_
  refine TC.seq ?_
  refine TC.region ?_
  refine TL.pure (PV.loadBox rfl Tb.agg_23 (by repeat (first | exact List.Mem.head _ | refine List.Mem.tail _ ?_ | refine List.mem_append_right _ ?_)) rfl) rfl (by decide) ?_
  refine TL.pure (PV.move rfl) rfl (by decide) ?_
  refine TL.call rfl Tb.gofn_25 (fun a w hs => Spread_v (ht.new hs.new) ho hS) rfl (by decide) (fun _ _ => ?_)
  refine TL.pure (PV.move rfl) rfl (by decide) ?_
  refine TL.pure (PV.extract rfl rfl) rfl (by decide) ?_
  refine TL.pure (PV.extract rfl rfl) rfl (by decide) ?_
  refine TL.pure (PV.extract rfl rfl) rfl (by decide) ?_
  refine TL.pure (PV.assign rfl) rfl (by decide) ?_
  refine TL.pure (PV.assign rfl) rfl (by decide) ?_
  refine TL.pure (PV.assign rfl) rfl (by decide) ?_
  refine TL.nil ?_
  refine TQ.thenC ?_
  refine TC.seq ?_
  refine TC.region ?_
  refine TL.pure (PV.loadBox rfl Tb.agg_23 (by repeat (first | exact List.Mem.head _ | refine List.Mem.tail _ ?_ | refine List.mem_append_right _ ?_)) rfl) rfl (by decide) ?_
  refine TL.pure (PV.move rfl) rfl (by decide) ?_
  refine TL.pure (PV.move rfl) rfl (by decide) ?_
  refine TL.call rfl Tb.gofn_38 (fun a w hs => CheckOrder_v (ht.new hs.new) _ _ ⟨p1, c1, rfl, hi1 _ _ _ hs.new (fun y hy => by simp [hy])⟩ (by rw [List.length_map]; omega) hct) rfl (by decide) (fun _ _ => ?_)
  refine TL.pure (PV.move rfl) rfl (by decide) ?_
  refine TL.pure (PV.extract rfl rfl) rfl (by decide) ?_
  refine TL.pure (PV.extract rfl rfl) rfl (by decide) ?_
  refine TL.pure (PV.extract rfl rfl) rfl (by decide) ?_
  refine TL.pure (PV.assign rfl) rfl (by decide) ?_
  refine TL.pure (PV.assign rfl) rfl (by decide) ?_
  refine TL.pure (PV.assign rfl) rfl (by decide) ?_
  refine TL.nil ?_
  refine TQ.thenC ?_
  refine TC.seq ?_
  refine TC.region ?_
  refine TL.pure (PV.move rfl) rfl (by decide) ?_
  refine TL.pure (PV.eqlI rfl rfl) rfl (by decide) ?_
  refine TL.pure (PV.move rfl) rfl (by decide) ?_
  refine TL.pure (PV.move rfl) rfl (by decide) ?_
  refine TL.pure (PV.eqlI rfl rfl) rfl (by decide) ?_
  refine TL.pure (PV.pickT rfl rfl) rfl (by decide) ?_
  refine TL.pure (PV.move rfl) rfl (by decide) ?_
  refine TL.pure (PV.move rfl) rfl (by decide) ?_
  refine TL.pure (PV.move rfl) rfl (by decide) ?_
  refine TL.pure (PV.len rfl Tb.sl_24) rfl (by decide) ?_
  refine TL.pure (PV.eqlI rfl (by show some _ = some _; rw [List.length_map])) rfl (by decide) ?_
  refine TL.pure (PV.pickT rfl rfl) rfl (by decide) ?_
  refine TL.pure (PV.move rfl) rfl (by decide) ?_
  refine TL.pure (PV.move rfl) rfl (by decide) ?_
  refine TL.pure (PV.move rfl) rfl (by decide) ?_
  refine TL.pure (PV.eqlI rfl rfl) rfl (by decide) ?_
  refine TL.pure (PV.pickT rfl rfl) rfl (by decide) ?_
  refine TL.pure (PV.move rfl) rfl (by decide) ?_
  refine TL.call rfl Tb.gofn_22 (fun a w hs => sane_ok w (ht.new hs.new)) rfl (by decide) (fun _ _ => ?_)
  refine TL.pure (PV.pickT rfl rfl) rfl (by decide) ?_
  refine TL.pure (PV.assign rfl) rfl (by decide) ?_
  refine TL.nil ?_
  refine TQ.thenC ?_
  refine TC.ret ?_
  refine TQ.retE1 rfl rfl ?_
  exact ⟨(), rfl, trivial, List.nil_sublist _⟩

set_option maxRecDepth 100000 in
theorem mossOrderly_n (w0 : World) (ht : TzAt w0) (r c k w9 : Int) (hne : gI r c k w9 ≠ 0) :
    Calls Tryd.prog 11 #[.agg #[.int .i64 r, .int .i64 c, .int .i64 k], .int .i64 w9] w0 (Post (X := Unit) (fun _ => .bool true) (fun _ => True) (fun _ => []) w0) := by
  refine calls Tryd.func11 rfl (n := 74) rfl (by simp) ?_
  refine TC.seq ?_
  refine TC.region ?_
  refine TL.box rfl rfl (by decide) (fun b0 hb0 => ?_)
  refine TL.pure (PV.assign rfl) rfl (by decide) ?_
  refine TL.nil ?_
  refine TQ.thenC ?_
  refine TC.seq ?_
  refine TC.region ?_
  refine TL.pure (PV.loadBox rfl Tb.agg_23 (by repeat (first | exact List.Mem.head _ | refine List.Mem.tail _ ?_ | refine List.mem_append_right _ ?_)) rfl) rfl (by decide) ?_
  refine TL.pure (PV.move rfl) rfl (by decide) ?_
  refine TL.call rfl Tb.gofn_40 (fun a w hs => Order_ok w (ht.new hs.new) _ _ _ _) rfl (by decide) (fun y1 hy1 => ?_)
  refine TL.pure (PV.move rfl) rfl (by decide) ?_
  refine TL.pure (PV.extract rfl rfl) rfl (by decide) ?_
  refine TL.pure (PV.extract rfl rfl) rfl (by decide) ?_
  refine TL.pure (PV.assign rfl) rfl (by decide) ?_
  refine TL.pure (PV.assign rfl) rfl (by decide) ?_
  refine TL.nil ?_
  refine TQ.thenC ?_
  refine TC.seq ?_
  refine TC.region ?_
  refine TL.pure (PV.loadBox rfl Tb.agg_23 (by repeat (first | exact List.Mem.head _ | refine List.Mem.tail _ ?_ | refine List.mem_append_right _ ?_)) rfl) rfl (by decide) ?_
  refine TL.pure (PV.move rfl) rfl (by decide) ?_
  refine TL.call rfl Tb.gofn_41 (fun a w hs => rOrder_ok w _ _ _ _) rfl (by decide) (fun y2 hy2 => ?_)
  refine TL.pure (PV.move rfl) rfl (by decide) ?_
  refine TL.pure (PV.extract rfl rfl) rfl (by decide) ?_
  refine TL.pure (PV.extract rfl rfl) rfl (by decide) ?_
  refine TL.pure (PV.assign rfl) rfl (by decide) ?_
  refine TL.pure (PV.assign rfl) rfl (by decide) ?_
  refine TL.nil ?_
  refine TQ.thenC ?_
  refine TC.seq ?_
  refine TC.seq ?_
  refine TC.region ?_
  refine TL.pure (PV.move rfl) rfl (by decide) ?_
  refine TL.pure (PV.move rfl) rfl (by decide) ?_
  refine TL.call rfl Tb.gofn_21 (fun a w hs => same_ok w _ _ _ (hy1.isI hs.new (fun y hy => by simp [hy])) (hy2.isI hs.new (fun y hy => by simp [hy])) (oL_len _ _ _ _)) rfl (by decide) (fun _ _ => ?_)
  refine TL.pure (PV.not rfl) rfl (by decide) ?_
  refine TL.pure (PV.move rfl) rfl (by decide) ?_
  refine TL.pure (PV.move rfl) rfl (by decide) ?_
  refine TL.pure (PV.move rfl) rfl (by decide) ?_
  refine TL.pure (PV.neqI rfl rfl) rfl (by decide) ?_
  refine TL.pure (PV.pickF rfl rfl) rfl (by decide) ?_
  refine TL.nil ?_
  refine TQ.thenC ?_
  refine TC.condF rfl ?_
  refine TC.skip ?_
  refine TQ.thenC ?_
  refine TC.seq ?_
  refine TC.seq ?_
  refine TC.region ?_
  refine TL.pure (PV.move rfl) rfl (by decide) ?_
  refine TL.pure (PV.neqT rfl rfl hne) rfl (by decide) ?_
  refine TL.nil ?_
  refine TQ.thenC ?_
  refine TC.condT rfl ?_
  refine TC.seq ?_
  refine TC.region ?_
  refine TL.call rfl Tb.gofn_22 (fun a w hs => sane_ok w (ht.new hs.new)) rfl (by decide) (fun _ _ => ?_)
  refine TL.pure (PV.assign rfl) rfl (by decide) ?_
  refine TL.nil ?_
  refine TQ.thenC ?_
  refine TC.ret ?_
  refine TQ.thenR ?_
  refine TQ.retE1 rfl rfl ?_
  exact ⟨(), rfl, trivial, List.nil_sublist _⟩

theorem mossOrders_ok (w0 : World) (ht : TzAt w0) (r c k w9 : Int) (po : Option Addr) (co : Nat) (xs : List Int) (hx : IntsAt w0 po xs) : Calls Tryd.prog 10 #[.agg #[.int .i64 r, .int .i64 c, .int .i64 k], .int .i64 w9, .slice po xs.length co] w0 (Post (X := Unit) (fun _ => .bool true) (fun _ => True) (fun _ => []) w0) := by
  by_cases hne : (coT r c k w9 xs).2.2 = 0
  · by_cases hg : gI r c k w9 = 0
    · obtain ⟨m, S, ho, hS, rfl, rfl, rfl, rfl⟩ := gI_is hg
      by_cases hall : xs.all (sqB m) = true
      · have e : coT (m.R : Int) m.C m.K S xs = ((coT (m.R : Int) m.C m.K S xs).1, (coT (m.R : Int) m.C m.K S xs).2.1, 0) := by rw [← hne]
        exact mossOrders_v w0 ht m ho S hS po co xs hx _ _ e hall
      · rw [coT_ok ho hS, if_neg hall] at hne; cases hne
    · rw [coT_no hg] at hne; exact absurd hne hg
  · exact mossOrders_n w0 ht r c k w9 po co xs hx hne
theorem mossOrderly_ok (w0 : World) (ht : TzAt w0) (r c k w9 : Int) : Calls Tryd.prog 11 #[.agg #[.int .i64 r, .int .i64 c, .int .i64 k], .int .i64 w9] w0 (Post (X := Unit) (fun _ => .bool true) (fun _ => True) (fun _ => []) w0) := by
  by_cases hne : gI r c k w9 = 0
  · obtain ⟨m, S, ho, hS, rfl, rfl, rfl, rfl⟩ := gI_is hne
    exact mossOrderly_v w0 ht m ho S hS
  · exact mossOrderly_n w0 ht r c k w9 hne

end Go.Proofs.YtaeobkgogipceaaDoor
