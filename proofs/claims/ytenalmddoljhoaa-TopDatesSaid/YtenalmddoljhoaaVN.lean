/- The program has the tightest bound that the document gives: contract. -/
import Derived.Test.YtenalmddoljhoaaVK
import Derived.Test.YtenalmddoljhoaaVT
set_option linter.unusedVariables false
set_option linter.unusedSimpArgs false
namespace Go.Proofs.Ytenalmddoljhoaa
open Go.Sx Go.RowKit

theorem fill_i2 (x y : Int) : Instr.fill (fun i => some (i * 1, 1)) ((Array.range (2 * 1)).map ((Value.int .i64 0).cells[· % (Value.int .i64 0).cells.size]!)) [(0, .int .i64 x), (1, .int .i64 y)] = some #[.int .i64 x, .int .i64 y] := by kernel_rfl
theorem fnd_0 {l : List Bd} {a b : Int} (h : a = b) : fndM l a b = 0 ∧ fndB l a b = true := ⟨if_pos h, if_pos h⟩
theorem fnd_1 {l : List Bd} {a b i : Int} (h : ¬ a = b) (hi : Found ⟨a, b, 0⟩ l i) (hn : i < 0) : fndM l a b = 0 ∧ fndB l a b = false := by
  rcases hi with ⟨_, hz⟩ | ⟨k, rfl, _⟩
  · have e := find_none a b 0 l hz
    unfold fndM fndB
    rw [if_neg h, if_neg h, e]
    exact ⟨rfl, rfl⟩
  · omega
theorem fnd_2 {l : List Bd} {a b : Int} {k : Nat} (h : ¬ a = b) (hk : k < l.length) (hb : besB ⟨a, b, 0⟩ (l.getD k default) = true) (hz : ∀ j, j < k → besB ⟨a, b, 0⟩ (l.getD j default) = false) : fndM l a b = (l.getD k default).m ∧ fndB l a b = true := by
  have e := find_at a b 0 l k hk hb hz
  unfold fndM fndB
  rw [if_neg h, if_neg h, e]
  exact ⟨rfl, rfl⟩
def tgM (n : Int) (rs : List Bd) (a b : Int) : Int := if pofI n rs [a, b] ≠ 0 then 0 else fndM (pofL n rs [a, b]) a b
def tgB (n : Int) (rs : List Bd) (a b : Int) : Bool := if pofI n rs [a, b] ≠ 0 then false else fndB (pofL n rs [a, b]) a b
def rs3 : List Bd := [⟨0, 1, 10⟩, ⟨1, 2, 5⟩, ⟨0, 2, 20⟩]
theorem rs3_go (b : Nat) : goB (some (b, 3, [])) rs3 := ⟨rfl, by decide, by decide⟩
theorem rs3_fill : Instr.fill (fun i => some (i * 3, 3)) ((Array.range (3 * 3)).map ((Value.agg #[(.int .i64 0), (.int .i64 0), (.int .i64 0)]).cells[· % (Value.agg #[(.int .i64 0), (.int .i64 0), (.int .i64 0)]).cells.size]!)) [(0, Bd.val ⟨0, 1, 10⟩), (1, Bd.val ⟨1, 2, 5⟩), (2, Bd.val ⟨0, 2, 20⟩)] = some (bdc rs3).toArray := by kernel_rfl
def okM (l : List Bd) : Bool := l.all fun r => decide (-1000000000 ≤ r.m ∧ r.m ≤ 1000000000)
theorem okM_spec {l : List Bd} (h : okM l = true) : ∀ r ∈ l, -1000000000 ≤ r.m ∧ r.m ≤ 1000000000 := fun r hr => of_decide_eq_true (List.all_eq_true.1 h r hr)
theorem rs3_pb : ∀ i, i ≤ (3 : Int).toNat → (plainN (tight rs3) i).length ≤ 300 ∧ ∀ r ∈ plainN (tight rs3) i, -1000000000 ≤ r.m ∧ r.m ≤ 1000000000 := by
  intro i hi
  have hi3 : i = 0 ∨ i = 1 ∨ i = 2 ∨ i = 3 := by
    have : (3 : Int).toNat = 3 := rfl
    omega
  rcases hi3 with rfl | rfl | rfl | rfl
  · exact ⟨by decide +kernel, okM_spec (by decide +kernel)⟩
  · exact ⟨by decide +kernel, okM_spec (by decide +kernel)⟩
  · exact ⟨by decide +kernel, okM_spec (by decide +kernel)⟩
  · exact ⟨by decide +kernel, okM_spec (by decide +kernel)⟩
theorem rs3_e : pofI 3 rs3 [0, 2] = 0 := by decide +kernel
theorem rs3_b : tgB 3 rs3 0 2 = true := by decide +kernel
theorem rs3_m : tgM 3 rs3 0 2 = 15 := by decide +kernel


set_option maxRecDepth 100000 in
theorem find_ok (w0 : World) (p : Option Addr) (c : Nat) (l : List Bd) (h1 : BdsAt w0 p l) (hl : l.length ≤ 1000000) (aa bb : Int) :
    Calls Try.prog 70 #[.slice p l.length c, .int .i64 aa, .int .i64 bb] w0 (Post (X := Unit) (fun _ => .tuple #[.int .i64 (fndM l aa bb), .bool (fndB l aa bb)]) (fun _ => True) (fun _ => []) w0) := by
  refine calls Try.func70 rfl (n := 25) rfl (by simp) ?_
  refine TC.seq ?_
  refine TC.region ?_
  refine TL.pure (PV.assign rfl) rfl (by decide) ?_
  refine TL.pure (PV.assign rfl) rfl (by decide) ?_
  refine TL.nil ?_
  refine TQ.thenC ?_
  refine TC.seq ?_
  refine TC.seq ?_
  refine TC.region ?_
  refine TL.pure (PV.move rfl) rfl (by decide) ?_
  refine TL.pure (PV.move rfl) rfl (by decide) ?_
  refine TL.pure (PV.eql rfl rfl) rfl (by decide) ?_
  refine TL.nil ?_
  refine TQ.thenC ?_
  first | refine TC.condD rfl (fun hab => ?_) (fun hab => ?_) | refine TC.cond rfl (fun hab => ?_) (fun hab => ?_)
  · skip
    refine TC.seq ?_
    refine TC.region ?_
    refine TL.pure (PV.assign rfl) rfl (by decide) ?_
    refine TL.pure (PV.assign rfl) rfl (by decide) ?_
    refine TL.nil ?_
    refine TQ.thenC ?_
    refine TC.ret ?_
    refine TQ.thenR ?_
    refine TQ.retE2 rfl rfl rfl ?_
    exact ⟨(), by rw [(fnd_0 hab).1, (fnd_0 hab).2], trivial, List.nil_sublist _⟩
  · skip
    refine TC.skip ?_
    refine TQ.thenC ?_
    refine TC.seq ?_
    refine TC.region ?_
    refine TL.pure (PV.move rfl) rfl (by decide) ?_
    refine TL.pure (PV.move rfl) rfl (by decide) ?_
    refine TL.pure (PV.move rfl) rfl (by decide) ?_
    refine TL.pure (PV.build (cs := (Bd.mk aa bb 0).cells.toArray) rfl Tb.zero_88 Tb.pl_88 rfl) rfl (by decide) ?_
    refine TL.pure (PV.makeFuncP rfl) rfl (by decide) ?_
    refine TL.call rfl Tb.gofn_87 (fun a w hs => index_ok w p c l (h1.new hs.new) ⟨aa, bb, 0⟩ hl) rfl (by decide) (fun i9 hi9 => ?_)
    refine TL.pure (PV.assign rfl) rfl (by decide) ?_
    refine TL.nil ?_
    refine TQ.thenC ?_
    refine TC.seq ?_
    refine TC.seq ?_
    refine TC.region ?_
    refine TL.pure (PV.move rfl) rfl (by decide) ?_
    refine TL.pure (PV.lss rfl rfl) rfl (by decide) ?_
    refine TL.nil ?_
    refine TQ.thenC ?_
    first | refine TC.condD rfl (fun hneg => ?_) (fun hneg => ?_) | refine TC.cond rfl (fun hneg => ?_) (fun hneg => ?_)
    · skip
      refine TC.seq ?_
      refine TC.region ?_
      refine TL.pure (PV.assign rfl) rfl (by decide) ?_
      refine TL.pure (PV.assign rfl) rfl (by decide) ?_
      refine TL.nil ?_
      refine TQ.thenC ?_
      refine TC.ret ?_
      refine TQ.thenR ?_
      refine TQ.retE2 rfl rfl rfl ?_
      exact ⟨(), by rw [(fnd_1 hab hi9 hneg).1, (fnd_1 hab hi9 hneg).2], trivial, List.nil_sublist _⟩
    · skip
      refine TC.skip ?_
      refine TQ.thenC ?_
      refine TC.seq ?_
      rcases hi9 with ⟨h8, _⟩ | ⟨k, rfl, hk, hb, hz⟩
      · exfalso; omega
      obtain ⟨q, hqp, hqa⟩ := h1 k hk
      have hq2 := hqa 2 _ rfl
      refine TC.region ?_
      refine TL.pure (PV.move rfl) rfl (by decide) ?_
      refine TL.pure (PV.move rfl) rfl (by decide) ?_
      refine TL.pure (PV.indexA rfl hqp rfl Tb.elm_74 rfl hk) rfl (by decide) ?_
      refine TL.pure (PV.fieldAddrA rfl Tb.fo_88_2) rfl (by decide) ?_
      refine TL.pure (PV.loadOld rfl Tb.one_3 hq2) rfl (by decide) ?_
      refine TL.pure (PV.assign rfl) rfl (by decide) ?_
      refine TL.pure (PV.assign rfl) rfl (by decide) ?_
      refine TL.nil ?_
      refine TQ.thenC ?_
      refine TC.ret ?_
      refine TQ.retE2 rfl rfl rfl ?_
      exact ⟨(), by rw [(fnd_2 hab hk hb hz).1, (fnd_2 hab hk hb hz).2], trivial, List.nil_sublist _⟩

theorem find_g (w : World) (h : HD) (l : List Bd) (o : goB h l) (g : BdsAt w (gp h) l) (hl : l.length ≤ 1000000) (a b : Int) :
    Calls Try.prog 70 #[gval h l.length, .int .i64 a, .int .i64 b] w (Post (X := Unit) (fun _ => .tuple #[.int .i64 (fndM l a b), .bool (fndB l a b)]) (fun _ => True) (fun _ => []) w) := by
  rw [gval_eq o]
  exact find_ok w _ _ l g hl a b
theorem pofL_len {n : Int} {rs : List Bd} {ls : List Int} (hPB : ∀ i, i ≤ n.toNat → (plainN (tight rs) i).length ≤ 300 ∧ ∀ r ∈ plainN (tight rs) i, -1000000000 ≤ r.m ∧ r.m ≤ 1000000000) : (pofL n rs ls).length ≤ 1000000 := by
  unfold pofL
  split
  · have := (hPB n.toNat (Nat.le_refl _)).1
    unfold plainB
    omega
  · simp

set_option maxRecDepth 100000 in
set_option maxHeartbeats 1000000 in
theorem tightest_ok (w0 : World) (n : Int) (p : Option Addr) (cap : Nat) (rs : List Bd) (hr : BdsAt w0 p rs) (hne : 0 < rs.length) (hPB : ∀ i, i ≤ n.toNat → (plainN (tight rs) i).length ≤ 300 ∧ ∀ r ∈ plainN (tight rs) i, -1000000000 ≤ r.m ∧ r.m ≤ 1000000000) (aa bb : Int) :
    Calls Try.prog 29 #[cv n p rs.length cap, .int .i64 aa, .int .i64 bb] w0 (Post (X := Unit) (fun _ => .tuple #[.int .i64 (tgM n rs aa bb), .bool (tgB n rs aa bb), .int .i64 (pofI n rs [aa, bb])]) (fun _ => True) (fun _ => []) w0) := by
  refine calls Try.func29 rfl (n := 33) rfl (by simp) ?_
  refine TC.seq ?_
  refine TC.region ?_
  refine TL.box rfl rfl (by decide) (fun b0 hb0 => ?_)
  refine TL.pure (PV.assign rfl) rfl (by decide) ?_
  refine TL.pure (PV.assign rfl) rfl (by decide) ?_
  refine TL.pure (PV.assign rfl) rfl (by decide) ?_
  refine TL.nil ?_
  refine TQ.thenC ?_
  refine TC.seq ?_
  refine TC.region ?_
  refine TL.pure (PV.loadBox rfl Tb.agg_24 (by repeat (first | exact List.Mem.head _ | refine List.Mem.tail _ ?_ | refine List.mem_append_right _ ?_)) rfl) rfl (by decide) ?_
  refine TL.pure (PV.move rfl) rfl (by decide) ?_
  refine TL.pure (PV.move rfl) rfl (by decide) ?_
  refine TL.buildSlice (cs := #[.int .i64 aa, .int .i64 bb]) rfl Tb.sl_25 Tb.zi_3 (by decide) (fill_i2 _ _) (by decide) rfl (by decide) (fun bS hbS => ?_)
  refine TL.call rfl Tb.gofn_69 (fun a w hs => plainOf_ok w _ _ _ _ (hr.new hs.new) hne hPB _ 2 [aa, bb] (IntsAt.arr (xs := [aa, bb]) hs.new (by repeat (first | exact List.Mem.head _ | refine List.Mem.tail _ ?_ | refine List.mem_append_right _ ?_))) (show (2 : Nat) ≤ 1000 by decide)) rfl (by decide) (fun h9 hh9 => ?_)
  refine TL.pure (PV.move rfl) rfl (by decide) ?_
  refine TL.pure (PV.extract rfl rfl) rfl (by decide) ?_
  refine TL.pure (PV.extract rfl rfl) rfl (by decide) ?_
  refine TL.pure (PV.assign rfl) rfl (by decide) ?_
  refine TL.pure (PV.assign rfl) rfl (by decide) ?_
  refine TL.nil ?_
  refine TQ.thenC ?_
  refine TC.seq ?_
  refine TC.seq ?_
  refine TC.region ?_
  refine TL.pure (PV.move rfl) rfl (by decide) ?_
  refine TL.pure (PV.neq rfl rfl) rfl (by decide) ?_
  refine TL.nil ?_
  refine TQ.thenC ?_
  first | refine TC.condD rfl (fun hbad => ?_) (fun hbad => ?_) | refine TC.cond rfl (fun hbad => ?_) (fun hbad => ?_)
  · skip
    refine TC.seq ?_
    refine TC.region ?_
    refine TL.pure (PV.move rfl) rfl (by decide) ?_
    refine TL.pure (PV.assign rfl) rfl (by decide) ?_
    refine TL.pure (PV.assign rfl) rfl (by decide) ?_
    refine TL.pure (PV.assign rfl) rfl (by decide) ?_
    refine TL.nil ?_
    refine TQ.thenC ?_
    refine TC.ret ?_
    refine TQ.thenR ?_
    refine TQ.retE3 rfl rfl rfl rfl ?_
    exact ⟨(), by rw [tgM, tgB, if_pos hbad, if_pos hbad], trivial, List.nil_sublist _⟩
  · skip
    refine TC.skip ?_
    refine TQ.thenC ?_
    refine TC.seq ?_
    refine TC.region ?_
    refine TL.pure (PV.move rfl) rfl (by decide) ?_
    refine TL.pure (PV.move rfl) rfl (by decide) ?_
    refine TL.pure (PV.move rfl) rfl (by decide) ?_
    refine TL.call rfl Tb.gofn_70 (fun a w hs => find_g w h9 _ hh9 (BdsAt.s hs.new (fun yy hyy => by repeat (first | exact List.mem_append_left _ hyy | refine List.mem_append_right _ ?_ | refine List.Mem.tail _ ?_)) hh9) (pofL_len hPB) aa bb) rfl (by decide) (fun _ _ => ?_)
    refine TL.pure (PV.move rfl) rfl (by decide) ?_
    refine TL.pure (PV.extract rfl rfl) rfl (by decide) ?_
    refine TL.pure (PV.extract rfl rfl) rfl (by decide) ?_
    refine TL.pure (PV.assign rfl) rfl (by decide) ?_
    refine TL.pure (PV.assign rfl) rfl (by decide) ?_
    refine TL.nil ?_
    refine TQ.thenC ?_
    refine TC.seq ?_
    refine TC.region ?_
    refine TL.pure (PV.move rfl) rfl (by decide) ?_
    refine TL.pure (PV.move rfl) rfl (by decide) ?_
    refine TL.pure (PV.assign rfl) rfl (by decide) ?_
    refine TL.pure (PV.assign rfl) rfl (by decide) ?_
    refine TL.pure (PV.assign rfl) rfl (by decide) ?_
    refine TL.nil ?_
    refine TQ.thenC ?_
    refine TC.ret ?_
    refine TQ.retE3 rfl rfl rfl rfl ?_
    exact ⟨(), by rw [tgM, tgB, if_neg hbad, if_neg hbad, Decidable.of_not_not hbad], trivial, List.nil_sublist _⟩

set_option maxRecDepth 100000 in
set_option maxHeartbeats 1000000 in
theorem known_ok (w0 : World) :
    Calls Try.prog 18 #[] w0 (Post (X := Unit) (fun _ => .bool true) (fun _ => True) (fun _ => []) w0) := by
  refine calls Try.func18 rfl (n := 25) rfl (by simp) ?_
  refine TC.seq ?_
  refine TC.region ?_
  refine TL.pure (PV.assign rfl) rfl (by decide) ?_
  refine TL.nil ?_
  refine TQ.thenC ?_
  refine TC.seq ?_
  refine TC.region ?_
  refine TL.pure (PV.build (cs := (Bd.mk 0 1 10).cells.toArray) rfl Tb.zero_42 Tb.pl_42 rfl) rfl (by decide) ?_
  refine TL.pure (PV.build (cs := (Bd.mk 1 2 5).cells.toArray) rfl Tb.zero_42 Tb.pl_42 rfl) rfl (by decide) ?_
  refine TL.pure (PV.build (cs := (Bd.mk 0 2 20).cells.toArray) rfl Tb.zero_42 Tb.pl_42 rfl) rfl (by decide) ?_
  refine TL.buildSlice (cs := (bdc rs3).toArray) rfl Tb.sl_22 Tb.zi_42 (by decide) rs3_fill (by decide) rfl (by decide) (fun bS hbS => ?_)
  refine TL.pure (PV.build rfl Tb.zero_24 Tb.pl_24 rfl) rfl (by decide) ?_
  refine TL.alloc Tb.zero_24 rfl (by decide) (fun b0 hb0 => ?_)
  refine TL.storeAgg rfl rfl Tb.cells_24 (by repeat (first | exact Upd.head _ | apply Upd.tail | apply Upd.appR)) rfl rfl (by first | rfl | exact sv_one _ _ _) rfl rfl ?_
  refine TL.nil ?_
  refine TQ.thenC ?_
  refine TC.seq ?_
  refine TC.region ?_
  refine TL.pure (PV.loadBox rfl Tb.agg_24 (by repeat (first | exact List.Mem.head _ | refine List.Mem.tail _ ?_ | refine List.mem_append_right _ ?_)) rfl) rfl (by decide) ?_
  refine TL.call rfl Tb.gofn_29 (fun a w hs => tightest_ok w 3 (some ⟨bS, 0, none⟩) 3 rs3 (BdsAt.s (h := some (bS, 3, [])) (e := 42) hs.new (fun yy hyy => by repeat (first | exact List.mem_append_left _ hyy | refine List.mem_append_right _ ?_ | refine List.Mem.tail _ ?_)) (rs3_go bS)) (by decide) rs3_pb 0 2) rfl (by decide) (fun _ _ => ?_)
  refine TL.pure (PV.move rfl) rfl (by decide) ?_
  refine TL.pure (PV.extract rfl rfl) rfl (by decide) ?_
  refine TL.pure (PV.extract rfl rfl) rfl (by decide) ?_
  refine TL.pure (PV.extract rfl rfl) rfl (by decide) ?_
  refine TL.pure (PV.assign rfl) rfl (by decide) ?_
  refine TL.pure (PV.assign rfl) rfl (by decide) ?_
  refine TL.pure (PV.assign rfl) rfl (by decide) ?_
  refine TL.nil ?_
  refine TQ.thenC ?_
  refine TC.seq ?_
  rw [rs3_e, rs3_b, rs3_m]
  refine TC.region ?_
  refine TL.pure (PV.move rfl) rfl (by decide) ?_
  refine TL.pure (PV.eql rfl rfl) rfl (by decide) ?_
  refine TL.pure (PV.move rfl) rfl (by decide) ?_
  first | refine TL.splitD 18 rfl (fun h0 => ?_) (fun h0 => ?_) | refine TL.split 18 rfl (fun h0 => ?_) (fun h0 => ?_)
  · skip
    refine TL.pure (PV.move rfl) rfl (by decide) ?_
    refine TL.pure (PV.pickT rfl rfl) rfl (by decide) ?_
    refine TL.pure (PV.move rfl) rfl (by decide) ?_
    first | refine TL.splitD 21 rfl (fun h1 => ?_) (fun h1 => ?_) | refine TL.split 21 rfl (fun h1 => ?_) (fun h1 => ?_)
    · skip
      refine TL.pure (PV.move rfl) rfl (by decide) ?_
      refine TL.pure (PV.eql rfl rfl) rfl (by decide) ?_
      refine TL.pure (PV.pickT rfl rfl) rfl (by decide) ?_
      refine TL.pure (PV.assign rfl) rfl (by decide) ?_
      refine TL.nil ?_
      refine TQ.thenC ?_
      refine TC.ret ?_
      refine TQ.retE1 rfl rfl ?_
      first | exact ⟨(), rfl, trivial, List.nil_sublist _⟩ | (exfalso; simp_all; done)
    · skip
      refine TL.skip rfl (fun k hk => by cases hk; decide) ?_
      refine TL.skip rfl (fun k hk => by cases hk; decide) ?_
      refine TL.pure (PV.pickF rfl rfl) rfl (by decide) ?_
      refine TL.pure (PV.assign rfl) rfl (by decide) ?_
      refine TL.nil ?_
      refine TQ.thenC ?_
      refine TC.ret ?_
      refine TQ.retE1 rfl rfl ?_
      first | exact ⟨(), rfl, trivial, List.nil_sublist _⟩ | (exfalso; simp_all; done)
  · skip
    refine TL.skip rfl (fun k hk => by cases hk; decide) ?_
    refine TL.pure (PV.pickF rfl rfl) rfl (by decide) ?_
    refine TL.pure (PV.move rfl) rfl (by decide) ?_
    refine TL.skip rfl (fun k hk => by cases hk; decide) ?_
    refine TL.skip rfl (fun k hk => by cases hk; decide) ?_
    refine TL.pure (PV.pickF rfl rfl) rfl (by decide) ?_
    refine TL.pure (PV.assign rfl) rfl (by decide) ?_
    refine TL.nil ?_
    refine TQ.thenC ?_
    refine TC.ret ?_
    refine TQ.retE1 rfl rfl ?_
    first | exact ⟨(), rfl, trivial, List.nil_sublist _⟩ | (exfalso; simp_all; done)

theorem knownOk : KnownOk := fun w => known_ok w

end Go.Proofs.Ytenalmddoljhoaa
