/- The meadow of a text, by the program and by the reference: contracts. -/
import Derived.Test.YtaeobkgogipceaaDoorUa
set_option linter.unusedVariables false
set_option linter.unusedSimpArgs false
namespace Go.Proofs.YtaeobkgogipceaaDoor
open Go.Sx Go.RowKit

theorem wrd_nums {H : List UInt8} {l0 l1 l2 l3 : List UInt8} {m : Mo.Md} (h : wrd H = [⟨l0.toArray⟩, ⟨l1.toArray⟩, ⟨l2.toArray⟩, ⟨l3.toArray⟩]) (hw : wrd H = Mo.wds m) : l1 = [Mo.dg m.R] ∧ l2 = [Mo.dg m.C] ∧ l3 = [Mo.dg m.K] := by
  rw [h] at hw
  have hi : ∀ (a b : List UInt8), (⟨a.toArray⟩ : ByteArray) = ⟨b.toArray⟩ → a = b := fun a b e => by
    have := congrArg (fun x : ByteArray => x.data.toList) e
    simpa using this
  unfold Mo.wds at hw
  injection hw with _ hw
  injection hw with e1 hw
  injection hw with e2 hw
  injection hw with e3 _
  exact ⟨hi _ [Mo.dg m.R] e1, hi _ [Mo.dg m.C] e2, hi _ [Mo.dg m.K] e3⟩
def numAt (l : List UInt8) (n : Int) : Prop := ∀ k, k < 10 → l = [Mo.dg k] → n = k
theorem prs_nums {L l0 l1 l2 l3 : List UInt8} {n1 n2 n3 : Int} {m : Mo.Md} {S : Nat} (hwr : wrd (Hd L) = [⟨l0.toArray⟩, ⟨l1.toArray⟩, ⟨l2.toArray⟩, ⟨l3.toArray⟩]) (h1 : numAt l1 n1) (h2 : numAt l2 n2) (h3 : numAt l3 n3)
    (ho : Mo.Ok m) (hf : L = Mo.fmt m S) : n1 = m.R ∧ n2 = m.C ∧ n3 = m.K := by
  obtain ⟨e1, e2, e3⟩ := wrd_nums hwr (fmt_hd ho hf).2.2
  exact ⟨h1 _ (by have := ho.R6; omega) e1, h2 _ (by have := ho.C6; omega) e2, h3 _ (by have := ho.K3; omega) e3⟩
theorem prs_no {L l0 l1 l2 l3 : List UInt8} {n1 n2 n3 : Int} (hwr : wrd (Hd L) = [⟨l0.toArray⟩, ⟨l1.toArray⟩, ⟨l2.toArray⟩, ⟨l3.toArray⟩]) (h1 : numAt l1 n1) (h2 : numAt l2 n2) (h3 : numAt l3 n3) (hv : vI n1 n2 n3 ≠ 0) :
    PR L (⟨0, 0, 0⟩, 0, 2) := .inr ⟨rfl, rfl, rfl, fun m S ho hS hf => by
  obtain ⟨e1, e2, e3⟩ := prs_nums hwr h1 h2 h3 ho hf
  rw [e1, e2, e3] at hv
  exact hv (vI_ok ho)⟩
theorem prs_ne {L l0 l1 l2 l3 : List UInt8} {m : Mo.Md} (hwr : wrd (Hd L) = [⟨l0.toArray⟩, ⟨l1.toArray⟩, ⟨l2.toArray⟩, ⟨l3.toArray⟩]) (h1 : numAt l1 m.R) (h2 : numAt l2 m.C) (h3 : numAt l3 m.K) (hne : Mo.fmt m (mkd m (Bd' L)) ≠ L) :
    PR L (⟨0, 0, 0⟩, 0, 2) := .inr ⟨rfl, rfl, rfl, fun m' S ho hS hf => by
  obtain ⟨e1, e2, e3⟩ := prs_nums hwr h1 h2 h3 ho hf
  have e : m = m' := by
    cases m; cases m'
    simp only at e1 e2 e3
    have : ∀ {a b : Nat}, (a : Int) = b → a = b := fun h => by omega
    rw [this e1, this e2, this e3]
  subst e
  rw [(fmt_hd ho hf).2.1, mkd_fmt ho hS] at hne
  exact hne hf.symm⟩
theorem prs_four {L : List UInt8} (h : (wrd (Hd L)).length ≠ 4) : PR L (⟨0, 0, 0⟩, 0, 2) := .inr ⟨rfl, rfl, rfl, fun m S ho hS hf => h (by rw [(fmt_hd ho hf).2.2]; rfl)⟩
def NR (L : List UInt8) (x : Nat) : Prop := ∀ m S, Mo.Ok m → S < 2 ^ m.N → L = Mo.fmt m S → x ≤ m.R
def NC (L : List UInt8) (x y : Nat) : Prop := ∀ m S, Mo.Ok m → S < 2 ^ m.N → L = Mo.fmt m S → x ≤ m.R ∧ (m.R = x → y ≤ m.C)
def NK (L : List UInt8) (x y z : Nat) : Prop := ∀ m S, Mo.Ok m → S < 2 ^ m.N → L = Mo.fmt m S → x ≤ m.R ∧ (m.R = x → y ≤ m.C) ∧ (m.R = x → m.C = y → z ≤ m.K)
theorem NR.zero (L : List UInt8) : NR L 1 := fun m S ho _ _ => ho.R1
theorem NR.into {L : List UInt8} {x : Nat} (h : NR L x) : NC L x 1 := fun m S ho hS hf => ⟨h m S ho hS hf, fun _ => ho.C1⟩
theorem NC.into {L : List UInt8} {x y : Nat} (h : NC L x y) : NK L x y 1 := fun m S ho hS hf => ⟨(h m S ho hS hf).1, (h m S ho hS hf).2, fun _ _ => ho.K1⟩
theorem NC.out {L : List UInt8} {x y : Nat} (h : NC L x y) (hy : 7 ≤ y) : NR L (x + 1) := fun m S ho hS hf => by
  obtain ⟨h1, h2⟩ := h m S ho hS hf
  have := ho.C6
  by_cases e : m.R = x
  · have := h2 e; omega
  · omega
theorem NK.out {L : List UInt8} {x y z : Nat} (h : NK L x y z) (hz : 4 ≤ z) : NC L x (y + 1) := fun m S ho hS hf => by
  obtain ⟨h1, h2, h3⟩ := h m S ho hS hf
  have := ho.K3
  refine ⟨h1, fun e => ?_⟩
  by_cases e2 : m.C = y
  · have := h3 e e2; omega
  · have := h2 e; omega
theorem NK.next {L : List UInt8} {x y z v : Nat} (h : NK L x y z) (hv : ∀ S, S < 2 ^ (⟨x, y, z⟩ : Mo.Md).N → L = Mo.fmt ⟨x, y, z⟩ S → v = S) (hn : ¬ Mo.fmt ⟨x, y, z⟩ v = L) : NK L x y (z + 1) := fun m S ho hS hf => by
  obtain ⟨h1, h2, h3⟩ := h m S ho hS hf
  refine ⟨h1, h2, fun e1 e2 => ?_⟩
  by_cases e3 : m.K = z
  · exfalso
    have e : m = ⟨x, y, z⟩ := by cases m; simp only at e1 e2 e3; rw [e1, e2, e3]
    subst e
    have := hv S hS hf
    subst this
    exact hn hf.symm
  · have := h3 e1 e2; omega


set_option maxRecDepth 100000 in
set_option maxHeartbeats 1000000 in
theorem rParse_ok (w0 : World) (L : List UInt8) (hL : L.length ≤ 2000) :
    Calls Tryd.prog 55 #[str L] w0 (Post (X := Mo.Md × Nat × Int) (fun x => .tuple #[mV x.1, .int .i64 (x.2.1 : Nat), .int .i64 x.2.2]) (fun x => PR L x) (fun _ => []) w0) := by
  refine calls Tryd.func55 rfl (n := 37) rfl (by simp) ?_
  refine TC.seq ?_
  refine TC.region ?_
  refine TL.alloc Tb.zero_23 rfl (by decide) (fun b0 hb0 => ?_)
  refine TL.pure (PV.assign rfl) rfl (by decide) ?_
  refine TL.pure (PV.assign rfl) rfl (by decide) ?_
  refine TL.nil ?_
  refine TQ.thenC ?_
  refine TC.seq ?_
  refine TC.seq ?_
  refine TC.region ?_
  refine TL.pure (PV.assign rfl) rfl (by decide) ?_
  refine TL.nil ?_
  refine TQ.thenC ?_
  refine TC.block ?_
  -- live and written in the loop, not told: [3, 4]
  refine TC.loopK [0, 2] (X := Nat) (fun x => (1 ≤ x ∧ x ≤ 7) ∧ NR L x) (fun x => [(5, .int .i64 (x : Nat))]) (fun x => [(b0, Obj.cells #[.int .i64 0, .int .i64 0, .int .i64 0] 23 (0, 0))]) (fun x => 7 - x) 1 ⟨⟨by omega, by omega⟩, NR.zero L⟩ (by repeat (first | exact True.intro | refine And.intro rfl ?_)) (by repeat (first | exact List.Sublist.slnil | exact List.nil_sublist _ | exact List.Sublist.refl _ | refine List.Sublist.cons_cons _ ?_ | refine List.Sublist.cons _ ?_ | refine List.Sublist.trans ?_ (List.sublist_append_right _ _))) ?_
  intro x hx9
  refine TC.seq ?_
  refine TC.seq ?_
  refine TC.region ?_
  refine TL.pure (PV.move rfl) rfl (by decide) ?_
  refine TL.pure (PV.leq rfl rfl) rfl (by decide) ?_
  refine TL.nil ?_
  refine TQ.thenC ?_
  first | refine TC.condD rfl (fun hr => ?_) (fun hr => ?_) | refine TC.cond rfl (fun hr => ?_) (fun hr => ?_)
  · skip
    refine TC.skip ?_
    refine TQ.thenC ?_
    refine TC.seq ?_
    refine TC.block ?_
    refine TC.seq ?_
    refine TC.region ?_
    refine TL.pure (PV.assign rfl) rfl (by decide) ?_
    refine TL.nil ?_
    refine TQ.thenC ?_
    refine TC.block ?_
    -- live and written in the loop, not told: [3, 4]
    refine TC.loopK [0, 2, 5] (X := Nat) (fun y => (1 ≤ y ∧ y ≤ 7) ∧ NC L x y) (fun y => [(6, .int .i64 (y : Nat))]) (fun y => [(b0, Obj.cells #[.int .i64 0, .int .i64 0, .int .i64 0] 23 (0, 0))]) (fun y => 7 - y) 1 ⟨⟨by omega, by omega⟩, hx9.2.into⟩ (by repeat (first | exact True.intro | refine And.intro rfl ?_)) (by repeat (first | exact List.Sublist.slnil | exact List.nil_sublist _ | exact List.Sublist.refl _ | refine List.Sublist.cons_cons _ ?_ | refine List.Sublist.cons _ ?_ | refine List.Sublist.trans ?_ (List.sublist_append_right _ _))) ?_
    intro y hy9
    refine TC.seq ?_
    refine TC.seq ?_
    refine TC.region ?_
    refine TL.pure (PV.move rfl) rfl (by decide) ?_
    refine TL.pure (PV.leq rfl rfl) rfl (by decide) ?_
    refine TL.nil ?_
    refine TQ.thenC ?_
    first | refine TC.condD rfl (fun hc => ?_) (fun hc => ?_) | refine TC.cond rfl (fun hc => ?_) (fun hc => ?_)
    · skip
      refine TC.skip ?_
      refine TQ.thenC ?_
      refine TC.seq ?_
      refine TC.block ?_
      refine TC.seq ?_
      refine TC.region ?_
      refine TL.pure (PV.assign rfl) rfl (by decide) ?_
      refine TL.nil ?_
      refine TQ.thenC ?_
      refine TC.block ?_
      -- live and written in the loop, not told: [3, 4]
      refine TC.loopK [0, 2, 5, 6] (X := Nat) (fun z => (1 ≤ z ∧ z ≤ 4) ∧ NK L x y z) (fun z => [(7, .int .i64 (z : Nat))]) (fun z => [(b0, Obj.cells #[.int .i64 0, .int .i64 0, .int .i64 0] 23 (0, 0))]) (fun z => 4 - z) 1 ⟨⟨by omega, by omega⟩, hy9.2.into⟩ (by repeat (first | exact True.intro | refine And.intro rfl ?_)) (by repeat (first | exact List.Sublist.slnil | exact List.nil_sublist _ | exact List.Sublist.refl _ | refine List.Sublist.cons_cons _ ?_ | refine List.Sublist.cons _ ?_ | refine List.Sublist.trans ?_ (List.sublist_append_right _ _))) ?_
      intro z hz9
      refine TC.seq ?_
      refine TC.seq ?_
      refine TC.region ?_
      refine TL.pure (PV.move rfl) rfl (by decide) ?_
      refine TL.pure (PV.leq rfl rfl) rfl (by decide) ?_
      refine TL.nil ?_
      refine TQ.thenC ?_
      first | refine TC.condD rfl (fun hk => ?_) (fun hk => ?_) | refine TC.cond rfl (fun hk => ?_) (fun hk => ?_)
      · skip
        refine TC.skip ?_
        refine TQ.thenC ?_
        refine TC.seq ?_
        refine TC.block ?_
        refine TC.seq ?_
        have ho : Mo.Ok ⟨x, y, z⟩ := ⟨hx9.1.1, by show x ≤ 6; omega, hy9.1.1, by show y ≤ 6; omega, hz9.1.1, by show z ≤ 3; omega⟩
        refine TC.region ?_
        refine TL.pure (PV.move rfl) rfl (by decide) ?_
        refine TL.pure (PV.move rfl) rfl (by decide) ?_
        refine TL.pure (PV.move rfl) rfl (by decide) ?_
        refine TL.pure (PV.build rfl Tb.zero_23 Tb.pl_23 rfl) rfl (by decide) ?_
        refine TL.alloc Tb.zero_23 rfl (by decide) (fun b1 hb1 => ?_)
        refine TL.storeAgg rfl rfl Tb.cells_23 (by repeat (first | exact Upd.head _ | apply Upd.tail | apply Upd.appR)) rfl rfl rfl rfl rfl ?_
        refine TL.nil ?_
        refine TQ.thenC ?_
        refine TC.seq ?_
        refine TC.region ?_
        refine TL.pure (PV.loadBox rfl Tb.agg_23 (by repeat (first | exact List.Mem.head _ | refine List.Mem.tail _ ?_ | refine List.mem_append_right _ ?_)) rfl) rfl (by decide) ?_
        refine TL.pure (PV.move rfl) rfl (by decide) ?_
        refine TL.call rfl Tb.gofn_94 (fun a w hs => read_ok w ⟨x, y, z⟩ ho L hL) rfl (by decide) (fun v hv => ?_)
        refine TL.pure (PV.move rfl) rfl (by decide) ?_
        refine TL.pure (PV.extract rfl rfl) rfl (by decide) ?_
        refine TL.pure (PV.extract rfl rfl) rfl (by decide) ?_
        refine TL.pure (PV.assign rfl) rfl (by decide) ?_
        refine TL.pure (PV.assign rfl) rfl (by decide) ?_
        refine TL.nil ?_
        refine TQ.thenC ?_
        refine TC.seq ?_
        refine TC.region ?_
        refine TL.pure (PV.move rfl) rfl (by decide) ?_
        refine TL.nil ?_
        refine TQ.thenC ?_
        first | refine TC.condD rfl (fun hok => ?_) (fun hok => ?_) | refine TC.cond rfl (fun hok => ?_) (fun hok => ?_)
        · skip
          refine TC.seq ?_
          refine TC.region ?_
          refine TL.pure (PV.loadBox rfl Tb.agg_23 (by repeat (first | exact List.Mem.head _ | refine List.Mem.tail _ ?_ | refine List.mem_append_right _ ?_)) rfl) rfl (by decide) ?_
          refine TL.pure (PV.move rfl) rfl (by decide) ?_
          refine TL.storeAgg rfl rfl Tb.cells_23 (by repeat (first | exact Upd.head _ | apply Upd.tail | apply Upd.appR)) rfl rfl rfl rfl rfl ?_
          refine TL.pure (PV.assign rfl) rfl (by decide) ?_
          refine TL.pure (PV.assign rfl) rfl (by decide) ?_
          refine TL.nil ?_
          refine TQ.thenC ?_
          refine TC.ret ?_
          refine TQ.blkR ?_
          refine TQ.thenR ?_
          refine TQ.thenR ?_
          refine TQ.blkR ?_
          refine TQ.blkR ?_
          refine TQ.thenR ?_
          refine TQ.thenR ?_
          refine TQ.blkR ?_
          refine TQ.blkR ?_
          refine TQ.thenR ?_
          refine TQ.thenR ?_
          refine TQ.blkR ?_
          refine TQ.thenR ?_
          refine TQ.retR rfl (Res.agg rfl Tb.agg_23 (by repeat (first | exact List.Mem.head _ | refine List.Mem.tail _ ?_ | refine List.mem_append_right _ ?_)) rfl (Res.tmp rfl (Res.tmp rfl Res.nil))) ?_
          simp only [tup]
          exact ⟨(⟨x, y, z⟩, v, 0), rfl, .inl ⟨rfl, ho, hv.1, hok.symm⟩, List.nil_sublist _⟩
        · skip
          refine TC.skip ?_
          refine TQ.blkN ?_
          refine TQ.thenC ?_
          refine TC.region ?_
          refine TL.pure (PV.move rfl) rfl (by decide) ?_
          refine TL.pure (PV.add rfl rfl (by omega)) rfl (by decide) ?_
          refine TL.pure (PV.assign rfl) rfl (by decide) ?_
          refine TL.nil ?_
          refine TQ.thenN ?_
          refine TQ.backK (z + 1) (by repeat (first | exact True.intro | refine And.intro rfl ?_)) (by repeat (first | exact True.intro | refine And.intro rfl ?_)) (by repeat (first | exact List.Sublist.slnil | exact List.nil_sublist _ | exact List.Sublist.refl _ | refine List.Sublist.cons_cons _ ?_ | refine List.Sublist.cons _ ?_ | refine List.Sublist.trans ?_ (List.sublist_append_right _ _))) ⟨⟨by omega, by omega⟩, hz9.2.next hv.2 hok⟩ (by omega)
      · skip
        refine TC.exit ?_
        refine TQ.thenE ?_
        refine TQ.thenE ?_
        refine TQ.blkS ?_
        refine TQ.blkN ?_
        refine TQ.thenC ?_
        refine TC.region ?_
        refine TL.pure (PV.move rfl) rfl (by decide) ?_
        refine TL.pure (PV.add rfl rfl (by omega)) rfl (by decide) ?_
        refine TL.pure (PV.assign rfl) rfl (by decide) ?_
        refine TL.nil ?_
        refine TQ.thenN ?_
        refine TQ.backK (y + 1) (by repeat (first | exact True.intro | refine And.intro rfl ?_)) (by repeat (first | exact True.intro | refine And.intro rfl ?_)) (by repeat (first | exact List.Sublist.slnil | exact List.nil_sublist _ | exact List.Sublist.refl _ | refine List.Sublist.cons_cons _ ?_ | refine List.Sublist.cons _ ?_ | refine List.Sublist.trans ?_ (List.sublist_append_right _ _))) ⟨⟨by omega, by omega⟩, hz9.2.out (by omega)⟩ (by omega)
    · skip
      refine TC.exit ?_
      refine TQ.thenE ?_
      refine TQ.thenE ?_
      refine TQ.blkS ?_
      refine TQ.blkN ?_
      refine TQ.thenC ?_
      refine TC.region ?_
      refine TL.pure (PV.move rfl) rfl (by decide) ?_
      refine TL.pure (PV.add rfl rfl (by omega)) rfl (by decide) ?_
      refine TL.pure (PV.assign rfl) rfl (by decide) ?_
      refine TL.nil ?_
      refine TQ.thenN ?_
      refine TQ.backK (x + 1) (by repeat (first | exact True.intro | refine And.intro rfl ?_)) (by repeat (first | exact True.intro | refine And.intro rfl ?_)) (by repeat (first | exact List.Sublist.slnil | exact List.nil_sublist _ | exact List.Sublist.refl _ | refine List.Sublist.cons_cons _ ?_ | refine List.Sublist.cons _ ?_ | refine List.Sublist.trans ?_ (List.sublist_append_right _ _))) ⟨⟨by omega, by omega⟩, hy9.2.out (by omega)⟩ (by omega)
  · skip
    refine TC.exit ?_
    refine TQ.thenE ?_
    refine TQ.thenE ?_
    refine TQ.blkS ?_
    refine TQ.thenC ?_
    refine TC.seq ?_
    refine TC.region ?_
    refine TL.pure (PV.build rfl Tb.zero_23 Tb.pl_23 rfl) rfl (by decide) ?_
    refine TL.storeAgg rfl rfl Tb.cells_23 (by repeat (first | exact Upd.head _ | apply Upd.tail | apply Upd.appR)) rfl rfl rfl rfl rfl ?_
    refine TL.pure (PV.assign rfl) rfl (by decide) ?_
    refine TL.pure (PV.assign rfl) rfl (by decide) ?_
    refine TL.nil ?_
    refine TQ.thenC ?_
    refine TC.ret ?_
    refine TQ.retR rfl (Res.agg rfl Tb.agg_23 (by repeat (first | exact List.Mem.head _ | refine List.Mem.tail _ ?_ | refine List.mem_append_right _ ?_)) rfl (Res.tmp rfl (Res.tmp rfl Res.nil))) ?_
    simp only [tup]
    exact ⟨(⟨0, 0, 0⟩, 0, 2), rfl, .inr ⟨rfl, rfl, rfl, fun m S ho hS hf => absurd (hx9.2 m S ho hS hf) (by have := ho.R6; omega)⟩, List.nil_sublist _⟩

set_option maxRecDepth 100000 in
set_option maxHeartbeats 4000000 in
theorem Parse_ok (w0 : World) (ht : TzAt w0) (hx : TxAt w0) (L : List UInt8) (hL : L.length ≤ 2000) :
    Calls Tryd.prog 54 #[str L] w0 (Post (X := Mo.Md × Nat × Int) (fun x => .tuple #[mV x.1, .int .i64 (x.2.1 : Nat), .int .i64 x.2.2]) (fun x => PR L x) (fun _ => []) w0) := by
  have hcl := cut_le L
  refine calls Tryd.func54 rfl (n := 51) rfl (by simp) ?_
  refine TC.seq ?_
  refine TC.region ?_
  refine TL.alloc Tb.zero_23 rfl (by decide) (fun b0 hb0 => ?_)
  refine TL.pure (PV.assign rfl) rfl (by decide) ?_
  refine TL.pure (PV.assign rfl) rfl (by decide) ?_
  refine TL.nil ?_
  refine TQ.thenC ?_
  refine TC.seq ?_
  refine TC.region ?_
  refine TL.pure (PV.move rfl) rfl (by decide) ?_
  refine TL.call rfl Tb.gofn_90 (fun a w hs => cut_ok w (hx.new hs.new) L hL) rfl (by decide) (fun _ _ => ?_)
  refine TL.pure (PV.move rfl) rfl (by decide) ?_
  refine TL.pure (PV.extract rfl rfl) rfl (by decide) ?_
  refine TL.pure (PV.extract rfl rfl) rfl (by decide) ?_
  refine TL.pure (PV.extract rfl rfl) rfl (by decide) ?_
  refine TL.pure (PV.assign rfl) rfl (by decide) ?_
  refine TL.pure (PV.assign rfl) rfl (by decide) ?_
  refine TL.pure (PV.assign rfl) rfl (by decide) ?_
  refine TL.nil ?_
  refine TQ.thenC ?_
  refine TC.seq ?_
  refine TC.region ?_
  refine TL.pure (PV.move rfl) rfl (by decide) ?_
  refine TL.call rfl Tb.gofn_91 (fun a w hs => split_ok w (hx.new hs.new) (Hd L) (by omega)) rfl (by decide) (fun bS _ => ?_)
  refine TL.pure (PV.assign rfl) rfl (by decide) ?_
  refine TL.nil ?_
  refine TQ.thenC ?_
  refine TC.seq ?_
  refine TC.seq ?_
  refine TC.region ?_
  refine TL.pure (PV.move rfl) rfl (by decide) ?_
  refine TL.pure (PV.len rfl Tb.sl_78) rfl (by decide) ?_
  refine TL.pure (PV.neq rfl rfl) rfl (by decide) ?_
  refine TL.nil ?_
  refine TQ.thenC ?_
  first | refine TC.condD rfl (fun h4 => ?_) (fun h4 => ?_) | refine TC.cond rfl (fun h4 => ?_) (fun h4 => ?_)
  · skip
    refine TC.seq ?_
    refine TC.region ?_
    refine TL.pure (PV.build rfl Tb.zero_23 Tb.pl_23 rfl) rfl (by decide) ?_
    refine TL.storeAgg rfl rfl Tb.cells_23 (by repeat (first | exact Upd.head _ | apply Upd.tail | apply Upd.appR)) rfl rfl rfl rfl rfl ?_
    refine TL.pure (PV.assign rfl) rfl (by decide) ?_
    refine TL.pure (PV.assign rfl) rfl (by decide) ?_
    refine TL.nil ?_
    refine TQ.thenC ?_
    refine TC.ret ?_
    refine TQ.thenR ?_
    refine TQ.retR rfl (Res.agg rfl Tb.agg_23 (by repeat (first | exact List.Mem.head _ | refine List.Mem.tail _ ?_ | refine List.mem_append_right _ ?_)) rfl (Res.tmp rfl (Res.tmp rfl Res.nil))) ?_
    simp only [tup]
    exact ⟨(⟨0, 0, 0⟩, 0, 2), rfl, prs_four (by omega), List.nil_sublist _⟩
  · skip
    have h44 : (wrd (Hd L)).length = 4 := by omega
    obtain ⟨l0, l1, l2, l3, hwr, hwc, hl1, hl2, hl3⟩ := wrd_four h44
    refine TC.skip ?_
    refine TQ.thenC ?_
    refine TC.seq ?_
    refine TC.mixV [true, true, true, false, true, true, true, false, true, true, true, false, true, false, false] [(bS, Obj.cells (wcs (Hd L)) 9 (0, 0)), (b0, Obj.cells #[.int .i64 0, .int .i64 0, .int .i64 0] 23 (0, 0))] 15 Tb.mixed rfl (by kernel_rfl) (by kernel_rfl) (by kernel_rfl) (by kernel_rfl) (by repeat (first | exact List.Sublist.slnil | exact List.nil_sublist _ | exact List.Sublist.refl _ | refine List.Sublist.cons_cons _ ?_ | refine List.Sublist.cons _ ?_ | refine List.Sublist.trans ?_ (List.sublist_append_right _ _))) ?_
    refine TV.virt 0 rfl rfl (by decide) rfl (by kernel_rfl) (SOK.pure (PV.move rfl) rfl) ?_
    refine TV.virt 1 rfl rfl (by decide) rfl (by kernel_rfl) (SOK.pure (PV.index (j := 1) rfl rfl Tb.elm_78 rfl (by omega)) rfl) ?_
    refine TV.virt 2 rfl rfl (by decide) rfl (by kernel_rfl) (SOK.pure (PV.load (v := str l1) rfl Tb.one_9 (by repeat (first | exact List.Mem.head _ | refine List.Mem.tail _ ?_ | refine List.mem_append_right _ ?_)) (by rw [hwc]; rfl)) rfl) ?_
    refine TV.virt 4 rfl rfl (by decide) rfl (by kernel_rfl) (SOK.pure (PV.move rfl) rfl) ?_
    refine TV.virt 5 rfl rfl (by decide) rfl (by kernel_rfl) (SOK.pure (PV.index (j := 2) rfl rfl Tb.elm_78 rfl (by omega)) rfl) ?_
    refine TV.virt 6 rfl rfl (by decide) rfl (by kernel_rfl) (SOK.pure (PV.load (v := str l2) rfl Tb.one_9 (by repeat (first | exact List.Mem.head _ | refine List.Mem.tail _ ?_ | refine List.mem_append_right _ ?_)) (by rw [hwc]; rfl)) rfl) ?_
    refine TV.virt 8 rfl rfl (by decide) rfl (by kernel_rfl) (SOK.pure (PV.move rfl) rfl) ?_
    refine TV.virt 9 rfl rfl (by decide) rfl (by kernel_rfl) (SOK.pure (PV.index (j := 3) rfl rfl Tb.elm_78 rfl (by omega)) rfl) ?_
    refine TV.virt 10 rfl rfl (by decide) rfl (by kernel_rfl) (SOK.pure (PV.load (v := str l3) rfl Tb.one_9 (by repeat (first | exact List.Mem.head _ | refine List.Mem.tail _ ?_ | refine List.mem_append_right _ ?_)) (by rw [hwc]; rfl)) rfl) ?_
    refine TV.step [3, 13] (by kernel_rfl) (by decide) rfl ⟨⟨_, rfl, ?_⟩, ⟨_, rfl, ?_⟩, trivial⟩
    · skip
      refine TL.call rfl Tb.gofn_92 (fun a w hs => numberIn_ok w (hx.new hs.new) l1 (by omega)) rfl (by decide) (fun n1 hn1 => ?_)
      refine TL.nil ?_
      refine TV.next (.inl (by repeat (first | exact List.Sublist.slnil | exact List.nil_sublist _ | exact List.Sublist.refl _ | refine List.Sublist.cons_cons _ ?_ | refine List.Sublist.cons _ ?_ | refine List.Sublist.trans ?_ (List.sublist_append_right _ _)))) ?_
      refine TV.step [7, 13] (by kernel_rfl) (by decide) rfl ⟨⟨_, rfl, ?_⟩, ⟨_, rfl, ?_⟩, trivial⟩
      · skip
        refine TL.call rfl Tb.gofn_92 (fun a w hs => numberIn_ok w (hx.new hs.new) l2 (by omega)) rfl (by decide) (fun n2 hn2 => ?_)
        refine TL.nil ?_
        refine TV.next (.inl (by repeat (first | exact List.Sublist.slnil | exact List.nil_sublist _ | exact List.Sublist.refl _ | refine List.Sublist.cons_cons _ ?_ | refine List.Sublist.cons _ ?_ | refine List.Sublist.trans ?_ (List.sublist_append_right _ _)))) ?_
        refine TV.step [11, 13] (by kernel_rfl) (by decide) rfl ⟨⟨_, rfl, ?_⟩, ⟨_, rfl, ?_⟩, trivial⟩
        · skip
          refine TL.call rfl Tb.gofn_92 (fun a w hs => numberIn_ok w (hx.new hs.new) l3 (by omega)) rfl (by decide) (fun n3 hn3 => ?_)
          refine TL.nil ?_
          refine TV.next (.inl (by repeat (first | exact List.Sublist.slnil | exact List.nil_sublist _ | exact List.Sublist.refl _ | refine List.Sublist.cons_cons _ ?_ | refine List.Sublist.cons _ ?_ | refine List.Sublist.trans ?_ (List.sublist_append_right _ _)))) ?_
          refine TV.virt 12 rfl rfl (by decide) rfl (by kernel_rfl) (SOK.pure (PV.build rfl Tb.zero_23 Tb.pl_23 rfl) rfl) ?_
          refine TV.step [13] (by kernel_rfl) (by decide) rfl ⟨⟨_, rfl, ?_⟩, trivial⟩
          refine TL.alloc Tb.zero_23 rfl (by decide) (fun b1 hb1 => ?_)
          refine TL.nil ?_
          refine TV.next (.inl (by repeat (first | exact List.Sublist.slnil | exact List.nil_sublist _ | exact List.Sublist.refl _ | refine List.Sublist.cons_cons _ ?_ | refine List.Sublist.cons _ ?_ | refine List.Sublist.trans ?_ (List.sublist_append_right _ _)))) ?_
          refine TV.step [14] (by kernel_rfl) (by decide) rfl ⟨⟨_, rfl, ?_⟩, trivial⟩
          refine TL.storeAgg rfl rfl Tb.cells_23 (by repeat (first | exact Upd.head _ | apply Upd.tail | apply Upd.appR)) rfl rfl rfl rfl rfl ?_
          refine TL.nil ?_
          refine TV.next (.inr (by kernel_rfl)) ?_
          refine TV.done (by kernel_rfl) ?_
          refine TQ.thenC ?_
          refine TC.seq ?_
          refine TC.seq ?_
          refine TC.region ?_
          refine TL.pure (PV.loadBox rfl Tb.agg_23 (by repeat (first | exact List.Mem.head _ | refine List.Mem.tail _ ?_ | refine List.mem_append_right _ ?_)) rfl) rfl (by decide) ?_
          refine TL.call rfl Tb.gofn_19 (fun a w hs => validate_ok w _ _ _) rfl (by decide) (fun _ _ => ?_)
          refine TL.pure (PV.neq rfl rfl) rfl (by decide) ?_
          refine TL.nil ?_
          refine TQ.thenC ?_
          first | refine TC.condD rfl (fun hval => ?_) (fun hval => ?_) | refine TC.cond rfl (fun hval => ?_) (fun hval => ?_)
          · skip
            refine TC.seq ?_
            refine TC.region ?_
            refine TL.pure (PV.build rfl Tb.zero_23 Tb.pl_23 rfl) rfl (by decide) ?_
            refine TL.storeAgg rfl rfl Tb.cells_23 (by repeat (first | exact Upd.head _ | apply Upd.tail | apply Upd.appR)) rfl rfl rfl rfl rfl ?_
            refine TL.pure (PV.assign rfl) rfl (by decide) ?_
            refine TL.pure (PV.assign rfl) rfl (by decide) ?_
            refine TL.nil ?_
            refine TQ.thenC ?_
            refine TC.ret ?_
            refine TQ.thenR ?_
            refine TQ.retR rfl (Res.agg rfl Tb.agg_23 (by repeat (first | exact List.Mem.head _ | refine List.Mem.tail _ ?_ | refine List.mem_append_right _ ?_)) rfl (Res.tmp rfl (Res.tmp rfl Res.nil))) ?_
            simp only [tup]
            exact ⟨(⟨0, 0, 0⟩, 0, 2), rfl, prs_no hwr hn1 hn2 hn3 hval, List.nil_sublist _⟩
          · skip
            obtain ⟨m, ho, rfl, rfl, rfl⟩ := vI_is (show vI n1 n2 n3 = 0 by omega)
            refine TC.skip ?_
            refine TQ.thenC ?_
            refine TC.seq ?_
            refine TC.region ?_
            refine TL.pure (PV.loadBox rfl Tb.agg_23 (by repeat (first | exact List.Mem.head _ | refine List.Mem.tail _ ?_ | refine List.mem_append_right _ ?_)) rfl) rfl (by decide) ?_
            refine TL.pure (PV.move rfl) rfl (by decide) ?_
            refine TL.call rfl Tb.gofn_93 (fun a w hs => marked_ok w (ht.new hs.new) m ho (Bd' L) (by omega)) rfl (by decide) (fun _ _ => ?_)
            refine TL.pure (PV.assign rfl) rfl (by decide) ?_
            refine TL.nil ?_
            refine TQ.thenC ?_
            refine TC.seq ?_
            refine TC.seq ?_
            refine TC.region ?_
            refine TL.pure (PV.loadBox rfl Tb.agg_23 (by repeat (first | exact List.Mem.head _ | refine List.Mem.tail _ ?_ | refine List.mem_append_right _ ?_)) rfl) rfl (by decide) ?_
            refine TL.pure (PV.move rfl) rfl (by decide) ?_
            refine TL.call rfl Tb.gofn_88 (fun a w hs => format_ok w m ho _ (set63 ho (mkd_lt ho _))) rfl (by decide) (fun _ _ => ?_)
            refine TL.pure (PV.move rfl) rfl (by decide) ?_
            refine TL.pure (PV.neqS rfl rfl) rfl (by decide) ?_
            refine TL.nil ?_
            refine TQ.thenC ?_
            first | refine TC.condD rfl (fun hne => ?_) (fun hne => ?_) | refine TC.cond rfl (fun hne => ?_) (fun hne => ?_)
            · skip
              refine TC.seq ?_
              refine TC.region ?_
              refine TL.pure (PV.build rfl Tb.zero_23 Tb.pl_23 rfl) rfl (by decide) ?_
              refine TL.storeAgg rfl rfl Tb.cells_23 (by repeat (first | exact Upd.head _ | apply Upd.tail | apply Upd.appR)) rfl rfl rfl rfl rfl ?_
              refine TL.pure (PV.assign rfl) rfl (by decide) ?_
              refine TL.pure (PV.assign rfl) rfl (by decide) ?_
              refine TL.nil ?_
              refine TQ.thenC ?_
              refine TC.ret ?_
              refine TQ.thenR ?_
              refine TQ.retR rfl (Res.agg rfl Tb.agg_23 (by repeat (first | exact List.Mem.head _ | refine List.Mem.tail _ ?_ | refine List.mem_append_right _ ?_)) rfl (Res.tmp rfl (Res.tmp rfl Res.nil))) ?_
              simp only [tup]
              exact ⟨(⟨0, 0, 0⟩, 0, 2), rfl, prs_ne hwr hn1 hn2 hn3 hne, List.nil_sublist _⟩
            · skip
              refine TC.skip ?_
              refine TQ.thenC ?_
              refine TC.seq ?_
              refine TC.region ?_
              refine TL.pure (PV.loadBox rfl Tb.agg_23 (by repeat (first | exact List.Mem.head _ | refine List.Mem.tail _ ?_ | refine List.mem_append_right _ ?_)) rfl) rfl (by decide) ?_
              refine TL.pure (PV.move rfl) rfl (by decide) ?_
              refine TL.storeAgg rfl rfl Tb.cells_23 (by repeat (first | exact Upd.head _ | apply Upd.tail | apply Upd.appR)) rfl rfl rfl rfl rfl ?_
              refine TL.pure (PV.assign rfl) rfl (by decide) ?_
              refine TL.pure (PV.assign rfl) rfl (by decide) ?_
              refine TL.nil ?_
              refine TQ.thenC ?_
              refine TC.ret ?_
              refine TQ.retR rfl (Res.agg rfl Tb.agg_23 (by repeat (first | exact List.Mem.head _ | refine List.Mem.tail _ ?_ | refine List.mem_append_right _ ?_)) rfl (Res.tmp rfl (Res.tmp rfl Res.nil))) ?_
              simp only [tup]
              exact ⟨(m, mkd m (Bd' L), 0), rfl, .inl ⟨rfl, ho, mkd_lt ho _, (Classical.not_not.1 hne).symm⟩, List.nil_sublist _⟩
        · skip
          refine TL.alloc Tb.zero_23 rfl (by decide) (fun b2 hb2 => ?_)
          refine TL.nil ?_
          refine TV.next (.inl (by repeat (first | exact List.Sublist.slnil | exact List.nil_sublist _ | exact List.Sublist.refl _ | refine List.Sublist.cons_cons _ ?_ | refine List.Sublist.cons _ ?_ | refine List.Sublist.trans ?_ (List.sublist_append_right _ _)))) ?_
          refine TV.step [11] (by kernel_rfl) (by decide) rfl ⟨⟨_, rfl, ?_⟩, trivial⟩
          refine TL.call rfl Tb.gofn_92 (fun a w hs => numberIn_ok w (hx.new hs.new) l3 (by omega)) rfl (by decide) (fun n3 hn3 => ?_)
          refine TL.nil ?_
          refine TV.next (.inl (by repeat (first | exact List.Sublist.slnil | exact List.nil_sublist _ | exact List.Sublist.refl _ | refine List.Sublist.cons_cons _ ?_ | refine List.Sublist.cons _ ?_ | refine List.Sublist.trans ?_ (List.sublist_append_right _ _)))) ?_
          refine TV.virt 12 rfl rfl (by decide) rfl (by kernel_rfl) (SOK.pure (PV.build rfl Tb.zero_23 Tb.pl_23 rfl) rfl) ?_
          refine TV.step [14] (by kernel_rfl) (by decide) rfl ⟨⟨_, rfl, ?_⟩, trivial⟩
          refine TL.storeAgg rfl rfl Tb.cells_23 (by repeat (first | exact Upd.head _ | apply Upd.tail | apply Upd.appR)) rfl rfl rfl rfl rfl ?_
          refine TL.nil ?_
          refine TV.next (.inr (by kernel_rfl)) ?_
          refine TV.done (by kernel_rfl) ?_
          refine TQ.thenC ?_
          refine TC.seq ?_
          refine TC.seq ?_
          refine TC.region ?_
          refine TL.pure (PV.loadBox rfl Tb.agg_23 (by repeat (first | exact List.Mem.head _ | refine List.Mem.tail _ ?_ | refine List.mem_append_right _ ?_)) rfl) rfl (by decide) ?_
          refine TL.call rfl Tb.gofn_19 (fun a w hs => validate_ok w _ _ _) rfl (by decide) (fun _ _ => ?_)
          refine TL.pure (PV.neq rfl rfl) rfl (by decide) ?_
          refine TL.nil ?_
          refine TQ.thenC ?_
          first | refine TC.condD rfl (fun hval => ?_) (fun hval => ?_) | refine TC.cond rfl (fun hval => ?_) (fun hval => ?_)
          · skip
            refine TC.seq ?_
            refine TC.region ?_
            refine TL.pure (PV.build rfl Tb.zero_23 Tb.pl_23 rfl) rfl (by decide) ?_
            refine TL.storeAgg rfl rfl Tb.cells_23 (by repeat (first | exact Upd.head _ | apply Upd.tail | apply Upd.appR)) rfl rfl rfl rfl rfl ?_
            refine TL.pure (PV.assign rfl) rfl (by decide) ?_
            refine TL.pure (PV.assign rfl) rfl (by decide) ?_
            refine TL.nil ?_
            refine TQ.thenC ?_
            refine TC.ret ?_
            refine TQ.thenR ?_
            refine TQ.retR rfl (Res.agg rfl Tb.agg_23 (by repeat (first | exact List.Mem.head _ | refine List.Mem.tail _ ?_ | refine List.mem_append_right _ ?_)) rfl (Res.tmp rfl (Res.tmp rfl Res.nil))) ?_
            simp only [tup]
            exact ⟨(⟨0, 0, 0⟩, 0, 2), rfl, prs_no hwr hn1 hn2 hn3 hval, List.nil_sublist _⟩
          · skip
            obtain ⟨m, ho, rfl, rfl, rfl⟩ := vI_is (show vI n1 n2 n3 = 0 by omega)
            refine TC.skip ?_
            refine TQ.thenC ?_
            refine TC.seq ?_
            refine TC.region ?_
            refine TL.pure (PV.loadBox rfl Tb.agg_23 (by repeat (first | exact List.Mem.head _ | refine List.Mem.tail _ ?_ | refine List.mem_append_right _ ?_)) rfl) rfl (by decide) ?_
            refine TL.pure (PV.move rfl) rfl (by decide) ?_
            refine TL.call rfl Tb.gofn_93 (fun a w hs => marked_ok w (ht.new hs.new) m ho (Bd' L) (by omega)) rfl (by decide) (fun _ _ => ?_)
            refine TL.pure (PV.assign rfl) rfl (by decide) ?_
            refine TL.nil ?_
            refine TQ.thenC ?_
            refine TC.seq ?_
            refine TC.seq ?_
            refine TC.region ?_
            refine TL.pure (PV.loadBox rfl Tb.agg_23 (by repeat (first | exact List.Mem.head _ | refine List.Mem.tail _ ?_ | refine List.mem_append_right _ ?_)) rfl) rfl (by decide) ?_
            refine TL.pure (PV.move rfl) rfl (by decide) ?_
            refine TL.call rfl Tb.gofn_88 (fun a w hs => format_ok w m ho _ (set63 ho (mkd_lt ho _))) rfl (by decide) (fun _ _ => ?_)
            refine TL.pure (PV.move rfl) rfl (by decide) ?_
            refine TL.pure (PV.neqS rfl rfl) rfl (by decide) ?_
            refine TL.nil ?_
            refine TQ.thenC ?_
            first | refine TC.condD rfl (fun hne => ?_) (fun hne => ?_) | refine TC.cond rfl (fun hne => ?_) (fun hne => ?_)
            · skip
              refine TC.seq ?_
              refine TC.region ?_
              refine TL.pure (PV.build rfl Tb.zero_23 Tb.pl_23 rfl) rfl (by decide) ?_
              refine TL.storeAgg rfl rfl Tb.cells_23 (by repeat (first | exact Upd.head _ | apply Upd.tail | apply Upd.appR)) rfl rfl rfl rfl rfl ?_
              refine TL.pure (PV.assign rfl) rfl (by decide) ?_
              refine TL.pure (PV.assign rfl) rfl (by decide) ?_
              refine TL.nil ?_
              refine TQ.thenC ?_
              refine TC.ret ?_
              refine TQ.thenR ?_
              refine TQ.retR rfl (Res.agg rfl Tb.agg_23 (by repeat (first | exact List.Mem.head _ | refine List.Mem.tail _ ?_ | refine List.mem_append_right _ ?_)) rfl (Res.tmp rfl (Res.tmp rfl Res.nil))) ?_
              simp only [tup]
              exact ⟨(⟨0, 0, 0⟩, 0, 2), rfl, prs_ne hwr hn1 hn2 hn3 hne, List.nil_sublist _⟩
            · skip
              refine TC.skip ?_
              refine TQ.thenC ?_
              refine TC.seq ?_
              refine TC.region ?_
              refine TL.pure (PV.loadBox rfl Tb.agg_23 (by repeat (first | exact List.Mem.head _ | refine List.Mem.tail _ ?_ | refine List.mem_append_right _ ?_)) rfl) rfl (by decide) ?_
              refine TL.pure (PV.move rfl) rfl (by decide) ?_
              refine TL.storeAgg rfl rfl Tb.cells_23 (by repeat (first | exact Upd.head _ | apply Upd.tail | apply Upd.appR)) rfl rfl rfl rfl rfl ?_
              refine TL.pure (PV.assign rfl) rfl (by decide) ?_
              refine TL.pure (PV.assign rfl) rfl (by decide) ?_
              refine TL.nil ?_
              refine TQ.thenC ?_
              refine TC.ret ?_
              refine TQ.retR rfl (Res.agg rfl Tb.agg_23 (by repeat (first | exact List.Mem.head _ | refine List.Mem.tail _ ?_ | refine List.mem_append_right _ ?_)) rfl (Res.tmp rfl (Res.tmp rfl Res.nil))) ?_
              simp only [tup]
              exact ⟨(m, mkd m (Bd' L), 0), rfl, .inl ⟨rfl, ho, mkd_lt ho _, (Classical.not_not.1 hne).symm⟩, List.nil_sublist _⟩
      · skip
        refine TL.alloc Tb.zero_23 rfl (by decide) (fun b3 hb3 => ?_)
        refine TL.nil ?_
        refine TV.next (.inl (by repeat (first | exact List.Sublist.slnil | exact List.nil_sublist _ | exact List.Sublist.refl _ | refine List.Sublist.cons_cons _ ?_ | refine List.Sublist.cons _ ?_ | refine List.Sublist.trans ?_ (List.sublist_append_right _ _)))) ?_
        refine TV.step [7] (by kernel_rfl) (by decide) rfl ⟨⟨_, rfl, ?_⟩, trivial⟩
        refine TL.call rfl Tb.gofn_92 (fun a w hs => numberIn_ok w (hx.new hs.new) l2 (by omega)) rfl (by decide) (fun n2 hn2 => ?_)
        refine TL.nil ?_
        refine TV.next (.inl (by repeat (first | exact List.Sublist.slnil | exact List.nil_sublist _ | exact List.Sublist.refl _ | refine List.Sublist.cons_cons _ ?_ | refine List.Sublist.cons _ ?_ | refine List.Sublist.trans ?_ (List.sublist_append_right _ _)))) ?_
        refine TV.step [11] (by kernel_rfl) (by decide) rfl ⟨⟨_, rfl, ?_⟩, trivial⟩
        refine TL.call rfl Tb.gofn_92 (fun a w hs => numberIn_ok w (hx.new hs.new) l3 (by omega)) rfl (by decide) (fun n3 hn3 => ?_)
        refine TL.nil ?_
        refine TV.next (.inl (by repeat (first | exact List.Sublist.slnil | exact List.nil_sublist _ | exact List.Sublist.refl _ | refine List.Sublist.cons_cons _ ?_ | refine List.Sublist.cons _ ?_ | refine List.Sublist.trans ?_ (List.sublist_append_right _ _)))) ?_
        refine TV.virt 12 rfl rfl (by decide) rfl (by kernel_rfl) (SOK.pure (PV.build rfl Tb.zero_23 Tb.pl_23 rfl) rfl) ?_
        refine TV.step [14] (by kernel_rfl) (by decide) rfl ⟨⟨_, rfl, ?_⟩, trivial⟩
        refine TL.storeAgg rfl rfl Tb.cells_23 (by repeat (first | exact Upd.head _ | apply Upd.tail | apply Upd.appR)) rfl rfl rfl rfl rfl ?_
        refine TL.nil ?_
        refine TV.next (.inr (by kernel_rfl)) ?_
        refine TV.done (by kernel_rfl) ?_
        refine TQ.thenC ?_
        refine TC.seq ?_
        refine TC.seq ?_
        refine TC.region ?_
        refine TL.pure (PV.loadBox rfl Tb.agg_23 (by repeat (first | exact List.Mem.head _ | refine List.Mem.tail _ ?_ | refine List.mem_append_right _ ?_)) rfl) rfl (by decide) ?_
        refine TL.call rfl Tb.gofn_19 (fun a w hs => validate_ok w _ _ _) rfl (by decide) (fun _ _ => ?_)
        refine TL.pure (PV.neq rfl rfl) rfl (by decide) ?_
        refine TL.nil ?_
        refine TQ.thenC ?_
        first | refine TC.condD rfl (fun hval => ?_) (fun hval => ?_) | refine TC.cond rfl (fun hval => ?_) (fun hval => ?_)
        · skip
          refine TC.seq ?_
          refine TC.region ?_
          refine TL.pure (PV.build rfl Tb.zero_23 Tb.pl_23 rfl) rfl (by decide) ?_
          refine TL.storeAgg rfl rfl Tb.cells_23 (by repeat (first | exact Upd.head _ | apply Upd.tail | apply Upd.appR)) rfl rfl rfl rfl rfl ?_
          refine TL.pure (PV.assign rfl) rfl (by decide) ?_
          refine TL.pure (PV.assign rfl) rfl (by decide) ?_
          refine TL.nil ?_
          refine TQ.thenC ?_
          refine TC.ret ?_
          refine TQ.thenR ?_
          refine TQ.retR rfl (Res.agg rfl Tb.agg_23 (by repeat (first | exact List.Mem.head _ | refine List.Mem.tail _ ?_ | refine List.mem_append_right _ ?_)) rfl (Res.tmp rfl (Res.tmp rfl Res.nil))) ?_
          simp only [tup]
          exact ⟨(⟨0, 0, 0⟩, 0, 2), rfl, prs_no hwr hn1 hn2 hn3 hval, List.nil_sublist _⟩
        · skip
          obtain ⟨m, ho, rfl, rfl, rfl⟩ := vI_is (show vI n1 n2 n3 = 0 by omega)
          refine TC.skip ?_
          refine TQ.thenC ?_
          refine TC.seq ?_
          refine TC.region ?_
          refine TL.pure (PV.loadBox rfl Tb.agg_23 (by repeat (first | exact List.Mem.head _ | refine List.Mem.tail _ ?_ | refine List.mem_append_right _ ?_)) rfl) rfl (by decide) ?_
          refine TL.pure (PV.move rfl) rfl (by decide) ?_
          refine TL.call rfl Tb.gofn_93 (fun a w hs => marked_ok w (ht.new hs.new) m ho (Bd' L) (by omega)) rfl (by decide) (fun _ _ => ?_)
          refine TL.pure (PV.assign rfl) rfl (by decide) ?_
          refine TL.nil ?_
          refine TQ.thenC ?_
          refine TC.seq ?_
          refine TC.seq ?_
          refine TC.region ?_
          refine TL.pure (PV.loadBox rfl Tb.agg_23 (by repeat (first | exact List.Mem.head _ | refine List.Mem.tail _ ?_ | refine List.mem_append_right _ ?_)) rfl) rfl (by decide) ?_
          refine TL.pure (PV.move rfl) rfl (by decide) ?_
          refine TL.call rfl Tb.gofn_88 (fun a w hs => format_ok w m ho _ (set63 ho (mkd_lt ho _))) rfl (by decide) (fun _ _ => ?_)
          refine TL.pure (PV.move rfl) rfl (by decide) ?_
          refine TL.pure (PV.neqS rfl rfl) rfl (by decide) ?_
          refine TL.nil ?_
          refine TQ.thenC ?_
          first | refine TC.condD rfl (fun hne => ?_) (fun hne => ?_) | refine TC.cond rfl (fun hne => ?_) (fun hne => ?_)
          · skip
            refine TC.seq ?_
            refine TC.region ?_
            refine TL.pure (PV.build rfl Tb.zero_23 Tb.pl_23 rfl) rfl (by decide) ?_
            refine TL.storeAgg rfl rfl Tb.cells_23 (by repeat (first | exact Upd.head _ | apply Upd.tail | apply Upd.appR)) rfl rfl rfl rfl rfl ?_
            refine TL.pure (PV.assign rfl) rfl (by decide) ?_
            refine TL.pure (PV.assign rfl) rfl (by decide) ?_
            refine TL.nil ?_
            refine TQ.thenC ?_
            refine TC.ret ?_
            refine TQ.thenR ?_
            refine TQ.retR rfl (Res.agg rfl Tb.agg_23 (by repeat (first | exact List.Mem.head _ | refine List.Mem.tail _ ?_ | refine List.mem_append_right _ ?_)) rfl (Res.tmp rfl (Res.tmp rfl Res.nil))) ?_
            simp only [tup]
            exact ⟨(⟨0, 0, 0⟩, 0, 2), rfl, prs_ne hwr hn1 hn2 hn3 hne, List.nil_sublist _⟩
          · skip
            refine TC.skip ?_
            refine TQ.thenC ?_
            refine TC.seq ?_
            refine TC.region ?_
            refine TL.pure (PV.loadBox rfl Tb.agg_23 (by repeat (first | exact List.Mem.head _ | refine List.Mem.tail _ ?_ | refine List.mem_append_right _ ?_)) rfl) rfl (by decide) ?_
            refine TL.pure (PV.move rfl) rfl (by decide) ?_
            refine TL.storeAgg rfl rfl Tb.cells_23 (by repeat (first | exact Upd.head _ | apply Upd.tail | apply Upd.appR)) rfl rfl rfl rfl rfl ?_
            refine TL.pure (PV.assign rfl) rfl (by decide) ?_
            refine TL.pure (PV.assign rfl) rfl (by decide) ?_
            refine TL.nil ?_
            refine TQ.thenC ?_
            refine TC.ret ?_
            refine TQ.retR rfl (Res.agg rfl Tb.agg_23 (by repeat (first | exact List.Mem.head _ | refine List.Mem.tail _ ?_ | refine List.mem_append_right _ ?_)) rfl (Res.tmp rfl (Res.tmp rfl Res.nil))) ?_
            simp only [tup]
            exact ⟨(m, mkd m (Bd' L), 0), rfl, .inl ⟨rfl, ho, mkd_lt ho _, (Classical.not_not.1 hne).symm⟩, List.nil_sublist _⟩
    · skip
      refine TL.alloc Tb.zero_23 rfl (by decide) (fun b4 hb4 => ?_)
      refine TL.nil ?_
      refine TV.next (.inl (by repeat (first | exact List.Sublist.slnil | exact List.nil_sublist _ | exact List.Sublist.refl _ | refine List.Sublist.cons_cons _ ?_ | refine List.Sublist.cons _ ?_ | refine List.Sublist.trans ?_ (List.sublist_append_right _ _)))) ?_
      refine TV.step [3] (by kernel_rfl) (by decide) rfl ⟨⟨_, rfl, ?_⟩, trivial⟩
      refine TL.call rfl Tb.gofn_92 (fun a w hs => numberIn_ok w (hx.new hs.new) l1 (by omega)) rfl (by decide) (fun n1 hn1 => ?_)
      refine TL.nil ?_
      refine TV.next (.inl (by repeat (first | exact List.Sublist.slnil | exact List.nil_sublist _ | exact List.Sublist.refl _ | refine List.Sublist.cons_cons _ ?_ | refine List.Sublist.cons _ ?_ | refine List.Sublist.trans ?_ (List.sublist_append_right _ _)))) ?_
      refine TV.step [7] (by kernel_rfl) (by decide) rfl ⟨⟨_, rfl, ?_⟩, trivial⟩
      refine TL.call rfl Tb.gofn_92 (fun a w hs => numberIn_ok w (hx.new hs.new) l2 (by omega)) rfl (by decide) (fun n2 hn2 => ?_)
      refine TL.nil ?_
      refine TV.next (.inl (by repeat (first | exact List.Sublist.slnil | exact List.nil_sublist _ | exact List.Sublist.refl _ | refine List.Sublist.cons_cons _ ?_ | refine List.Sublist.cons _ ?_ | refine List.Sublist.trans ?_ (List.sublist_append_right _ _)))) ?_
      refine TV.step [11] (by kernel_rfl) (by decide) rfl ⟨⟨_, rfl, ?_⟩, trivial⟩
      refine TL.call rfl Tb.gofn_92 (fun a w hs => numberIn_ok w (hx.new hs.new) l3 (by omega)) rfl (by decide) (fun n3 hn3 => ?_)
      refine TL.nil ?_
      refine TV.next (.inl (by repeat (first | exact List.Sublist.slnil | exact List.nil_sublist _ | exact List.Sublist.refl _ | refine List.Sublist.cons_cons _ ?_ | refine List.Sublist.cons _ ?_ | refine List.Sublist.trans ?_ (List.sublist_append_right _ _)))) ?_
      refine TV.virt 12 rfl rfl (by decide) rfl (by kernel_rfl) (SOK.pure (PV.build rfl Tb.zero_23 Tb.pl_23 rfl) rfl) ?_
      refine TV.step [14] (by kernel_rfl) (by decide) rfl ⟨⟨_, rfl, ?_⟩, trivial⟩
      refine TL.storeAgg rfl rfl Tb.cells_23 (by repeat (first | exact Upd.head _ | apply Upd.tail | apply Upd.appR)) rfl rfl rfl rfl rfl ?_
      refine TL.nil ?_
      refine TV.next (.inr (by kernel_rfl)) ?_
      refine TV.done (by kernel_rfl) ?_
      refine TQ.thenC ?_
      refine TC.seq ?_
      refine TC.seq ?_
      refine TC.region ?_
      refine TL.pure (PV.loadBox rfl Tb.agg_23 (by repeat (first | exact List.Mem.head _ | refine List.Mem.tail _ ?_ | refine List.mem_append_right _ ?_)) rfl) rfl (by decide) ?_
      refine TL.call rfl Tb.gofn_19 (fun a w hs => validate_ok w _ _ _) rfl (by decide) (fun _ _ => ?_)
      refine TL.pure (PV.neq rfl rfl) rfl (by decide) ?_
      refine TL.nil ?_
      refine TQ.thenC ?_
      first | refine TC.condD rfl (fun hval => ?_) (fun hval => ?_) | refine TC.cond rfl (fun hval => ?_) (fun hval => ?_)
      · skip
        refine TC.seq ?_
        refine TC.region ?_
        refine TL.pure (PV.build rfl Tb.zero_23 Tb.pl_23 rfl) rfl (by decide) ?_
        refine TL.storeAgg rfl rfl Tb.cells_23 (by repeat (first | exact Upd.head _ | apply Upd.tail | apply Upd.appR)) rfl rfl rfl rfl rfl ?_
        refine TL.pure (PV.assign rfl) rfl (by decide) ?_
        refine TL.pure (PV.assign rfl) rfl (by decide) ?_
        refine TL.nil ?_
        refine TQ.thenC ?_
        refine TC.ret ?_
        refine TQ.thenR ?_
        refine TQ.retR rfl (Res.agg rfl Tb.agg_23 (by repeat (first | exact List.Mem.head _ | refine List.Mem.tail _ ?_ | refine List.mem_append_right _ ?_)) rfl (Res.tmp rfl (Res.tmp rfl Res.nil))) ?_
        simp only [tup]
        exact ⟨(⟨0, 0, 0⟩, 0, 2), rfl, prs_no hwr hn1 hn2 hn3 hval, List.nil_sublist _⟩
      · skip
        obtain ⟨m, ho, rfl, rfl, rfl⟩ := vI_is (show vI n1 n2 n3 = 0 by omega)
        refine TC.skip ?_
        refine TQ.thenC ?_
        refine TC.seq ?_
        refine TC.region ?_
        refine TL.pure (PV.loadBox rfl Tb.agg_23 (by repeat (first | exact List.Mem.head _ | refine List.Mem.tail _ ?_ | refine List.mem_append_right _ ?_)) rfl) rfl (by decide) ?_
        refine TL.pure (PV.move rfl) rfl (by decide) ?_
        refine TL.call rfl Tb.gofn_93 (fun a w hs => marked_ok w (ht.new hs.new) m ho (Bd' L) (by omega)) rfl (by decide) (fun _ _ => ?_)
        refine TL.pure (PV.assign rfl) rfl (by decide) ?_
        refine TL.nil ?_
        refine TQ.thenC ?_
        refine TC.seq ?_
        refine TC.seq ?_
        refine TC.region ?_
        refine TL.pure (PV.loadBox rfl Tb.agg_23 (by repeat (first | exact List.Mem.head _ | refine List.Mem.tail _ ?_ | refine List.mem_append_right _ ?_)) rfl) rfl (by decide) ?_
        refine TL.pure (PV.move rfl) rfl (by decide) ?_
        refine TL.call rfl Tb.gofn_88 (fun a w hs => format_ok w m ho _ (set63 ho (mkd_lt ho _))) rfl (by decide) (fun _ _ => ?_)
        refine TL.pure (PV.move rfl) rfl (by decide) ?_
        refine TL.pure (PV.neqS rfl rfl) rfl (by decide) ?_
        refine TL.nil ?_
        refine TQ.thenC ?_
        first | refine TC.condD rfl (fun hne => ?_) (fun hne => ?_) | refine TC.cond rfl (fun hne => ?_) (fun hne => ?_)
        · skip
          refine TC.seq ?_
          refine TC.region ?_
          refine TL.pure (PV.build rfl Tb.zero_23 Tb.pl_23 rfl) rfl (by decide) ?_
          refine TL.storeAgg rfl rfl Tb.cells_23 (by repeat (first | exact Upd.head _ | apply Upd.tail | apply Upd.appR)) rfl rfl rfl rfl rfl ?_
          refine TL.pure (PV.assign rfl) rfl (by decide) ?_
          refine TL.pure (PV.assign rfl) rfl (by decide) ?_
          refine TL.nil ?_
          refine TQ.thenC ?_
          refine TC.ret ?_
          refine TQ.thenR ?_
          refine TQ.retR rfl (Res.agg rfl Tb.agg_23 (by repeat (first | exact List.Mem.head _ | refine List.Mem.tail _ ?_ | refine List.mem_append_right _ ?_)) rfl (Res.tmp rfl (Res.tmp rfl Res.nil))) ?_
          simp only [tup]
          exact ⟨(⟨0, 0, 0⟩, 0, 2), rfl, prs_ne hwr hn1 hn2 hn3 hne, List.nil_sublist _⟩
        · skip
          refine TC.skip ?_
          refine TQ.thenC ?_
          refine TC.seq ?_
          refine TC.region ?_
          refine TL.pure (PV.loadBox rfl Tb.agg_23 (by repeat (first | exact List.Mem.head _ | refine List.Mem.tail _ ?_ | refine List.mem_append_right _ ?_)) rfl) rfl (by decide) ?_
          refine TL.pure (PV.move rfl) rfl (by decide) ?_
          refine TL.storeAgg rfl rfl Tb.cells_23 (by repeat (first | exact Upd.head _ | apply Upd.tail | apply Upd.appR)) rfl rfl rfl rfl rfl ?_
          refine TL.pure (PV.assign rfl) rfl (by decide) ?_
          refine TL.pure (PV.assign rfl) rfl (by decide) ?_
          refine TL.nil ?_
          refine TQ.thenC ?_
          refine TC.ret ?_
          refine TQ.retR rfl (Res.agg rfl Tb.agg_23 (by repeat (first | exact List.Mem.head _ | refine List.Mem.tail _ ?_ | refine List.mem_append_right _ ?_)) rfl (Res.tmp rfl (Res.tmp rfl Res.nil))) ?_
          simp only [tup]
          exact ⟨(m, mkd m (Bd' L), 0), rfl, .inl ⟨rfl, ho, mkd_lt ho _, (Classical.not_not.1 hne).symm⟩, List.nil_sublist _⟩

end Go.Proofs.YtaeobkgogipceaaDoor
