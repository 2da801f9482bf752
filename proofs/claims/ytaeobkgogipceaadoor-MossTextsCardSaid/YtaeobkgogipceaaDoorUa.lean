/- Texts: contracts of the library, numbers in words, the meadow of a text. -/
import Derived.Test.YtaeobkgogipceaaDoorUc
import Derived.Shelf.Strconv.ErrVarAll
import Derived.Shelf.Strings.Cut
set_option linter.unusedVariables false
set_option linter.unusedSimpArgs false
namespace Go.Proofs.YtaeobkgogipceaaDoor
open Go.Sx Go.RowKit

/-- What the library's own variables hold. -/
structure TxAt (w : World) : Prop where
  ml : ∃ m, w.cell? ⟨2, 0, none⟩ = some (.int .i64 m)
  syn : ∃ te pe, w.cell? ⟨4, 0, none⟩ = some (.iface te pe)
  rng : ∃ te pe, w.cell? ⟨5, 0, none⟩ = some (.iface te pe)
theorem TxAt.new {w0 w : World} {G : Heap} (h : TxAt w0) (hn : New w0 w G) : TxAt w :=
  ⟨h.ml.imp fun _ e => hn.old e, h.syn.imp fun _ e => e.imp fun _ e => hn.old e, h.rng.imp fun _ e => e.imp fun _ e => hn.old e⟩
theorem New_drewN {w0 w : World} {G : Heap} (h : New w0 w G) (n : Nat) : New w0 (w.drewN n) G :=
  ⟨⟨h.below.os, h.below.tape, h.below.output, h.below.size, h.below.block⟩, h.nodup, h.ge, h.here, trivial⟩
theorem size_mk (L : List UInt8) : (⟨L.toArray⟩ : ByteArray).size = L.length := by show L.toArray.size = _; rw [List.size_toArray]
theorem cut_ok (w : World) (ht : TxAt w) (L : List UInt8) (hL : L.length ≤ 2000) :
    Calls Tryd.prog 90 #[str L, str [10]] w (Post (X := Unit) (fun _ => .tuple #[str (Lib.cut L [10]).1, str (Lib.cut L [10]).2.1, .bool (Lib.cut L [10]).2.2]) (fun _ => True) (fun _ => []) w) := by
  obtain ⟨m, hm⟩ := ht.ml
  exact (Any.strings_Cut { Tryd.cutS with } ⟨L.toArray⟩ ⟨#[10]⟩ m w (by rw [size_mk]; omega) hm).mono fun _ _ ⟨he, n, hw⟩ => ⟨(), he, trivial, by rw [hw]; exact New_drewN (New.refl w) n⟩
/-- The words of a line. -/
def wrd (L : List UInt8) : List ByteArray := Lib.splitB ⟨#[32]⟩ 0 (min 4 (L.length + 1) - 1) ⟨L.toArray⟩
def wcs (L : List UInt8) : Array Value := Lib.cellsOf (wrd L) (min 4 (L.length + 1))
theorem split_ok (w : World) (ht : TxAt w) (L : List UInt8) (hL : L.length ≤ 2000) :
    Calls Tryd.prog 91 #[str L, str [32], .int .i64 4] w (Post (X := Nat) (fun b => .slice (some ⟨b, 0, none⟩) (wrd L).length (min 4 (L.length + 1))) (fun _ => True) (fun b => [(b, .cells (wcs L) 9 (0, 0))]) w) := by
  obtain ⟨m, hm⟩ := ht.ml
  have h := Any.strings_SplitN { Tryd.splitS with } Tryd.splitS.i9 ⟨L.toArray⟩ ⟨#[32]⟩ 4 m w (by rw [size_mk]; omega) hm (by decide) (by decide) (by decide)
  rw [size_mk] at h
  exact h.mono fun _ _ ⟨he, hw⟩ => ⟨w.heap.size, he, trivial, by rw [hw]; exact (New.refl w).alloc _⟩
/-- An error, or none. -/
def errV (b : Bool) (t : TypeId) (p : Value) : Value := match b with | true => .nilIface | false => .iface t p
/-- What strconv.Atoi gives: a number and no error, or some number and an error. -/
theorem atoi_ok (w : World) (ht : TxAt w) (L : List UInt8) (hL : L.length ≤ 2000) :
    Calls Tryd.prog 104 #[str L] w (Post (X := Int × Bool × TypeId × Value) (fun x => .tuple #[.int .i64 x.1, errV x.2.1 x.2.2.1 x.2.2.2])
      (fun x => ∀ k, k < 10 → L = [Mo.dg k] → x.2.1 = true ∧ x.1 = k) (fun _ => []) w) := by
  rcases h : Lib.atoiAll L with v | _ | _
  · refine (Any.strconv_Atoi_ok Tryd.atoiS ⟨L.toArray⟩ (by rw [size_mk]; omega) v h w).mono fun _ w' ⟨he, hw⟩ => ⟨(v, true, 0, .nilIface), he, fun k hk e => ⟨rfl, ?_⟩, ?_⟩
    · rw [e, Mo.atoi_dg k hk] at h
      injection h with h; exact h.symm
    · rcases hw with rfl | ⟨t, rfl⟩
      · exact New.refl _
      · exact New.ofBelow (Lib.bytesWorld_below _ _ _)
  · obtain ⟨te, pe, hv⟩ := ht.syn
    refine (Any.strconv_Atoi_syntax Tryd.atoiS ⟨L.toArray⟩ (by rw [size_mk]; omega) h (.iface te pe) w hv (.inr ⟨te, pe, rfl⟩)).mono fun _ w' ⟨N, he, _, _, hB⟩ => ⟨(0, false, _, _), he, fun k hk e => ?_, New.ofBelow hB⟩
    rw [e, Mo.atoi_dg k hk] at h; cases h
  · obtain ⟨te, pe, hv⟩ := ht.rng
    refine (Any.strconv_Atoi_range Tryd.atoiS ⟨L.toArray⟩ (by rw [size_mk]; omega) h (.iface te pe) w hv (.inr ⟨te, pe, rfl⟩)).mono fun _ w' ⟨N, he, _, _, hB⟩ => ⟨(_, false, _, _), he, fun k hk e => ?_, New.ofBelow hB⟩
    rw [e, Mo.atoi_dg k hk] at h; cases h
section
variable {n : Nat} {w0 : World} {E : Env} {G : Heap} {d : Option Nat} {ty : TypeId} {pos : String} {aft : Array Edge} {g : Option (Nat × Bool)}
theorem run_neq_err (b : Bool) (t : TypeId) (p : Value) (w : World) : (binOp .neq 90 (errV b t p) .nilIface).run Tryd.prog w = .ok (.bool (!b)) w := by
  cases b <;> kernel_rfl
theorem PV.neqErr {x : Operand} {b : Bool} {t : TypeId} {p : Value} {t' : TypeId} (hx : evo E x = some (errV b t p)) : PV Tryd.prog n w0 E G ⟨d, .binOp .neq 90 x (.const .nilIface) t', ty, pos, aft, g⟩ (.bool (!b)) :=
  PV.cmp hx rfl (fun w => by cases b <;> (cases x <;> rfl)) (fun w => run_neq_err b t p w)
end
/-- What Parse gives. -/
def PR (L : List UInt8) (x : Mo.Md × Nat × Int) : Prop :=
  (x.2.2 = 0 ∧ Mo.Ok x.1 ∧ x.2.1 < 2 ^ x.1.N ∧ L = Mo.fmt x.1 x.2.1) ∨ (x.2.2 = 2 ∧ x.1 = ⟨0, 0, 0⟩ ∧ x.2.1 = 0 ∧ ∀ m S, Mo.Ok m → S < 2 ^ m.N → L ≠ Mo.fmt m S)
theorem PR.uniq {L : List UInt8} {x y : Mo.Md × Nat × Int} (hx : PR L x) (hy : PR L y) : x = y := by
  obtain ⟨a, b, c⟩ := x
  obtain ⟨a', b', c'⟩ := y
  rcases hx with ⟨h1, h2, h3, h4⟩ | ⟨h1, h2, h3, h4⟩ <;> rcases hy with ⟨k1, k2, k3, k4⟩ | ⟨k1, k2, k3, k4⟩ <;> simp only at h1 h2 h3 h4 k1 k2 k3 k4
  · obtain ⟨rfl, rfl⟩ := Mo.fmt_inj h2 k2 h3 k3 (h4.symm.trans k4)
    rw [h1, k1]
  · exact absurd h4 (k4 _ _ h2 h3)
  · exact absurd k4 (h4 _ _ k2 k3)
  · rw [h1, h2, h3, k1, k2, k3]
def Hd (L : List UInt8) : List UInt8 := (Lib.cut L [10]).1
def Bd' (L : List UInt8) : List UInt8 := (Lib.cut L [10]).2.1
theorem cut_le (L : List UInt8) : (Hd L).length ≤ L.length ∧ (Bd' L).length ≤ L.length := by
  unfold Hd Bd' Lib.cut
  split
  · simp only [List.length_take, List.length_drop]; omega
  · simp
theorem fmt_hd {m : Mo.Md} (ho : Mo.Ok m) {S : Nat} {L : List UInt8} (h : L = Mo.fmt m S) : Hd L = Mo.hd0 m ∧ Bd' L = Mo.bd m S (m.R * (m.C + 1)) ∧ wrd (Hd L) = Mo.wds m := by
  have h1 := Mo.cut_fmt ho S
  have h2 : Hd L = Mo.hd0 m := by unfold Hd; rw [h, h1]
  refine ⟨h2, by unfold Bd'; rw [h, h1], ?_⟩
  rw [h2]; exact Mo.split_fmt ho
theorem split_le (sep : ByteArray) : ∀ (k : Nat) (s : ByteArray), ∀ p ∈ Lib.splitB sep 0 k s, p.size ≤ s.size
  | 0, s, p, hp => by
    rw [Lib.splitB_zero, List.mem_singleton] at hp; rw [hp]; exact Nat.le_refl _
  | k + 1, s, p, hp => by
    unfold Lib.splitB at hp
    split at hp
    · rw [List.mem_singleton] at hp; rw [hp]; exact Nat.le_refl _
    · rcases List.mem_cons.1 hp with rfl | hp
      · rw [ByteArray.size_extract]; omega
      · have := split_le sep k _ p hp
        rw [ByteArray.size_extract] at this; omega
theorem wrd_four {H : List UInt8} (h4 : (wrd H).length = 4) : ∃ l0 l1 l2 l3, wrd H = [⟨l0.toArray⟩, ⟨l1.toArray⟩, ⟨l2.toArray⟩, ⟨l3.toArray⟩] ∧ wcs H = #[str l0, str l1, str l2, str l3] ∧ l1.length ≤ H.length ∧ l2.length ≤ H.length ∧ l3.length ≤ H.length := by
  have hle := split_le ⟨#[32]⟩ (min 4 (H.length + 1) - 1) ⟨H.toArray⟩
  have hw : Lib.splitB ⟨#[32]⟩ 0 (min 4 (H.length + 1) - 1) ⟨H.toArray⟩ = wrd H := rfl
  rw [hw, size_mk] at hle
  unfold wcs
  generalize wrd H = l at h4 hle ⊢
  match l, h4 with
  | [a0, a1, a2, a3], _ =>
    have hb : ∀ a : ByteArray, a = ⟨a.data.toList.toArray⟩ := fun a => by cases a; simp
    have hz : ∀ a : ByteArray, a.size = a.data.toList.length := fun a => by cases a; simp [ByteArray.size]
    have h1 := hle a1 (by simp)
    have h2 := hle a2 (by simp)
    have h3 := hle a3 (by simp)
    refine ⟨a0.data.toList, a1.data.toList, a2.data.toList, a3.data.toList, by rw [← hb, ← hb, ← hb, ← hb], ?_, by rw [← hz]; exact h1, by rw [← hz]; exact h2, by rw [← hz]; exact h3⟩
    have hn : min 4 (H.length + 1) - 4 = 0 := by omega
    simp only [Lib.cellsOf, List.map_cons, List.map_nil, List.length_cons, List.length_nil, Nat.zero_add, hn, List.replicate_zero, List.append_nil, str, ← hb]


set_option maxRecDepth 100000 in
theorem numberIn_ok (w0 : World) (hx : TxAt w0) (L : List UInt8) (hL : L.length ≤ 2000) :
    Calls Tryd.prog 92 #[str L] w0 (Post (X := Int) (fun x => .int .i64 x) (fun x => ∀ k, k < 10 → L = [Mo.dg k] → x = k) (fun _ => []) w0) := by
  refine calls Tryd.func92 rfl (n := 13) rfl (by simp) ?_
  refine TC.seq ?_
  refine TC.region ?_
  refine TL.pure (PV.assign rfl) rfl (by decide) ?_
  refine TL.nil ?_
  refine TQ.thenC ?_
  refine TC.seq ?_
  refine TC.region ?_
  refine TL.pure (PV.move rfl) rfl (by decide) ?_
  refine TL.call rfl Tb.gofn_104 (fun a w hs => atoi_ok w (hx.new hs.new) L hL) rfl (by decide) (fun y hy => ?_)
  refine TL.pure (PV.move rfl) rfl (by decide) ?_
  refine TL.pure (PV.extract rfl rfl) rfl (by decide) ?_
  refine TL.pure (PV.extract rfl rfl) rfl (by decide) ?_
  refine TL.pure (PV.assign rfl) rfl (by decide) ?_
  refine TL.pure (PV.assign rfl) rfl (by decide) ?_
  refine TL.nil ?_
  refine TQ.thenC ?_
  refine TC.seq ?_
  refine TC.seq ?_
  refine TC.region ?_
  refine TL.pure (PV.move rfl) rfl (by decide) ?_
  refine TL.pure (PV.neqErr rfl) rfl (by decide) ?_
  refine TL.nil ?_
  refine TQ.thenC ?_
  first | refine TC.condD rfl (fun her => ?_) (fun her => ?_) | refine TC.cond rfl (fun her => ?_) (fun her => ?_)
  · skip
    refine TC.seq ?_
    refine TC.region ?_
    refine TL.pure (PV.assign rfl) rfl (by decide) ?_
    refine TL.nil ?_
    refine TQ.thenC ?_
    refine TC.ret ?_
    refine TQ.thenR ?_
    refine TQ.retE1 rfl rfl ?_
    exact ⟨0, rfl, (fun k hk e => absurd her (by rw [(hy k hk e).1]; decide)), List.nil_sublist _⟩
  · skip
    refine TC.skip ?_
    refine TQ.thenC ?_
    refine TC.seq ?_
    refine TC.region ?_
    refine TL.pure (PV.move rfl) rfl (by decide) ?_
    refine TL.pure (PV.assign rfl) rfl (by decide) ?_
    refine TL.nil ?_
    refine TQ.thenC ?_
    refine TC.ret ?_
    refine TQ.retE1 rfl rfl ?_
    exact ⟨y.1, rfl, fun k hk e => (hy k hk e).2, List.nil_sublist _⟩

end Go.Proofs.YtaeobkgogipceaaDoor
