/- What the library's variables hold, and contracts of the library's texts. -/
import Derived.Test.YtbnjmkidbfmomaaGreatDoorQPx
import Derived.Test.YtbnjmkidbfmomaaGreatDoorQQb
import Derived.Test.YtbnjmkidbfmomaaGreatDoorQTa
import Derived.Test.YtbnjmkidbfmomaaGreatDoorQLy
import Derived.WalkSmall
import Derived.Shelf.Strconv.ErrVarAll
import Derived.Shelf.Strings.Cut
import Derived.Shelf.Strings.Split
import Derived.Shelf.Strings.Search3
set_option linter.unusedVariables false
set_option linter.unusedSimpArgs false
namespace Go.Proofs.YtbnjmkidbfmomaaGreatDoor
open Go.Sx Go.RowKit Go.Bt Go.Lib

/-- What the library's own variables hold. -/
structure WAt (w : World) : Prop where
  tz : M.TzAt w
  ml : ∃ m, w.cell? ⟨1, 0, none⟩ = some (.int .i64 m)
  pw : Lib.TabIs Tryz.prog w "internal/strconv.uint64pow10" .u64 Lib.pow10Tab
  syn : ∃ te pe, w.cell? ⟨3, 0, none⟩ = some (.iface te pe)
  rng : ∃ te pe, w.cell? ⟨4, 0, none⟩ = some (.iface te pe)
  er : w.cell? ⟨0, 0, none⟩ = some (.iface 196 (.agg #[.pointer (some ⟨9, 105, none⟩)]))
theorem cell_lt {w : World} {b o : Nat} {v : Value} (h : w.cell? ⟨b, o, none⟩ = some v) : b < w.heap.size := by
  apply Decidable.byContradiction
  intro hn
  have : w.heap[b]? = none := Array.getElem?_eq_none (by omega)
  simp [World.cell?, this] at h
theorem WAt.big {w : World} (h : WAt w) : 3 < w.heap.size := let ⟨_, _, h⟩ := h.syn; cell_lt h
theorem WAt.new {w0 w : World} {G : Heap} (h : WAt w0) (hn : New w0 w G) : WAt w :=
  ⟨h.tz.new hn, h.ml.imp fun _ e => hn.old e, var?_below hn.below (g := 2) (by kernel_rfl) (by have := h.big; omega) h.pw, h.syn.imp fun _ e => e.imp fun _ e => hn.old e, h.rng.imp fun _ e => e.imp fun _ e => hn.old e, hn.old h.er⟩
theorem New_drewN {w0 w : World} {G : Heap} (h : New w0 w G) (n : Nat) : New w0 (w.drewN n) G :=
  ⟨⟨h.below.os, h.below.tape, h.below.output, h.below.size, h.below.block⟩, h.nodup, h.ge, h.here, trivial⟩
theorem New_grow (w : World) (k : Nat) (os : Array Obj) : New w (_root_.Go.Sort.grow (w.drewN k) os) [] := by
  refine New.ofBelow ⟨rfl, rfl, rfl, ?_, fun b hb => ?_⟩
  · show w.heap.size ≤ (w.heap ++ os).size
    simp
  · show (w.heap ++ os)[b]? = w.heap[b]?
    simp [Array.getElem?_append, hb]
theorem size_mk (L : List UInt8) : (⟨L.toArray⟩ : ByteArray).size = L.length := by show L.toArray.size = _; rw [List.size_toArray]
abbrev dI : Int → List UInt8 := itoa
theorem itoa_ok (w : World) (ht : WAt w) (i : Int) (h0 : -9223372036854775808 ≤ i) (h1 : i ≤ 9223372036854775807) :
    Calls Tryz.prog 78 #[.int .i64 i] w (Post (X := Unit) (fun _ => str (dI i)) (fun _ => True) (fun _ => []) w) :=
  (Any.strconv_Itoa Tryz.itoaS i h0 h1 w ht.pw).mono fun _ _ ⟨he, k, os, hw⟩ => ⟨(), he, trivial, by rw [hw]; exact New_grow w k os⟩
theorem scut_ok (w : World) (ht : WAt w) (c : UInt8) (L : List UInt8) (hL : L.length ≤ 1000000) :
    Calls Tryz.prog 79 #[str L, str [c]] w (Post (X := Unit) (fun _ => .tuple #[str (brk c L).1, str ((brk c L).2.getD []), .bool (brk c L).2.isSome]) (fun _ => True) (fun _ => []) w) := by
  obtain ⟨m, hm⟩ := ht.ml
  have h := Any.strings_Cut { Tryz.cutS with } ⟨L.toArray⟩ ⟨#[c]⟩ m w (by rw [size_mk]; omega) hm
  rw [show (⟨L.toArray⟩ : ByteArray).data.toList = L from rfl, show (⟨#[c]⟩ : ByteArray).data.toList = [c] from rfl, cut_brk] at h
  exact h.mono fun _ _ ⟨he, n, hw⟩ => ⟨(), he, trivial, by rw [hw]; exact New_drewN (New.refl w) n⟩
theorem cutP_ok (w : World) (L p : List UInt8) :
    Calls Tryz.prog 81 #[str L, str p] w (Post (X := Unit) (fun _ => .tuple #[str (if p.isPrefixOf L = true then L.drop p.length else L), .bool (p.isPrefixOf L)]) (fun _ => True) (fun _ => []) w) :=
  (Any.strings_CutPrefix { Tryz.cutPS with } ⟨L.toArray⟩ ⟨p.toArray⟩ w).mono fun _ _ ⟨he, hw⟩ => ⟨(), he, trivial, by rw [hw]; exact New.refl w⟩
theorem byte_in (c : UInt8) : ∀ L : List UInt8, decide (0 ≤ indexByte L c) = decide (c ∈ L)
  | [] => by simp [indexByte]
  | b :: L => by
    have ih := byte_in c L
    have hge := indexByte_ge L c
    unfold indexByte
    by_cases h : b = c
    · subst h; simp
    · have h' : ¬ (b == c) = true := by simpa using h
      rw [if_neg h']
      by_cases h2 : indexByte L c = -1
      · have : ¬ c ∈ L := by
          have h3 : decide (0 ≤ indexByte L c) = false := by rw [h2]; rfl
          rw [ih] at h3
          exact of_decide_eq_false h3
        rw [h2]
        simp [this]; exact fun e => h e.symm
      · have h4 : 0 ≤ indexByte L c := by omega
        have : c ∈ L := of_decide_eq_true (ih ▸ decide_eq_true h4)
        rw [if_neg (by simpa using h2)]
        simp [this]; omega
theorem cont_ok (w : World) (L : List UInt8) (c : UInt8) :
    Calls Tryz.prog 124 #[str L, str [c]] w (Post (X := Unit) (fun _ => .bool (decide (c ∈ L))) (fun _ => True) (fun _ => []) w) :=
  (Any.strings_Contains_one { Tryz.contS with } ⟨L.toArray⟩ c w).mono fun _ _ ⟨he, hw⟩ => ⟨(), by rw [he]; exact congrArg (fun b => Ending.returned (.bool b)) (byte_in c L), trivial, by rw [hw]; exact New.refl w⟩
theorem split_ok (w : World) (ht : WAt w) (L : List UInt8) (hL : L.length ≤ 1000000) :
    Calls Tryz.prog 147 #[str L, str [32]] w (Post (X := Nat) (fun b => .slice (some ⟨b, 0, none⟩) (spl 32 L).length (spl 32 L).length) (fun _ => True) (fun b => [(b, .cells ((spl 32 L).map str).toArray 9 (0, 0))]) w) := by
  obtain ⟨m, hm⟩ := ht.ml
  have h := Any.strings_Split { Tryz.splitS with } Tryz.splitS.i9 ⟨L.toArray⟩ ⟨#[32]⟩ m w (by rw [size_mk]; omega) hm (by decide)
  obtain ⟨e1, e2⟩ := spl_data 32 L
  rw [e2] at h
  have e3 : (splitB ⟨#[32]⟩ 0 (countB ⟨L.toArray⟩ ⟨#[32]⟩) ⟨L.toArray⟩).map Value.string = (spl 32 L).map str := by
    rw [← e1, List.map_map]
    exact List.map_congr_left fun s _ => str_of s
  rw [e3] at h
  exact h.mono fun _ _ ⟨he, hw⟩ => ⟨w.heap.size, he, trivial, by rw [hw]; exact (New.refl w).alloc _⟩
/-- An error, or none. -/
def errV (b : Bool) (t : TypeId) (p : Value) : Value := match b with | true => .nilIface | false => .iface t p
/-- What strconv.Atoi gives: a number and no error, or some number and an error. -/
theorem atoi_ok (w : World) (ht : WAt w) (L : List UInt8) (hL : L.length ≤ 1000000) :
    Calls Tryz.prog 149 #[str L] w (Post (X := Int × Bool × TypeId × Value) (fun x => .tuple #[.int .i64 x.1, errV x.2.1 x.2.2.1 x.2.2.2])
      (fun x => (-9223372036854775808 ≤ x.1 ∧ x.1 ≤ 9223372036854775807) ∧ ∀ u, u < 1000 → L = decDigits u → x.2.1 = true ∧ x.1 = (u : Int)) (fun _ => []) w) := by
  rcases h : Lib.atoiAll L with v | _ | _
  · have hb := atoiAll_bounds h
    refine (Any.strconv_Atoi_ok Tryz.atoiS ⟨L.toArray⟩ (by rw [size_mk]; omega) v h w).mono fun _ w' ⟨he, hw⟩ => ⟨(v, true, 0, .nilIface), he, ⟨hb, fun u hu e => ⟨rfl, ?_⟩⟩, ?_⟩
    · rw [e, atoi_dec hu] at h
      injection h with h; exact h.symm
    · rcases hw with rfl | ⟨t, rfl⟩
      · exact New.refl _
      · exact New.ofBelow (Lib.bytesWorld_below _ _ _)
  · obtain ⟨te, pe, hv⟩ := ht.syn
    refine (Any.strconv_Atoi_syntax Tryz.atoiS ⟨L.toArray⟩ (by rw [size_mk]; omega) h (.iface te pe) w hv (.inr ⟨te, pe, rfl⟩)).mono fun _ w' ⟨N, he, _, _, hB⟩ => ⟨(0, false, _, _), he, ⟨⟨by show (-9223372036854775808 : Int) ≤ 0; decide, by show (0 : Int) ≤ 9223372036854775807; decide⟩, fun u hu e => ?_⟩, New.ofBelow hB⟩
    rw [e, atoi_dec hu] at h; cases h
  · obtain ⟨te, pe, hv⟩ := ht.rng
    refine (Any.strconv_Atoi_range Tryz.atoiS ⟨L.toArray⟩ (by rw [size_mk]; omega) h (.iface te pe) w hv (.inr ⟨te, pe, rfl⟩)).mono fun _ w' ⟨N, he, _, _, hB⟩ => ⟨(Lib.atoiSat L, false, _, _), he, ⟨by show -9223372036854775808 ≤ Lib.atoiSat L ∧ Lib.atoiSat L ≤ 9223372036854775807; unfold atoiSat; split <;> decide, fun u hu e => ?_⟩, New.ofBelow hB⟩
    rw [e, atoi_dec hu] at h; cases h
section
variable {n : Nat} {w0 : World} {E : Env} {G : Heap} {d : Option Nat} {ty : TypeId} {pos : String} {aft : Array Edge} {g : Option (Nat × Bool)}
theorem run_neq_err (b : Bool) (t : TypeId) (p : Value) (w : World) : (binOp .neq 105 (errV b t p) .nilIface).run Tryz.prog w = .ok (.bool (!b)) w := by
  cases b <;> kernel_rfl
theorem PV.neqErr {x : Operand} {b : Bool} {t : TypeId} {p : Value} {t' : TypeId} (hx : evo E x = some (errV b t p)) : PV Tryz.prog n w0 E G ⟨d, .binOp .neq 105 x (.const .nilIface) t', ty, pos, aft, g⟩ (.bool (!b)) :=
  PV.cmp hx rfl (fun w => by cases b <;> (cases x <;> rfl)) (fun w => run_neq_err b t p w)
end
end Go.Proofs.YtbnjmkidbfmomaaGreatDoor
