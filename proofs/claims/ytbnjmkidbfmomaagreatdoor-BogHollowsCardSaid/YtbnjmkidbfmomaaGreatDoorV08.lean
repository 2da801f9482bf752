/- Wa Sd BC Py -/
import Derived.Test.YtbnjmkidbfmomaaGreatDoorV00
import Derived.Test.YtbnjmkidbfmomaaGreatDoorV06
import Derived.Test.YtbnjmkidbfmomaaGreatDoorV07
import Derived.WalkSmall
import Derived.Shelf.Strconv.ErrVarAll
import Derived.Shelf.Strings.Cut
import Derived.Shelf.Strings.Split
import Derived.Shelf.Strings.Search3
set_option linter.unusedVariables false
set_option linter.unusedSimpArgs false
set_option maxRecDepth 100000
namespace Go.Proofs.YtbnjmkidbfmomaaGreatDoor
open Go.Sx Go.RowKit Go.Bt Go.Lib
structure WAt (w : World) : Prop where
  tz : M.TzAt w
  ml : ∃ m, w.cell? ⟨1, 0, none⟩ = some (.int .i64 m)
  pw : Lib.TabIs Tryz.prog w "internal/strconv.uint64pow10" .u64 Lib.pow10Tab
  syn : ∃ te pe, w.cell? ⟨3, 0, none⟩ = some (.iface te pe)
  rng : ∃ te pe, w.cell? ⟨4, 0, none⟩ = some (.iface te pe)
  er : w.cell? ⟨0, 0, none⟩ = some (.iface 196 (.agg #[.pointer (some ⟨9, 105, none⟩)]))
theorem cell_lt {w : World} {b o : Nat} {v : Value} (h : w.cell? ⟨b, o, none⟩ = some v) : b < w.heap.size := by
  apply Decidable.byContradiction
  intro hn
  have : w.heap[b]? = none := Array.getElem?_eq_none (by omega)
  simp [World.cell?, this] at h
theorem WAt.big {w : World} (h : WAt w) : 3 < w.heap.size := let ⟨_, _, h⟩ := h.syn; cell_lt h
theorem WAt.new {w0 w : World} {G : Heap} (h : WAt w0) (hn : New w0 w G) : WAt w :=
  ⟨h.tz.new hn, h.ml.imp fun _ e => hn.old e, var?_below hn.below (g := 2) (by kernel_rfl) (by have := h.big; omega) h.pw, h.syn.imp fun _ e => e.imp fun _ e => hn.old e, h.rng.imp fun _ e => e.imp fun _ e => hn.old e, hn.old h.er⟩
theorem New_drewN {w0 w : World} {G : Heap} (h : New w0 w G) (n : Nat) : New w0 (w.drewN n) G :=
  ⟨⟨h.below.os, h.below.tape, h.below.output, h.below.size, h.below.block⟩, h.nodup, h.ge, h.here, trivial⟩
theorem New_grow (w : World) (k : Nat) (os : Array Obj) : New w (_root_.Go.Sort.grow (w.drewN k) os) [] := by
  refine New.ofBelow ⟨rfl, rfl, rfl, ?_, fun b hb => ?_⟩
  · show w.heap.size ≤ (w.heap ++ os).size
    simp
  · show (w.heap ++ os)[b]? = w.heap[b]?
    simp [Array.getElem?_append, hb]
theorem size_mk (L : List UInt8) : (⟨L.toArray⟩ : ByteArray).size = L.length := by show L.toArray.size = _; rw [List.size_toArray]
abbrev dI : Int → List UInt8 := itoa
theorem itoa_ok (w : World) (ht : WAt w) (i : Int) (h0 : -9223372036854775808 ≤ i) (h1 : i ≤ 9223372036854775807) :
    Calls Tryz.prog 78 #[.int .i64 i] w (Post (X := Unit) (fun _ => str (dI i)) (fun _ => True) (fun _ => []) w) :=
  (Any.strconv_Itoa Tryz.itoaS i h0 h1 w ht.pw).mono fun _ _ ⟨he, k, os, hw⟩ => ⟨(), he, trivial, by rw [hw]; exact New_grow w k os⟩
theorem scut_ok (w : World) (ht : WAt w) (c : UInt8) (L : List UInt8) (hL : L.length ≤ 1000000) :
    Calls Tryz.prog 79 #[str L, str [c]] w (Post (X := Unit) (fun _ => .tuple #[str (brk c L).1, str ((brk c L).2.getD []), .bool (brk c L).2.isSome]) (fun _ => True) (fun _ => []) w) := by
  obtain ⟨m, hm⟩ := ht.ml
  have h := Any.strings_Cut { Tryz.cutS with } ⟨L.toArray⟩ ⟨#[c]⟩ m w (by rw [size_mk]; omega) hm
  rw [show (⟨L.toArray⟩ : ByteArray).data.toList = L from rfl, show (⟨#[c]⟩ : ByteArray).data.toList = [c] from rfl, cut_brk] at h
  exact h.mono fun _ _ ⟨he, n, hw⟩ => ⟨(), he, trivial, by rw [hw]; exact New_drewN (New.refl w) n⟩
theorem cutP_ok (w : World) (L p : List UInt8) :
    Calls Tryz.prog 81 #[str L, str p] w (Post (X := Unit) (fun _ => .tuple #[str (if p.isPrefixOf L = true then L.drop p.length else L), .bool (p.isPrefixOf L)]) (fun _ => True) (fun _ => []) w) :=
  (Any.strings_CutPrefix { Tryz.cutPS with } ⟨L.toArray⟩ ⟨p.toArray⟩ w).mono fun _ _ ⟨he, hw⟩ => ⟨(), he, trivial, by rw [hw]; exact New.refl w⟩
theorem byte_in (c : UInt8) : ∀ L : List UInt8, decide (0 ≤ indexByte L c) = decide (c ∈ L)
  | [] => by simp [indexByte]
  | b :: L => by
    have ih := byte_in c L
    have hge := indexByte_ge L c
    unfold indexByte
    by_cases h : b = c
    · subst h; simp
    · have h' : ¬ (b == c) = true := by simpa using h
      rw [if_neg h']
      by_cases h2 : indexByte L c = -1
      · have : ¬ c ∈ L := by
          have h3 : decide (0 ≤ indexByte L c) = false := by rw [h2]; rfl
          rw [ih] at h3
          exact of_decide_eq_false h3
        rw [h2]
        simp [this]; exact fun e => h e.symm
      · have h4 : 0 ≤ indexByte L c := by omega
        have : c ∈ L := of_decide_eq_true (ih ▸ decide_eq_true h4)
        rw [if_neg (by simpa using h2)]
        simp [this]; omega
theorem cont_ok (w : World) (L : List UInt8) (c : UInt8) :
    Calls Tryz.prog 124 #[str L, str [c]] w (Post (X := Unit) (fun _ => .bool (decide (c ∈ L))) (fun _ => True) (fun _ => []) w) :=
  (Any.strings_Contains_one { Tryz.contS with } ⟨L.toArray⟩ c w).mono fun _ _ ⟨he, hw⟩ => ⟨(), by rw [he]; exact congrArg (fun b => Ending.returned (.bool b)) (byte_in c L), trivial, by rw [hw]; exact New.refl w⟩
theorem split_ok (w : World) (ht : WAt w) (L : List UInt8) (hL : L.length ≤ 1000000) :
    Calls Tryz.prog 147 #[str L, str [32]] w (Post (X := Nat) (fun b => .slice (some ⟨b, 0, none⟩) (spl 32 L).length (spl 32 L).length) (fun _ => True) (fun b => [(b, .cells ((spl 32 L).map str).toArray 9 (0, 0))]) w) := by
  obtain ⟨m, hm⟩ := ht.ml
  have h := Any.strings_Split { Tryz.splitS with } Tryz.splitS.i9 ⟨L.toArray⟩ ⟨#[32]⟩ m w (by rw [size_mk]; omega) hm (by decide)
  obtain ⟨e1, e2⟩ := spl_data 32 L
  rw [e2] at h
  have e3 : (splitB ⟨#[32]⟩ 0 (countB ⟨L.toArray⟩ ⟨#[32]⟩) ⟨L.toArray⟩).map Value.string = (spl 32 L).map str := by
    rw [← e1, List.map_map]
    exact List.map_congr_left fun s _ => str_of s
  rw [e3] at h
  exact h.mono fun _ _ ⟨he, hw⟩ => ⟨w.heap.size, he, trivial, by rw [hw]; exact (New.refl w).alloc _⟩
def errV (b : Bool) (t : TypeId) (p : Value) : Value := match b with | true => .nilIface | false => .iface t p
theorem atoi_ok (w : World) (ht : WAt w) (L : List UInt8) (hL : L.length ≤ 1000000) :
    Calls Tryz.prog 149 #[str L] w (Post (X := Int × Bool × TypeId × Value) (fun x => .tuple #[.int .i64 x.1, errV x.2.1 x.2.2.1 x.2.2.2])
      (fun x => (-9223372036854775808 ≤ x.1 ∧ x.1 ≤ 9223372036854775807) ∧ ∀ u, u < 1000 → L = decDigits u → x.2.1 = true ∧ x.1 = (u : Int)) (fun _ => []) w) := by
  rcases h : Lib.atoiAll L with v | _ | _
  · have hb := atoiAll_bounds h
    refine (Any.strconv_Atoi_ok Tryz.atoiS ⟨L.toArray⟩ (by rw [size_mk]; omega) v h w).mono fun _ w' ⟨he, hw⟩ => ⟨(v, true, 0, .nilIface), he, ⟨hb, fun u hu e => ⟨rfl, ?_⟩⟩, ?_⟩
    · rw [e, atoi_dec hu] at h
      injection h with h; exact h.symm
    · rcases hw with rfl | ⟨t, rfl⟩
      · exact New.refl _
      · exact New.ofBelow (Lib.bytesWorld_below _ _ _)
  · obtain ⟨te, pe, hv⟩ := ht.syn
    refine (Any.strconv_Atoi_syntax Tryz.atoiS ⟨L.toArray⟩ (by rw [size_mk]; omega) h (.iface te pe) w hv (.inr ⟨te, pe, rfl⟩)).mono fun _ w' ⟨N, he, _, _, hB⟩ => ⟨(0, false, _, _), he, ⟨⟨by show (-9223372036854775808 : Int) ≤ 0; decide, by show (0 : Int) ≤ 9223372036854775807; decide⟩, fun u hu e => ?_⟩, New.ofBelow hB⟩
    rw [e, atoi_dec hu] at h; cases h
  · obtain ⟨te, pe, hv⟩ := ht.rng
    refine (Any.strconv_Atoi_range Tryz.atoiS ⟨L.toArray⟩ (by rw [size_mk]; omega) h (.iface te pe) w hv (.inr ⟨te, pe, rfl⟩)).mono fun _ w' ⟨N, he, _, _, hB⟩ => ⟨(Lib.atoiSat L, false, _, _), he, ⟨by show -9223372036854775808 ≤ Lib.atoiSat L ∧ Lib.atoiSat L ≤ 9223372036854775807; unfold atoiSat; split <;> decide, fun u hu e => ?_⟩, New.ofBelow hB⟩
    rw [e, atoi_dec hu] at h; cases h
section
variable {n : Nat} {w0 : World} {E : Env} {G : Heap} {d : Option Nat} {ty : TypeId} {pos : String} {aft : Array Edge} {g : Option (Nat × Bool)}
theorem run_neq_err (b : Bool) (t : TypeId) (p : Value) (w : World) : (binOp .neq 105 (errV b t p) .nilIface).run Tryz.prog w = .ok (.bool (!b)) w := by
  cases b <;> kernel_rfl
theorem PV.neqErr {x : Operand} {b : Bool} {t : TypeId} {p : Value} {t' : TypeId} (hx : evo E x = some (errV b t p)) : PV Tryz.prog n w0 E G ⟨d, .binOp .neq 105 x (.const .nilIface) t', ty, pos, aft, g⟩ (.bool (!b)) :=
  PV.cmp hx rfl (fun w => by cases b <;> (cases x <;> rfl)) (fun w => run_neq_err b t p w)
end
end Go.Proofs.YtbnjmkidbfmomaaGreatDoor
namespace Go.Sand
def sm : Nat → (Nat → Int) → Int
  | 0, _ => 0
  | n + 1, f => sm n f + f n
theorem sm_congr {f h : Nat → Int} : ∀ {n : Nat}, (∀ i, i < n → f i = h i) → sm n f = sm n h
  | 0, _ => rfl
  | n + 1, e => by
    show sm n f + f n = sm n h + h n
    rw [sm_congr fun i hi => e i (by omega), e n (by omega)]
theorem sm_add {f h : Nat → Int} : ∀ n : Nat, sm n (fun i => f i + h i) = sm n f + sm n h
  | 0 => rfl
  | n + 1 => by
    show sm n _ + (f n + h n) = sm n f + f n + (sm n h + h n)
    rw [sm_add n]; omega
theorem sm_mul {f : Nat → Int} (k : Int) : ∀ n : Nat, sm n (fun i => k * f i) = k * sm n f
  | 0 => by simp [sm]
  | n + 1 => by
    show sm n _ + k * f n = k * (sm n f + f n)
    rw [sm_mul k n, Int.mul_add]
theorem sm_neg {f : Nat → Int} : ∀ n : Nat, sm n (fun i => - f i) = - sm n f
  | 0 => rfl
  | n + 1 => by
    show sm n _ + - f n = - (sm n f + f n)
    rw [sm_neg n]; omega
theorem sm_zero : ∀ n : Nat, sm n (fun _ => 0) = 0
  | 0 => rfl
  | n + 1 => by show sm n _ + 0 = 0; rw [sm_zero n]; rfl
theorem sm_nonneg {f : Nat → Int} : ∀ {n : Nat}, (∀ i, i < n → 0 ≤ f i) → 0 ≤ sm n f
  | 0, _ => Int.le_refl _
  | n + 1, e => by
    have := sm_nonneg (f := f) (n := n) fun i hi => e i (by omega)
    have := e n (by omega)
    show 0 ≤ sm n f + f n
    omega
theorem sm_le {f h : Nat → Int} : ∀ {n : Nat}, (∀ i, i < n → f i ≤ h i) → sm n f ≤ sm n h
  | 0, _ => Int.le_refl _
  | n + 1, e => by
    have := sm_le (f := f) (h := h) (n := n) fun i hi => e i (by omega)
    have := e n (by omega)
    show sm n f + f n ≤ sm n h + h n
    omega
theorem sm_one {f : Nat → Int} : ∀ {n : Nat}, (∀ i, i < n → 0 ≤ f i) → ∀ k, k < n → f k ≤ sm n f
  | 0, _, k, hk => by omega
  | n + 1, e, k, hk => by
    have h1 := sm_nonneg (f := f) (n := n) fun i hi => e i (by omega)
    show f k ≤ sm n f + f n
    by_cases hkn : k = n
    · subst hkn; omega
    · have := sm_one (f := f) (n := n) (fun i hi => e i (by omega)) k (by omega)
      have := e n (by omega)
      omega
theorem sm_swap {f : Nat → Nat → Int} : ∀ n k : Nat, sm n (fun i => sm k (fun j => f i j)) = sm k (fun j => sm n (fun i => f i j))
  | 0, k => by rw [show (fun j => sm 0 (fun i => f i j)) = fun _ => 0 from rfl, sm_zero]; rfl
  | n + 1, k => by
    show sm n _ + sm k (fun j => f n j) = sm k (fun j => sm n (fun i => f i j) + f n j)
    rw [sm_add, sm_swap n k]
theorem sm_pt {f : Nat → Int} (k : Int) (i : Nat) : ∀ n : Nat, sm n (fun j => f j * (if j = i then k else 0)) = if i < n then f i * k else 0
  | 0 => by simp [sm]
  | n + 1 => by
    show sm n _ + f n * _ = _
    rw [sm_pt k i n]
    by_cases h : n = i
    · subst h; simp
    · rw [if_neg h]
      by_cases h2 : i < n
      · rw [if_pos h2, if_pos (by omega)]; omega
      · rw [if_neg h2, if_neg (by omega)]; omega
section
variable (n : Nat) (l : Nat → Nat → Int) (g : Nat → Int)
inductive Rch : Nat → Prop
  | gr (i : Nat) (hi : i < n) (h : 0 < g i) : Rch i
  | st (i j : Nat) (hi : i < n) (hj : j < n) (h : 0 < l i j) (r : Rch j) : Rch i
structure Gr : Prop where
  l0 : ∀ i j, i < n → j < n → 0 ≤ l i j
  sy : ∀ i j, i < n → j < n → l i j = l j i
  g0 : ∀ i, i < n → 0 ≤ g i
  rch : ∀ i, i < n → Rch n l g i
def lim (i : Nat) : Int := g i + sm n (l i)
def dl (m : Nat → Int) (i : Nat) : Int := lim n l g i * m i - sm n (fun j => l i j * m j)
end
section
variable {n : Nat} {l : Nat → Nat → Int} {g : Nat → Int}
theorem dl_eq (m : Nat → Int) (i : Nat) : dl n l g m i = g i * m i + sm n (fun j => l i j * (m i - m j)) := by
  have e : sm n (fun j => l i j * (m i - m j)) = m i * sm n (l i) - sm n (fun j => l i j * m j) := by
    rw [← sm_mul, Int.sub_eq_add_neg, ← sm_neg, ← sm_add]
    refine sm_congr fun j _ => ?_
    grind
  rw [e]
  unfold dl lim
  grind
theorem dl_add (m k : Nat → Int) (i : Nat) : dl n l g (fun j => m j + k j) i = dl n l g m i + dl n l g k i := by
  unfold dl
  have e : sm n (fun j => l i j * (m j + k j)) = sm n (fun j => l i j * m j) + sm n (fun j => l i j * k j) := by
    rw [← sm_add]
    exact sm_congr fun j _ => Int.mul_add _ _ _
  rw [e]
  grind
theorem dl_neg (m : Nat → Int) (i : Nat) : dl n l g (fun j => - m j) i = - dl n l g m i := by
  unfold dl
  have e : sm n (fun j => l i j * - m j) = - sm n (fun j => l i j * m j) := by
    rw [← sm_neg]
    exact sm_congr fun j _ => by grind
  rw [e]
  grind
theorem dl_sub (m k : Nat → Int) (i : Nat) : dl n l g (fun j => m j - k j) i = dl n l g m i - dl n l g k i := by
  have h1 := dl_add (n := n) (l := l) (g := g) m (fun j => - k j) i
  have h2 := dl_neg (n := n) (l := l) (g := g) k i
  have e : (fun j => m j - k j) = (fun j => m j + - k j) := by funext j; omega
  rw [e, h1, h2]; omega
theorem dl_zero (i : Nat) : dl n l g (fun _ => 0) i = 0 := by
  unfold dl
  rw [show (fun j => l i j * 0) = fun _ => (0 : Int) by funext j; simp, sm_zero]; simp
theorem dl_congr {m k : Nat → Int} (h : ∀ i, i < n → m i = k i) {i : Nat} (hi : i < n) : dl n l g m i = dl n l g k i := by
  unfold dl
  rw [h i hi, sm_congr (fun j hj => show l i j * m j = l i j * k j by rw [h j hj])]
theorem dl_pt (k : Int) {i : Nat} (hi : i < n) (j : Nat) : dl n l g (fun q => if q = i then k else 0) j = (if j = i then lim n l g i * k else 0) - l j i * k := by
  unfold dl
  rw [sm_pt, if_pos hi]
  by_cases e : j = i
  · subst e; simp
  · simp [e]
theorem sm_anti {f : Nat → Nat → Int} (h : ∀ i j, i < n → j < n → f i j = - f j i) : sm n (fun i => sm n (fun j => f i j)) = 0 := by
  have h1 := sm_swap (f := f) n n
  have h2 : sm n (fun j => sm n (fun i => f i j)) = - sm n (fun j => sm n (fun i => f j i)) := by
    rw [← sm_neg]
    refine sm_congr fun j hj => ?_
    rw [← sm_neg]
    exact sm_congr fun i hi => h i j hi hj
  omega
theorem out_sum (G : Gr n l g) (A : Nat → Bool) (m : Nat → Int) : sm n (fun i => if A i then dl n l g m i else 0) =
    sm n (fun i => if A i then g i * m i else 0) + sm n (fun i => sm n (fun j => if A i && !A j then l i j * (m i - m j) else 0)) := by
  have h0 := sm_anti (n := n) (f := fun i j => if A i && A j then l i j * (m i - m j) else 0) (fun i j hi hj => by
    simp only [Bool.and_comm (A j) (A i)]
    split
    · rw [G.sy i j hi hj]; grind
    · rfl)
  have e : sm n (fun i => if A i then dl n l g m i else 0) = sm n (fun i => (if A i then g i * m i else 0) + (sm n (fun j => if A i && A j then l i j * (m i - m j) else 0) + sm n (fun j => if A i && !A j then l i j * (m i - m j) else 0))) := by
    refine sm_congr fun i _ => ?_
    rw [← sm_add]
    cases hA : A i with
    | true =>
      simp only [if_true, Bool.true_and, dl_eq]
      congr 1
      refine sm_congr fun j _ => ?_
      cases A j <;> simp
    | false => simp [sm_zero]
  rw [e, sm_add, sm_add, h0]; omega
theorem way_out (A : Nat → Bool) {i : Nat} (h : Rch n l g i) (hi : A i = true) : ∃ j, j < n ∧ A j = true ∧ (0 < g j ∨ ∃ k, k < n ∧ A k = false ∧ 0 < l j k) := by
  induction h with
  | gr i hin h => exact ⟨i, hin, hi, .inl h⟩
  | st i j hin hj h r ih =>
    cases hA : A j with
    | true => exact ih hA
    | false => exact ⟨i, hin, hi, .inr ⟨j, hj, hA, h⟩⟩
theorem lim_pos (G : Gr n l g) {i : Nat} (hi : i < n) : 1 ≤ lim n l g i := by
  have h1 := G.g0 i hi
  have h2 := sm_nonneg (f := l i) (n := n) fun j hj => G.l0 i j hi hj
  unfold lim
  cases G.rch i hi with
  | gr _ _ h => omega
  | st _ j _ hj h _ =>
    have := sm_one (f := l i) (n := n) (fun j hj => G.l0 i j hi hj) j hj
    omega
def cnt : Nat → (Nat → Bool) → Nat
  | 0, _ => 0
  | n + 1, p => cnt n p + (if p n then 1 else 0)
theorem cnt_le (p : Nat → Bool) : ∀ n, cnt n p ≤ n
  | 0 => Nat.le_refl _
  | n + 1 => by have := cnt_le p n; show cnt n p + _ ≤ _; split <;> omega
theorem cnt_mono {p q : Nat → Bool} : ∀ {n : Nat}, (∀ i, i < n → q i = true → p i = true) → cnt n q ≤ cnt n p
  | 0, _ => Nat.le_refl _
  | n + 1, h => by
    have h1 := cnt_mono (p := p) (q := q) (n := n) fun i hi => h i (by omega)
    have h2 := h n (by omega)
    show cnt n q + _ ≤ cnt n p + _
    cases hq : q n
    · simp; omega
    · rw [h2 hq]; omega
theorem cnt_lt {p q : Nat → Bool} : ∀ {n : Nat}, (∀ i, i < n → q i = true → p i = true) → ∀ k, k < n → p k = true → q k = false → cnt n q < cnt n p
  | 0, _, k, hk, _, _ => by omega
  | n + 1, h, k, hk, h1, h2 => by
    have h3 := h n (by omega)
    show cnt n q + _ < cnt n p + _
    by_cases e : k = n
    · subst e
      have := cnt_mono (p := p) (q := q) (n := k) fun i hi => h i (by omega)
      simp [h1, h2]; omega
    · have := cnt_lt (p := p) (q := q) (n := n) (fun i hi => h i (by omega)) k (by omega) h1 h2
      cases hq : q n
      · simp; omega
      · rw [h3 hq]; omega
theorem cnt_none : ∀ n : Nat, cnt n (fun _ => false) = 0
  | 0 => rfl
  | n + 1 => by show cnt n _ + _ = 0; rw [cnt_none n]; rfl
theorem cnt_zero {p : Nat → Bool} {n : Nat} (h : cnt n p = 0) : ∀ i, i < n → p i = false := fun i hi => by
  cases hp : p i with
  | false => rfl
  | true =>
    have := cnt_lt (p := p) (q := fun _ => false) (n := n) (fun _ _ h => by cases h) i hi hp rfl
    omega
theorem bound (G : Gr n l g) {t m : Nat → Int} (ht : ∀ i, i < n → 0 ≤ t i) (hm : ∀ i, i < n → 0 ≤ m i) (hc : ∀ i, i < n → 0 ≤ t i - dl n l g m i) : ∀ i, i < n → m i ≤ n * sm n t := by
  have hT : 0 ≤ sm n t := sm_nonneg ht
  generalize hTe : sm n t = T at hT
  have key : ∀ k : Nat, k ≤ n → cnt n (fun i => decide ((k : Int) * T < m i)) ≤ n - k := by
    intro k
    induction k with
    | zero => intro _; exact cnt_le _ _
    | succ k ih =>
      intro hk
      have ih := ih (by omega)
      by_cases h0 : cnt n (fun i => decide ((k : Int) * T < m i)) = 0
      · have h1 := cnt_mono (p := fun i => decide ((k : Int) * T < m i)) (q := fun i => decide (((k + 1 : Nat) : Int) * T < m i)) (n := n) (fun i _ h => by
          simp only [decide_eq_true_eq] at h ⊢
          have : ((k + 1 : Nat) : Int) * T = (k : Int) * T + T := by grind
          omega)
        omega
      · have hex : ∃ i, i < n ∧ (k : Int) * T < m i := by
          refine Classical.byContradiction fun hno => h0 ?_
          have := cnt_mono (p := fun _ => false) (q := fun i => decide ((k : Int) * T < m i)) (n := n) (fun i hi h => by
            exact absurd ⟨i, hi, of_decide_eq_true h⟩ hno)
          have e := cnt_none n
          omega
        obtain ⟨i0, hi0, hmi0⟩ := hex
        obtain ⟨i, hi, hA, hw⟩ := way_out (fun i => decide ((k : Int) * T < m i)) (G.rch i0 hi0) (decide_eq_true hmi0)
        have hkT : 0 ≤ (k : Int) * T := Int.mul_nonneg (by omega) hT
        have hos := out_sum G (fun i => decide ((k : Int) * T < m i)) m
        have hle : sm n (fun i => if decide ((k : Int) * T < m i) = true then dl n l g m i else 0) ≤ T := by
          rw [← hTe]
          refine sm_le fun j hj => ?_
          have := hc j hj
          have := ht j hj
          split <;> omega
        have hn1 : ∀ j, j < n → 0 ≤ (if decide ((k : Int) * T < m j) = true then g j * m j else 0) := fun j hj => by
          split
          · exact Int.mul_nonneg (G.g0 j hj) (hm j hj)
          · omega
        have hn2 : ∀ p q, p < n → q < n → 0 ≤ (if (decide ((k : Int) * T < m p) && !decide ((k : Int) * T < m q)) = true then l p q * (m p - m q) else 0) := fun p q hp hq => by
          split
          · rename_i h
            simp only [Bool.and_eq_true, Bool.not_eq_true', decide_eq_true_eq, decide_eq_false_iff_not] at h
            exact Int.mul_nonneg (G.l0 p q hp hq) (by omega)
          · omega
        have hs1 := sm_nonneg hn1
        have hs2 := sm_nonneg (n := n) (fun p hp => sm_nonneg (n := n) (fun q hq => hn2 p q hp hq))
        have hmi : m i ≤ ((k + 1 : Nat) : Int) * T := by
          have e1 : ((k + 1 : Nat) : Int) * T = (k : Int) * T + T := by grind
          rw [e1]
          simp only [decide_eq_true_eq] at hA
          rcases hw with hg | ⟨j, hj, hAj, hl⟩
          · have h1 := sm_one hn1 i hi
            rw [if_pos (decide_eq_true hA)] at h1
            have h2 : 1 * m i ≤ g i * m i := Int.mul_le_mul_of_nonneg_right (by omega) (hm i hi)
            omega
          · simp only [decide_eq_false_iff_not] at hAj
            have h1 := sm_one (n := n) (fun p hp => sm_nonneg (n := n) (fun q hq => hn2 p q hp hq)) i hi
            have h3 := sm_one (n := n) (fun q hq => hn2 i q hi hq) j hj
            rw [if_pos (by simp [hA, hAj])] at h3
            have h2 : 1 * (m i - m j) ≤ l i j * (m i - m j) := Int.mul_le_mul_of_nonneg_right (by omega) (by omega)
            omega
        have := cnt_lt (p := fun i => decide ((k : Int) * T < m i)) (q := fun i => decide (((k + 1 : Nat) : Int) * T < m i)) (n := n) (fun i _ h => by
          simp only [decide_eq_true_eq] at h ⊢
          have : ((k + 1 : Nat) : Int) * T = (k : Int) * T + T := by grind
          omega) i hi hA (decide_eq_false (by omega))
        omega
  have h := key n (Nat.le_refl _)
  rw [Nat.sub_self] at h
  intro i hi
  have := cnt_zero (Nat.le_zero.1 h) i hi
  simp only [decide_eq_false_iff_not] at this
  omega
structure Run (n : Nat) (l : Nat → Nat → Int) (g : Nat → Int) (t c m : Nat → Int) : Prop where
  m0 : ∀ i, i < n → 0 ≤ m i
  eq : ∀ i, i < n → c i = t i - dl n l g m i
  c0 : ∀ i, i < n → 0 ≤ c i
  min : ∀ k : Nat → Int, (∀ i, i < n → 0 ≤ k i) → (∀ i, i < n → t i - dl n l g k i < lim n l g i) → ∀ i, i < n → m i ≤ k i
structure Stb (n : Nat) (l : Nat → Nat → Int) (g : Nat → Int) (t c m : Nat → Int) : Prop extends Run n l g t c m where
  calm : ∀ i, i < n → c i < lim n l g i
theorem Run.zero {t : Nat → Int} (ht : ∀ i, i < n → 0 ≤ t i) : Run n l g t t (fun _ => 0) :=
  ⟨fun _ _ => Int.le_refl _, fun i _ => by rw [dl_zero]; omega, ht, fun k hk _ i hi => hk i hi⟩
theorem Run.congr {t t' c c' m m' : Nat → Int} (h : Run n l g t c m) (ht : ∀ i, i < n → t' i = t i) (hc : ∀ i, i < n → c' i = c i) (hm : ∀ i, i < n → m' i = m i) : Run n l g t' c' m' where
  m0 i hi := by rw [hm i hi]; exact h.m0 i hi
  eq i hi := by rw [hc i hi, ht i hi, dl_congr hm hi]; exact h.eq i hi
  c0 i hi := by rw [hc i hi]; exact h.c0 i hi
  min k hk hk2 i hi := by rw [hm i hi]; exact h.min k hk (fun j hj => by rw [← ht j hj]; exact hk2 j hj) i hi
theorem Stb.congr {t t' c c' m m' : Nat → Int} (h : Stb n l g t c m) (ht : ∀ i, i < n → t' i = t i) (hc : ∀ i, i < n → c' i = c i) (hm : ∀ i, i < n → m' i = m i) : Stb n l g t' c' m' :=
  ⟨h.toRun.congr ht hc hm, fun i hi => by rw [hc i hi]; exact h.calm i hi⟩
theorem Run.step (G : Gr n l g) {t c m : Nat → Int} (h : Run n l g t c m) {i : Nat} (hi : i < n) (hd : l i i = 0) {k : Int} (hk : 0 ≤ k) (hle : k * lim n l g i ≤ c i) :
    Run n l g t (fun j => if j = i then c j - k * lim n l g i else c j + k * l i j) (fun j => if j = i then m j + k else m j) where
  m0 j hj := by
    have := h.m0 j hj
    split <;> omega
  eq j hj := by
    have e : dl n l g (fun j => if j = i then m j + k else m j) j = dl n l g m j + dl n l g (fun q => if q = i then k else 0) j := by
      rw [← dl_add]
      refine dl_congr (fun q _ => ?_) hj
      split <;> omega
    rw [e, dl_pt k hi]
    have := h.eq j hj
    by_cases hji : j = i
    · subst hji
      rw [if_pos rfl, if_pos rfl, hd]
      have : lim n l g j * k = k * lim n l g j := Int.mul_comm _ _
      omega
    · rw [if_neg hji, if_neg hji, G.sy j i hj hi]
      have : l i j * k = k * l i j := Int.mul_comm _ _
      omega
  c0 j hj := by
    have := h.c0 j hj
    by_cases hji : j = i
    · subst hji
      rw [if_pos rfl]; omega
    · rw [if_neg hji]
      have := Int.mul_nonneg hk (G.l0 i j hi hj)
      omega
  min s hs hs2 j hj := by
    have hmin := h.min s hs hs2
    by_cases hji : j = i
    · subst hji
      rw [if_pos rfl]
      refine Classical.byContradiction fun hno => ?_
      have h1 := hs2 j hi
      have h2 := h.eq j hi
      have h3 : dl n l g (fun q => s q - m q) j = dl n l g s j - dl n l g m j := dl_sub s m j
      have h4 : dl n l g (fun q => s q - m q) j ≤ lim n l g j * (s j - m j) := by
        unfold dl
        have := sm_nonneg (n := n) (f := fun q => l j q * (s q - m q)) fun q hq => Int.mul_nonneg (G.l0 j q hi hq) (by have := hmin q hq; omega)
        dsimp only
        omega
      have h5 : lim n l g j * (s j - m j) ≤ lim n l g j * (k - 1) := Int.mul_le_mul_of_nonneg_left (by omega) (by have := lim_pos G hi; omega)
      have h6 : lim n l g j * (k - 1) = k * lim n l g j - lim n l g j := by grind
      omega
    · rw [if_neg hji]
      exact hmin j hj
theorem Stb.unique {t c m c' m' : Nat → Int} (h : Stb n l g t c m) (h' : Stb n l g t c' m') : (∀ i, i < n → m i = m' i) ∧ ∀ i, i < n → c i = c' i := by
  have hm : ∀ i, i < n → m i = m' i := fun i hi => by
    have h1 := h.min m' h'.m0 (fun j hj => by rw [← h'.eq j hj]; exact h'.calm j hj) i hi
    have h2 := h'.min m h.m0 (fun j hj => by rw [← h.eq j hj]; exact h.calm j hj) i hi
    omega
  exact ⟨hm, fun i hi => by rw [h.eq i hi, h'.eq i hi, dl_congr hm hi]⟩
def NF (n : Nat) (l : Nat → Nat → Int) (c : Nat → Int) : Prop := ∀ A : Nat → Bool, (∃ i, i < n ∧ A i = true) → ∃ i, i < n ∧ A i = true ∧ sm n (fun j => if A j then l i j else 0) ≤ c i
def Alk (n : Nat) (l : Nat → Nat → Int) (g : Nat → Int) (a b : Nat → Int) : Prop := ∃ s : Nat → Int, ∀ i, i < n → b i = a i - dl n l g s i
structure Lst (n : Nat) (l : Nat → Nat → Int) (g : Nat → Int) (c : Nat → Int) : Prop where
  c0 : ∀ i, i < n → 0 ≤ c i
  calm : ∀ i, i < n → c i < lim n l g i
  nf : NF n l c
theorem stb_ex (G : Gr n l g) (hd : ∀ i, i < n → l i i = 0) {t : Nat → Int} (ht : ∀ i, i < n → 0 ≤ t i) : ∃ c m, Stb n l g t c m := by
  have key : ∀ (f : Nat) (c m : Nat → Int), Run n l g t c m → (n : Int) * (n * sm n t) - sm n m < (f : Int) → ∃ c m, Stb n l g t c m := by
    intro f
    induction f with
    | zero =>
      intro c m h hf
      exfalso
      have hb := bound G ht h.m0 (fun i hi => by rw [← h.eq i hi]; exact h.c0 i hi)
      have : sm n m ≤ (n : Int) * (n * sm n t) := by
        have h1 := sm_le (n := n) (f := m) (h := fun _ => n * sm n t) hb
        have h2 : ∀ k : Nat, sm k (fun _ => (n : Int) * sm n t) = (k : Int) * (n * sm n t) := by
          intro k
          induction k with
          | zero => simp [sm]
          | succ k ih => show sm k _ + _ = _; rw [ih]; grind
        rw [h2] at h1
        exact h1
      omega
    | succ f ih =>
      intro c m h hf
      by_cases hc : ∀ i, i < n → c i < lim n l g i
      · exact ⟨c, m, h, hc⟩
      · have : ∃ i, i < n ∧ lim n l g i ≤ c i := Classical.byContradiction fun h2 => hc fun i hi => Classical.byContradiction fun h3 => h2 ⟨i, hi, by omega⟩
        obtain ⟨i, hi, hle⟩ := this
        refine ih _ _ (h.step G hi (hd i hi) (k := 1) (by omega) (by omega)) ?_
        have e : sm n (fun j => if j = i then m j + 1 else m j) = sm n m + 1 := by
          have e2 := sm_add (f := m) (h := fun j => 1 * (if j = i then (1 : Int) else 0)) n
          rw [sm_pt (f := fun _ => 1) 1 i n, if_pos hi] at e2
          have e3 : sm n (fun j => if j = i then m j + 1 else m j) = sm n (fun j => m j + 1 * (if j = i then (1 : Int) else 0)) := sm_congr fun j _ => by split <;> omega
          omega
        rw [e]; omega
  have h0 : sm n (fun _ => 0) = 0 := sm_zero n
  have hn0 : 0 ≤ (n : Int) * (n * sm n t) := Int.mul_nonneg (by omega) (Int.mul_nonneg (by omega) (sm_nonneg ht))
  exact key ((n : Int) * (n * sm n t) + 1).toNat _ _ (Run.zero ht) (by rw [h0]; omega)
end
end Go.Sand
namespace Go.Proofs.YtbnjmkidbfmomaaGreatDoor
open Go.Sx Go.RowKit Go.Bt Go.Lib Go.Sand
def rightS (s : List UInt8) : Bool := decide (1 ≤ s.length ∧ s.length ≤ 40 ∧ (10 : UInt8) ∉ s)
theorem dI_len {i : Int} (h : 0 ≤ i) (h2 : i < 1000003) : (dI i).length ≤ 7 := itoa_len h h2
def pageL (dg : Int → List UInt8) (sum : Int) (s : List UInt8) : List UInt8 := dg sum ++ [32] ++ s ++ [10]
def bookF (dg : Int → List UInt8) (x : Int × List UInt8) (s : List UInt8) : Int × List UInt8 := (smV x.1 s, x.2 ++ pageL dg (smV x.1 s) s)
def bookL (dg : Int → List UInt8) (L : List (List UInt8)) : Int × List UInt8 := L.foldl (bookF dg) (0, [])
theorem bookL_next {dg : Int → List UInt8} {L : List (List UInt8)} {k : Nat} (hk : k < L.length) : bookL dg (L.take (k + 1)) = bookF dg (bookL dg (L.take k)) (L.getD k []) := by
  unfold bookL
  rw [List.take_succ_eq_append_getElem hk, List.foldl_append]
  simp [List.getD, hk]
theorem bookL_bd {dg : Int → List UInt8} (L : List (List UInt8)) : 0 ≤ (bookL dg L).1 ∧ (bookL dg L).1 < 1000003 := by
  rcases List.eq_nil_or_concat L with h | ⟨M, c, h⟩
  · subst h; exact ⟨Int.le_refl (0 : Int), show (0 : Int) < 1000003 by decide⟩
  · subst h
    unfold bookL
    rw [List.concat_eq_append, List.foldl_append]
    exact smV_bd _ _
section
variable {P : Program} {n : Nat} {w0 : World} {E : Env} {G : Heap} {d : Option Nat} {ty : TypeId} {pos : String} {aft : Array Edge} {g : Option (Nat × Bool)}
theorem PV.eqlK {k : IntKind} {x y : Operand} {i j : Int} {t t' : TypeId} (hx : evo E x = some (.int k i)) (hy : evo E y = some (.int k j)) : PV P n w0 E G ⟨d, .binOp .eql t x y t', ty, pos, aft, g⟩ (.bool (decide (i = j))) :=
  fun a w hs => by simp only [execOp, hs.ev hx, hs.ev hy]; cases k <;> (simp [go_sem]; rw [Bool.eq_iff_iff]; simp)
end
theorem page_ok (w0 : World) (hW : WAt w0) (i : Int) (hi : 0 ≤ i ∧ i < 1000003) (L : List UInt8) (hl : L.length ≤ 1000000) :
    Calls Tryz.prog 82 #[.int .i64 i, str L] w0 (Post (X := Unit) (fun _ => str (pageL dI i L)) (fun _ => True) (fun _ => []) w0) := by
  have hd := dI_len hi.1 hi.2
  refine calls Tryz.func82 rfl (n := 11) rfl (by simp) ?_
  refine zr (za rfl (zk (zm rfl (TL.call rfl Tb.gofn_78 (fun a w hs => itoa_ok w (hW.new hs.new) i om om) rfl dc (fun _ _ => ?_)))))
  refine zq (PV.addS (M := [32]) rfl rfl (by simp only [List.length_cons, List.length_nil]; omega)) rfl ?_
  refine zm rfl (zq (PV.addS rfl rfl (by simp only [List.length_append, List.length_cons, List.length_nil]; omega)) rfl ?_)
  refine zq (PV.addS (M := [10]) rfl rfl (by simp only [List.length_append, List.length_cons, List.length_nil]; omega)) rfl ?_
  refine za rfl (zt (TQ.retE1 rfl rfl ?_))
  exact ⟨(), rfl, trivial, nils⟩
theorem bookOf_ok (w0 : World) (hW : WAt w0) (p : Option Addr) (c : Nat) (L : List (List UInt8)) (hL : StrsAt w0 p L) (h300 : L.length ≤ 300) (hs : ∀ j, (L.getD j []).length ≤ 400) :
    Calls Tryz.prog 68 #[.slice p L.length c] w0 (Post (X := Unit) (fun _ => str (bookL dI L).2) (fun _ => True) (fun _ => []) w0) := by
  have hs9 := hs
  clear hs
  refine calls Tryz.func68 rfl (n := 23) rfl (by simp) ?_
  refine zr (za rfl (zk (za rfl (za rfl (zn (TC.seq (zr (zm rfl (zq (PV.len rfl Tb.sl_43) rfl (zm rfl (zn (TC.block (TC.loopK [2, 7, 8] (X := Nat) (fun k => k ≤ L.length ∧ (bookL dI (L.take k)).2.length ≤ 500 * k) (fun k => [(9, .int .i64 (k : Nat)), (4, .int .i64 (bookL dI (L.take k)).1), (3, str (bookL dI (L.take k)).2)]) (fun k => []) (fun k => L.length - k) 0 ⟨Nat.zero_le _, Nat.zero_le _⟩ (by exact ⟨rfl, rfl, rfl, trivial⟩) s9z ?_)))))))))))))
  intro k hk
  have hk1 := hk.1
  refine zr (zq (PV.lss rfl rfl) rfl (zn (TC.seq (TC.cd rfl (fun hlt => ?_) (fun hlt => ?_)))))
  refine TC.skip (TQ.thenC (TC.seq (TC.block (TC.seq ?_))))
  obtain ⟨q, qp, qv⟩ := hL k (by omega)
  refine TC.region (zq (PV.indexA rfl qp rfl Tb.elm_43 rfl om) rfl (zq (PV.loadOld rfl Tb.one_9 qv) rfl (za rfl (zk (zm rfl (zm rfl (TL.call rfl Tb.gofn_46 (fun a w hs => Sum_ok w (bookL dI (L.take k)).1 (by have := bookL_bd (dg := dI) (L.take k); omega) (L.getD k []) (by have := hs9 k; omega)) rfl dc (fun _ _ => ?_))))))))
  refine za rfl (zn (TC.region (zm rfl (zm rfl (zm rfl (TL.call rfl Tb.gofn_82 (fun a w hs => page_ok w (hW.new hs.new) _ (smV_bd _ _) (L.getD k []) (by have := hs9 k; omega)) rfl dc (fun _ _ => ?_)))))))
  refine zq (PV.addS rfl rfl (by have h1 := hk.2; have h2 := dI_len (smV_bd (bookL dI (L.take k)).1 (L.getD k [])).1 (smV_bd _ _).2; have h3 := hs9 k; unfold pageL; simp only [List.length_append, List.length_cons, List.length_nil]; omega)) rfl ?_
  refine za rfl (TL.nil (TQ.blkN (TQ.thenC ?_)))
  have hnx := bookL_next (dg := dI) (show k < L.length by omega)
  refine TC.region (zq (PV.add rfl rfl om) rfl (zm rfl (TL.nil (TQ.thenN (TQ.backK (k + 1) (by rw [hnx]; exact ⟨rfl, rfl, rfl, trivial⟩) l9z s9z ⟨by omega, by rw [hnx]; have h1 := hk.2; have h2 := dI_len (smV_bd (bookL dI (L.take k)).1 (L.getD k [])).1 (smV_bd _ _).2; have h3 := hs9 k; unfold bookF pageL; simp only [List.length_append, List.length_cons, List.length_nil]; omega⟩ om)))))
  refine TC.exit (TQ.thenE (TQ.thenE (TQ.blkS (TQ.thenC (TC.seq ?_)))))
  have hke : k = L.length := by omega
  refine TC.region (zm rfl (za rfl (zt (TQ.retE1 rfl rfl ?_))))
  exact ⟨(), by rw [hke, List.take_length], trivial, nils⟩
end Go.Proofs.YtbnjmkidbfmomaaGreatDoor
namespace Go.Proofs.YtbnjmkidbfmomaaGreatDoor
open Go.Sx Go.RowKit Go.Bt Go.Lib
theorem right_of {s : List UInt8} (h : rightS s = true) : 1 ≤ s.length ∧ s.length ≤ 40 ∧ (10 : UInt8) ∉ s := of_decide_eq_true h
/-! Orders. -/
def dayB : List UInt8 := [100, 97, 121]
def cutB : List UInt8 := [99, 117, 116]
def loadB : List UInt8 := [108, 111, 97, 100]
def wetB : List UInt8 := [119, 101, 116]
def shutB : List UInt8 := [115, 104, 117, 116]
def numF (a : List UInt8) : Option Nat := (List.range 1000).find? fun n => decide (decDigits n = a)
theorem numF_some {a : List UInt8} {n : Nat} (h : numF a = some n) : n < 1000 ∧ a = decDigits n := by
  unfold numF at h
  have h1 := List.find?_some h
  have h2 := List.mem_of_find?_eq_some h
  exact ⟨List.mem_range.1 h2, (of_decide_eq_true h1).symm⟩
theorem numF_none {a : List UInt8} (h : numF a = none) : ∀ n, n < 1000 → decDigits n ≠ a := fun n hn e => by
  have := List.find?_eq_none.1 h n (List.mem_range.2 hn)
  simp [e] at this
theorem numF_dec {n : Nat} (hn : n < 1000) : numF (decDigits n) = some n := by
  cases h : numF (decDigits n) with
  | none => exact absurd rfl (numF_none h n hn)
  | some k => rw [dec_inj (numF_some h).2]
def isNum (a : List UInt8) : Bool := (numF a).isSome
def nv (a : List UInt8) : Int := ((numF a).getD 0 : Nat)
theorem nv_bd (a : List UInt8) : 0 ≤ nv a ∧ nv a ≤ 999 := by
  unfold nv
  cases h : numF a with
  | none => simp
  | some n => have := (numF_some h).1; simp; omega
structure Od where
  k : Nat
  ns : List Int
  deriving DecidableEq
def kdF (h : List UInt8) : Option (Nat × Nat) :=
  if h = dayB then some (0, 0) else if h = cutB then some (1, 1) else if h = loadB then some (2, 2) else if h = wetB then some (3, 2) else if h = shutB then some (4, 0) else none
def prsO (t : List UInt8) : Option Od :=
  match kdF ((spl 32 t).getD 0 []) with
  | none => none
  | some (k, c) => if (spl 32 t).length = 1 + c ∧ ((spl 32 t).drop 1).all isNum = true then some ⟨k, ((spl 32 t).drop 1).map nv⟩ else none
def jn (c : UInt8) : List (List UInt8) → List UInt8
  | [] => []
  | [w] => w
  | w :: ws => w ++ c :: jn c ws
theorem jn_spl (c : UInt8) : ∀ (n : Nat) (l : List UInt8), l.length ≤ n → jn c (spl c l) = l
  | n, l, hn => by
    rw [spl_brk]
    cases h : (brk c l).2 with
    | none => exact (brk_none h).symm
    | some r =>
      have hl := brk_le h
      cases n with
      | zero => omega
      | succ n =>
        have ih := jn_spl c n r (by omega)
        have hp := spl_pos c r
        cases hs : spl c r with
        | nil => rw [hs] at hp; simp at hp
        | cons w ws =>
          simp only
          rw [hs]
          simp only [jn]
          rw [← hs, ih]
          exact (brk_some h).symm
theorem kd_word {h : List UInt8} {k c : Nat} (e : kdF h = some (k, c)) : h.length ≤ 4 ∧ (10 : UInt8) ∉ h ∧ 1 ≤ h.length ∧ c ≤ 2 ∧ (k = 0 ∧ c = 0 ∨ k = 1 ∧ c = 1 ∨ k = 2 ∧ c = 2 ∨ k = 3 ∧ c = 2 ∨ k = 4 ∧ c = 0) := by
  unfold kdF at e
  have d1 : dayB.length ≤ 4 ∧ (10 : UInt8) ∉ dayB ∧ 1 ≤ dayB.length := by decide +kernel
  have d2 : cutB.length ≤ 4 ∧ (10 : UInt8) ∉ cutB ∧ 1 ≤ cutB.length := by decide +kernel
  have d3 : loadB.length ≤ 4 ∧ (10 : UInt8) ∉ loadB ∧ 1 ≤ loadB.length := by decide +kernel
  have d4 : wetB.length ≤ 4 ∧ (10 : UInt8) ∉ wetB ∧ 1 ≤ wetB.length := by decide +kernel
  have d5 : shutB.length ≤ 4 ∧ (10 : UInt8) ∉ shutB ∧ 1 ≤ shutB.length := by decide +kernel
  split at e
  · rename_i e1; injection e with e; injection e with e2 e3; subst e2 e3; rw [e1]; exact ⟨d1.1, d1.2.1, d1.2.2, by decide, by decide⟩
  split at e
  · rename_i e1; injection e with e; injection e with e2 e3; subst e2 e3; rw [e1]; exact ⟨d2.1, d2.2.1, d2.2.2, by decide, by decide⟩
  split at e
  · rename_i e1; injection e with e; injection e with e2 e3; subst e2 e3; rw [e1]; exact ⟨d3.1, d3.2.1, d3.2.2, by decide, by decide⟩
  split at e
  · rename_i e1; injection e with e; injection e with e2 e3; subst e2 e3; rw [e1]; exact ⟨d4.1, d4.2.1, d4.2.2, by decide, by decide⟩
  split at e
  · rename_i e1; injection e with e; injection e with e2 e3; subst e2 e3; rw [e1]; exact ⟨d5.1, d5.2.1, d5.2.2, by decide, by decide⟩
  · cases e
theorem num_word {a : List UInt8} (h : isNum a = true) : a.length ≤ 3 ∧ (10 : UInt8) ∉ a := by
  unfold isNum at h
  cases h2 : numF a with
  | none => rw [h2] at h; cases h
  | some n =>
    obtain ⟨h3, h4⟩ := numF_some h2
    subst h4
    exact ⟨dec_len 3 n (by decide) (by omega), dec_no (.inl (by decide))⟩
set_option maxRecDepth 4000 in
theorem prs_right {t : List UInt8} {o : Od} (h : prsO t = some o) : rightS t = true := by
  unfold prsO at h
  cases hk : kdF ((spl 32 t).getD 0 []) with
  | none => rw [hk] at h; cases h
  | some kc =>
    obtain ⟨k, c⟩ := kc
    rw [hk] at h
    simp only at h
    split at h
    · rename_i hc
      obtain ⟨hl, ha⟩ := hc
      obtain ⟨w1, w2, w3, w4, w5⟩ := kd_word hk
      have hj := jn_spl 32 t.length t (Nat.le_refl _)
      have ha' := List.all_eq_true.1 ha
      generalize spl 32 t = ws at *
      unfold rightS
      refine decide_eq_true ?_
      match ws, hl, w1, w2, w3, ha', hj with
      | [a], _, w1, w2, w3, _, hj =>
        simp only [jn] at hj
        subst hj
        exact ⟨w3, by simp at w1; omega, w2⟩
      | [a, b], _, w1, w2, w3, ha, hj =>
        simp only [jn] at hj
        subst hj
        have hb := num_word (ha b (by simp))
        simp at w1 w2 w3 ⊢
        refine ⟨by omega, by omega, w2, hb.2⟩
      | [a, b, d], _, w1, w2, w3, ha, hj =>
        simp only [jn] at hj
        subst hj
        have hb := num_word (ha b (by simp))
        have hd := num_word (ha d (by simp))
        simp at w1 w2 w3 ⊢
        refine ⟨by omega, by omega, w2, hb.2, hd.2⟩
      | a :: b :: d :: e :: r, hl, _, _, _, _, _ => simp at hl; omega
      | [], hl, _, _, _, _, _ => simp at hl; omega
    · cases h
theorem prs_ns {t : List UInt8} {o : Od} (h : prsO t = some o) : (o.k = 0 ∧ o.ns.length = 0 ∨ o.k = 1 ∧ o.ns.length = 1 ∨ o.k = 2 ∧ o.ns.length = 2 ∨ o.k = 3 ∧ o.ns.length = 2 ∨ o.k = 4 ∧ o.ns.length = 0) ∧ ∀ j, 0 ≤ o.ns.getD j 0 ∧ o.ns.getD j 0 ≤ 999 := by
  unfold prsO at h
  cases hk : kdF ((spl 32 t).getD 0 []) with
  | none => rw [hk] at h; cases h
  | some kc =>
    obtain ⟨k, c⟩ := kc
    rw [hk] at h
    simp only at h
    split at h
    · rename_i hc
      injection h with h
      obtain ⟨w1, w2, w3, w4, w5⟩ := kd_word hk
      subst h
      refine ⟨?_, fun j => ?_⟩
      · simp only [List.length_map, List.length_drop]
        omega
      · simp only
        by_cases hj : j < (((spl 32 t).drop 1).map nv).length
        · have e : (((spl 32 t).drop 1).map nv).getD j 0 = nv (((spl 32 t).drop 1)[j]'(by rw [List.length_map] at hj; exact hj)) := by rw [List.getD_eq_getElem?_getD, List.getElem?_eq_getElem hj, List.getElem_map]; rfl
          rw [e]; exact nv_bd _
        · have e : (((spl 32 t).drop 1).map nv).getD j 0 = 0 := by
            rw [List.getD_eq_getElem?_getD, List.getElem?_eq_none (by omega)]; rfl
          rw [e]; omega
    · cases h
/-! Pages and books. -/
def pgF (sum : Int) (t : List UInt8) : Option (List UInt8 × List UInt8) :=
  match (brk 10 t).2 with
  | none => none
  | some r => match (brk 32 (brk 10 t).1).2 with
    | none => none
    | some s => if rightS s = true ∧ itoa (smV sum s) = (brk 32 (brk 10 t).1).1 then some (s, r) else none
def PgR (sum : Int) (t s r : List UInt8) : Prop := rightS s = true ∧ t = pageL dI (smV sum s) s ++ r
theorem page_eq (i : Int) (s r : List UInt8) : pageL dI i s ++ r = (itoa i ++ 32 :: s) ++ 10 :: r := by
  unfold pageL; simp
theorem sm_pos (b : Int) (s : List UInt8) : 0 ≤ smV b s := (smV_bd b s).1
theorem line_no {b : Int} {s : List UInt8} (h : rightS s = true) : (10 : UInt8) ∉ itoa (smV b s) ++ 32 :: s := by
  have h1 := (right_of h).2.2
  have h2 := itoa_no (sm_pos b s) (c := 10) (.inl (by decide))
  simp [h1, h2]
theorem pg_of {sum : Int} {t s r : List UInt8} (h : PgR sum t s r) : pgF sum t = some (s, r) := by
  obtain ⟨h1, h2⟩ := h
  rw [page_eq] at h2
  have e1 := brk_hit (r := r) (line_no (b := sum) h1)
  rw [← h2] at e1
  have e2 := brk_hit (r := s) (itoa_no (sm_pos sum s) (c := 32) (.inl (by decide)))
  unfold pgF
  rw [e1]
  simp only
  rw [e2]
  simp [h1]
theorem pg_to {sum : Int} {t s r : List UInt8} (h : pgF sum t = some (s, r)) : PgR sum t s r := by
  unfold pgF at h
  cases h1 : (brk 10 t).2 with
  | none => rw [h1] at h; cases h
  | some r' =>
    rw [h1] at h
    simp only at h
    cases h2 : (brk 32 (brk 10 t).1).2 with
    | none => rw [h2] at h; cases h
    | some s' =>
      rw [h2] at h
      simp only at h
      split at h
      · rename_i hc
        injection h with h
        injection h with e1 e2
        subst e1 e2
        refine ⟨hc.1, ?_⟩
        rw [page_eq, hc.2, ← brk_some h2, ← brk_some h1]
      · cases h
def rdN : Nat → Int → List UInt8 → List (List UInt8) × List UInt8
  | 0, _, t => ([], t)
  | n + 1, sum, t => match pgF sum t with
    | none => ([], t)
    | some (s, r) => (s :: (rdN n (smV sum s) r).1, (rdN n (smV sum s) r).2)
def bkN (sum : Int) : List (List UInt8) → List UInt8
  | [] => []
  | s :: L => pageL dI (smV sum s) s ++ bkN (smV sum s) L
theorem rd_sound : ∀ (n : Nat) (sum : Int) (t : List UInt8), t = bkN sum (rdN n sum t).1 ++ (rdN n sum t).2 ∧ (rdN n sum t).1.length ≤ n ∧ (rdN n sum t).1.all rightS = true ∧ ((rdN n sum t).1.length = n ∨ pgF (((rdN n sum t).1).foldl smV sum) (rdN n sum t).2 = none)
  | 0, sum, t => ⟨rfl, Nat.le_refl _, rfl, .inl rfl⟩
  | n + 1, sum, t => by
    cases h : pgF sum t with
    | none =>
      have e : rdN (n + 1) sum t = ([], t) := by unfold rdN; rw [h]
      rw [e]
      exact ⟨rfl, Nat.zero_le _, rfl, .inr h⟩
    | some sr =>
      obtain ⟨s, r⟩ := sr
      have e : rdN (n + 1) sum t = (s :: (rdN n (smV sum s) r).1, (rdN n (smV sum s) r).2) := by conv => lhs; unfold rdN; rw [h]
      obtain ⟨i1, i2, i3, i4⟩ := rd_sound n (smV sum s) r
      have hp := pg_to h
      rw [e]
      refine ⟨?_, by simp; omega, ?_, ?_⟩
      · simp only [bkN]
        rw [List.append_assoc, ← i1]
        exact hp.2
      · simp only [List.all_cons, i3, hp.1, Bool.and_self]
      · rcases i4 with i4 | i4
        · exact .inl (by simp [i4])
        · exact .inr i4
theorem rd_book : ∀ (L : List (List UInt8)) (n : Nat) (sum : Int), L.length ≤ n → L.all rightS = true → rdN n sum (bkN sum L) = (L, [])
  | [], 0, sum, _, _ => rfl
  | [], n + 1, sum, _, _ => by
    unfold rdN
    have : pgF sum (bkN sum []) = none := rfl
    rw [this]; rfl
  | s :: L, 0, sum, h, _ => by simp at h
  | s :: L, n + 1, sum, h, ha => by
    simp only [List.all_cons, Bool.and_eq_true] at ha
    have hp : pgF sum (bkN sum (s :: L)) = some (s, bkN (smV sum s) L) := pg_of ⟨ha.1, rfl⟩
    have ih := rd_book L n (smV sum s) (by simpa using h) ha.2
    conv => lhs; unfold rdN; rw [hp]
    simp only [ih]
theorem bk_fold {L : List (List UInt8)} : ∀ (sum : Int) (b : List UInt8), (L.foldl (bookF dI) (sum, b)).2 = b ++ bkN sum L := by
  induction L with
  | nil => intro sum b; simp [bkN]
  | cons s L ih =>
    intro sum b
    rw [List.foldl_cons]
    show (L.foldl (bookF dI) (smV sum s, b ++ pageL dI (smV sum s) s)).2 = _
    rw [ih, bkN, List.append_assoc]
theorem book_bk (L : List (List UInt8)) : (bookL dI L).2 = bkN 0 L := by
  unfold bookL; rw [bk_fold]; rfl
def readL (t : List UInt8) : List (List UInt8) × List UInt8 := rdN 100 0 t
theorem rdN_none {n : Nat} {sum : Int} {t : List UInt8} (h : pgF sum t = none) : rdN n sum t = ([], t) := by
  cases n with
  | zero => rfl
  | succ n => unfold rdN; rw [h]
theorem rdN_some {n : Nat} {sum : Int} {t s r : List UInt8} (h : pgF sum t = some (s, r)) : rdN (n + 1) sum t = (s :: (rdN n (smV sum s) r).1, (rdN n (smV sum s) r).2) := by
  conv => lhs; unfold rdN; rw [h]
structure RdS (t : List UInt8) (os : List (List UInt8)) (sum : Int) (r : List UInt8) : Prop where
  le : os.length ≤ 100
  eq : readL t = (os ++ (rdN (100 - os.length) sum r).1, (rdN (100 - os.length) sum r).2)
  len : r.length ≤ t.length
  sm : 0 ≤ sum ∧ sum < 1000003
  rt : os.all rightS = true
theorem RdS.zero (t : List UInt8) : RdS t [] 0 t := ⟨Nat.zero_le _, rfl, Nat.le_refl _, by decide, rfl⟩
theorem RdS.next {t r s r2 : List UInt8} {os : List (List UInt8)} {sum : Int} (h : RdS t os sum r) (hl : os.length < 100) (hp : PgR sum r s r2) : RdS t (os ++ [s]) (smV sum s) r2 := by
  have e1 := pg_of hp
  obtain ⟨k, hk⟩ : ∃ k, 100 - os.length = k + 1 := ⟨99 - os.length, by omega⟩
  refine ⟨by simp; omega, ?_, ?_, smV_bd _ _, by simp [h.rt, hp.1]⟩
  · have := h.eq
    rw [hk, rdN_some e1] at this
    rw [this, show 100 - (os ++ [s]).length = k by simp; omega]
    simp
  · have := congrArg List.length hp.2
    simp at this
    have := h.len
    omega
theorem RdS.stop {t r : List UInt8} {os : List (List UInt8)} {sum : Int} (h : RdS t os sum r) (hp : pgF sum r = none) : readL t = (os, r) := by
  rw [h.eq, rdN_none hp]; simp
theorem RdS.full {t r : List UInt8} {os : List (List UInt8)} {sum : Int} (h : RdS t os sum r) (hl : ¬ os.length < 100) : readL t = (os, r) := by
  have := h.le
  rw [h.eq, show 100 - os.length = 0 by omega]; simp [rdN]
def lnO (r : List UInt8) : List UInt8 := ((brk 32 (brk 10 r).1).2).getD []
theorem pg_page {sum : Int} {r s r2 : List UInt8} (h : PgR sum r s r2) : lnO r = s := by
  obtain ⟨h1, h2⟩ := h
  rw [page_eq] at h2
  have e1 := brk_hit (r := r2) (line_no (b := sum) h1)
  rw [← h2] at e1
  have e2 := brk_hit (r := s) (itoa_no (sm_pos sum s) (c := 32) (.inl (by decide)))
  unfold lnO
  rw [e1]
  simp only
  rw [e2]; rfl
theorem pg_line {sum : Int} {r : List UInt8} (h : rightS (lnO r) = false) : pgF sum r = none := by
  cases h2 : pgF sum r with
  | none => rfl
  | some sr =>
    have := pg_to h2
    rw [pg_page this, this.1] at h; cases h
theorem pg_pre {sum : Int} {r : List UInt8} (h : ¬ (pageL dI (smV sum (lnO r)) (lnO r)).isPrefixOf r = true) : pgF sum r = none := by
  cases h2 : pgF sum r with
  | none => rfl
  | some sr =>
    have := pg_to h2
    exfalso
    apply h
    rw [pg_page this, List.isPrefixOf_iff_prefix]
    exact ⟨sr.2, this.2.symm⟩
theorem pg_yes {sum : Int} {r : List UInt8} (h0 : rightS (lnO r) = true) (h : (pageL dI (smV sum (lnO r)) (lnO r)).isPrefixOf r = true) : PgR sum r (lnO r) (r.drop (pageL dI (smV sum (lnO r)) (lnO r)).length) := by
  obtain ⟨x, hx⟩ := List.isPrefixOf_iff_prefix.1 h
  refine ⟨h0, ?_⟩
  generalize pageL dI (smV sum (lnO r)) (lnO r) = p at hx ⊢
  have e : r.drop p.length = x := by rw [← hx]; exact List.drop_left
  rw [e, hx]
end Go.Proofs.YtbnjmkidbfmomaaGreatDoor
