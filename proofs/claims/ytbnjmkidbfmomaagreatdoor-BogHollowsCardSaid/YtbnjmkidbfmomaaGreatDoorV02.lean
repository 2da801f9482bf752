/- Sy -/
import Derived.Test.YtbnjmkidbfmomaaGreatDoorV01
import Derived.Deep.AppendSrc
set_option linter.unusedVariables false
set_option linter.unusedSimpArgs false
set_option maxRecDepth 100000
namespace Go.Sx
open Go.RowKit
inductive Take (b : Nat) (o : Obj) : Heap → Heap → Prop
  | head (R : Heap) : Take b o ((b, o) :: R) R
  | tail (p : Nat × Obj) {G R : Heap} (h : Take b o G R) : Take b o (p :: G) (p :: R)
theorem Take.perm {b : Nat} {o : Obj} {G R : Heap} (h : Take b o G R) : List.Perm ((b, o) :: R) G := by
  induction h with
  | head => exact List.Perm.refl _
  | tail p h ih => exact (List.Perm.swap _ _ _).trans (ih.cons p)
theorem permTake {b : Nat} {o : Obj} {G R D : Heap} (h : Take b o G R) (p : List.Perm D R) : List.Perm ((b, o) :: D) G := (p.cons _).trans h.perm
theorem Upd.appR {b : Nat} {o o' : Obj} {G R : Heap} (A : Heap) (h : Upd b o o' G R) : Upd b o o' (A ++ G) (A ++ R) := by
  induction A with
  | nil => exact h
  | cons p A ih => exact ih.tail p
def gval (h : Option (Nat × Nat × List Value)) (len : Nat) : Value :=
  match h with
  | none => .slice none 0 0
  | some (b, cap, _) => .slice (some ⟨b, 0, none⟩) len cap
def gblk (h : Option (Nat × Nat × List Value)) (e : TypeId) (ys : List Value) : Heap :=
  match h with
  | none => []
  | some (b, _, sp) => [(b, .cells (ys ++ sp).toArray e (0, 0))]
def gok (h : Option (Nat × Nat × List Value)) (len sz : Nat) (ys : List Value) : Prop :=
  ys.length = len * sz ∧ match h with
    | none => len = 0
    | some (_, cap, sp) => cap * sz = ys.length + sp.length ∧ len ≤ cap
inductive TakeH : Option (Nat × Nat × List Value) → TypeId → List Value → Heap → Heap → Prop
  | nil (e : TypeId) (G : Heap) : TakeH none e [] G G
  | here (h : Option (Nat × Nat × List Value)) (e : TypeId) (ys : List Value) (G : Heap) : TakeH h e ys (gblk h e ys ++ G) G
  | tail (p : Nat × Obj) {h : Option (Nat × Nat × List Value)} {e : TypeId} {ys : List Value} {G R : Heap} (t : TakeH h e ys G R) : TakeH h e ys (p :: G) (p :: R)
  | app (A : Heap) {h : Option (Nat × Nat × List Value)} {e : TypeId} {ys : List Value} {G R : Heap} (t : TakeH h e ys G R) : TakeH h e ys (A ++ G) (A ++ R)
theorem TakeH.perm {h : Option (Nat × Nat × List Value)} {e : TypeId} {ys : List Value} {G R : Heap} (t : TakeH h e ys G R) : List.Perm (gblk h e ys ++ R) G := by
  induction t with
  | nil => exact List.Perm.refl _
  | here => exact List.Perm.refl _
  | tail p t ih => exact (List.perm_middle).trans (ih.cons p)
  | app A t ih => 
    refine List.Perm.trans ?_ (ih.append_left A)
    rw [← List.append_assoc, ← List.append_assoc]
    exact (List.perm_append_comm).append_right _
section rules
variable {P : Program} {n : Nat} {w0 : World} {E : Env} {G : Heap} {a : Act} {w : World} {ops : Array Oper} {Q : Exit → Act → World → Prop} {l : List Oper}
def zeroI (P : Program) (e : Nat) : Option (Value × Nat × Nat) := (P.info? e).bind fun i => i.zero.map fun z => (z, i.size, i.bytes)
section
variable {d : Nat} {ty : TypeId} {pos : String} {aft : Array Edge} {g : Option (Nat × Bool)}
theorem madeCells_one (z : Value) (hz : z.cells = #[z]) (k : Nat) : madeCells z.cells k = (List.replicate k z).toArray := by
  apply Array.ext
  · simp [madeCells, hz]
  · intro i h1 h2
    simp [madeCells, hz, Nat.mod_one]
theorem TL.make {x y : Operand} {t e : Nat} {z : Value} {by_ k : Nat} {i : Int} (hx : evo E x = some (.int .i64 i)) (hy : evo E y = some (.int .i64 i)) (ht : P.underlying t = some (.slice e))
    (hz : zeroI P e = some (z, 1, by_)) (hzc : z.cells = #[z]) (hi : i = (k : Int)) (hk : by_ * k ≤ 281474976710656) (hk2 : k ≤ 9223372036854775807) (hg : wants ops E g = some true) (hd : d < n)
    (h : ∀ b, w0.heap.size ≤ b → TL P n w0 ops Q l ((d, .slice (some ⟨b, 0, none⟩) k k) :: E) ((b, .cells (List.replicate k z).toArray e (0, 0)) :: G)) :
    TL P n w0 ops Q (⟨some d, .makeSlice t x y, ty, pos, aft, g⟩ :: l) E G :=
  TL.step hg fun a w hs => by
    unfold zeroI at hz
    cases hinf : P.info? e with
    | none => simp [hinf] at hz
    | some inf =>
      simp [hinf] at hz
      obtain ⟨z', hz1, rfl, hz2, hz3⟩ := hz
      subst hi
      have hr0 := run_make (P := P) w t e inf z' ht hinf hz1 .i64 .i64 k k (by omega) (by omega) (by rw [hz3]; omega) (by omega)
      have hr : (execOp a.eval ⟨some d, .makeSlice t x y, ty, pos, aft, g⟩).run P w = .ok (.value (.slice (some ⟨w.heap.size, 0, none⟩) k k)) (w.alloc (.cells (List.replicate k z').toArray e)) := by
        simp only [execOp, hs.ev hx, hs.ev hy]
        rw [Int.toNat_natCast, hz2, Nat.mul_one, madeCells_one z' hzc] at hr0
        simp [hr0]
      unfold Oper.wp
      rw [hr]
      exact h _ hs.new.below.size _ _ ((hs.world (hs.new.alloc _)).put hd _)
theorem TL.buildSlice {t e len sz by_ : Nat} {parts : List (Nat × Operand)} {ps : List (Nat × Value)} {z : Value} {cs : Array Value} (hx : evp E parts = some ps) (ht : P.underlying t = some (.slice e))
    (hz : zeroI P e = some (z, sz, by_)) (hlen : len * sz ≤ 1000) (hf : Instr.fill (fun i => some (i * sz, sz)) ((Array.range (len * sz)).map (z.cells[· % z.cells.size]!)) ps = some cs) (hpos : len * sz ≠ 0)
    (hg : wants ops E g = some true) (hd : d < n)
    (h : ∀ b, w0.heap.size ≤ b → TL P n w0 ops Q l ((d, .slice (some ⟨b, 0, none⟩) len len) :: E) ((b, .cells cs e (0, 0)) :: G)) :
    TL P n w0 ops Q (⟨some d, .buildSlice t len parts.toArray, ty, pos, aft, g⟩ :: l) E G :=
  TL.step hg fun a w hs => by
    unfold zeroI at hz
    cases hinf : P.info? e with
    | none => simp [hinf] at hz
    | some inf =>
      simp [hinf] at hz
      obtain ⟨z', hz1, rfl, hz2, hz3⟩ := hz
      have hps := hs.evp hx
      have hr : (execOp a.eval ⟨some d, .buildSlice t len parts.toArray, ty, pos, aft, g⟩).run P w = .ok (.value (.slice (some ⟨w.heap.size, 0, none⟩) len len)) (w.alloc (.cells cs e)) := by
        simp only [execOp, List.map_toArray, hps]
        have h1 : ¬ (len * sz > 2 ^ 24) := by omega
        simp [Instr.buildSlice, run_underlying ht, sizeOf, typeInfo, hinf, hz2, zeroValue, hz1, newRow] at hf ⊢
        simp [h1, hpos] at hf ⊢
        first
          | (rw [if_neg (by omega)]; simp [hf])
          | simp [hf, show ¬ (16777216 < len * sz) by omega]
      unfold Oper.wp
      rw [hr]
      exact h _ hs.new.below.size _ _ ((hs.world (hs.new.alloc _)).put hd _)
theorem zeroCells_size (z : Array Value) (k : Nat) : (Builtin.zeroCells z k).size = k * z.size := by simp [Builtin.zeroCells]
theorem TL.append {s x : Operand} {t tx e sz by_ len m : Nat} {z xv : Value} {hd0 : Option (Nat × Nat × List Value)} {ys news : List Value} {R : Heap} (hsv : evo E s = some (gval hd0 len)) (hx : evo E x = some xv)
    (ht : P.underlying t = some (.slice e)) (hz : zeroI P e = some (z, sz, by_)) (hzs : z.cells.size = sz) (hsz : 0 < sz) (hok : gok hd0 len sz ys) (hT : TakeH hd0 e ys G R)
    (hsrc : ∀ a w, S n w0 E G a w → Src P sz tx xv m news w) (hsrc2 : ∀ w', New w0 w' G → Src P sz tx xv m news w') (hb : (len + m) * by_ ≤ 140737488355328) (hm : len + m ≤ 9223372036854775807)
    (hg : wants ops E g = some true) (hd : d < n)
    (h : ∀ h', gok h' (len + m) sz (ys ++ news) → (h' = none → hd0 = none ∧ m = 0) → TL P n w0 ops Q l ((d, gval h' (len + m)) :: E) (gblk h' e (ys ++ news) ++ R)) :
    TL P n w0 ops Q (⟨some d, .call { callee := .builtin .append, args := #[s, x], argTypes := #[t, tx] }, ty, pos, aft, g⟩ :: l) E G :=
  TL.step hg fun a w hs => by
    unfold zeroI at hz
    cases hinf : P.info? e with
    | none => simp [hinf] at hz
    | some inf =>
      simp [hinf] at hz
      obtain ⟨z', hz1, rfl, hz2, hz3⟩ := hz
      have hS := hsrc a w hs
      have hexec : (execOp a.eval ⟨some d, .call { callee := .builtin .append, args := #[s, x], argTypes := #[t, tx] }, ty, pos, aft, g⟩).run P w =
          ((Builtin.append_ #[t, tx] ty #[gval hd0 len, xv]).run P w).andThen fun v w' => .ok (.value v) w' := by
        simp only [execOp, resolve, List.map_toArray, List.map_cons, List.map_nil, hs.ev hsv, hs.ev hx]
        simp [invoke, builtin]
      unfold Oper.wp
      rw [hexec]
      have hN := hs.new.perm hT.perm
      have hnl := hS.newsLen
      have hyl := hok.1
      -- the new block of a grown slice
      have grow : ∀ (cap : Nat) (base : Option Addr), gval hd0 len = .slice base len cap → cap < len + m →
          (Builtin.firstCells inf.size len (.slice base len cap)).run P w.drew = .ok ys.toArray w.drew →
          Oper.upon P ⟨some d, .call { callee := .builtin .append, args := #[s, x], argTypes := #[t, tx] }, ty, pos, aft, g⟩ a (wpList P ops Q l) Q
            (((Builtin.append_ #[t, tx] ty #[gval hd0 len, xv]).run P w).andThen fun v w' => .ok (.value v) w') := by
        intro cap base hv hlt hold
        have hr := run_append_grow_src (P := P) (ty := ty) w t tx e inf z' ht hinf hz1 base len cap ys hold xv m news (by rw [hz2]; exact hS) hlt (by omega)
          (by rw [hz3]; exact growslice_fits hlt hb)
        rw [hv, hr]
        have hcap := grownCap_ge w (len + m) cap e
        refine h (some (w.heap.size, grownCap w (len + m) cap e, (Builtin.zeroCells z'.cells (grownCap w (len + m) cap e - (len + m))).toList)) ⟨?_, ?_, hcap⟩ (fun e => by cases e) _ _ ((hs.world ?_).put hd _)
        · rw [List.length_append, hyl, hnl, Nat.add_mul]
        · have e1 : (Builtin.zeroCells z'.cells (grownCap w (len + m) cap e - (len + m))).toList.length = (grownCap w (len + m) cap e - (len + m)) * sz := by rw [Array.length_toList, zeroCells_size, hzs]
          rw [e1, List.length_append, hyl, hnl, ← Nat.add_mul, ← Nat.add_mul]
          congr 1
          omega
        · have hD : New w0 w.drew R := ⟨⟨hN.below.os, hN.below.tape, hN.below.output, hN.below.size, hN.below.block⟩, (hN.sub (List.sublist_append_right _ _)).nodup, (hN.sub (List.sublist_append_right _ _)).ge, (hN.sub (List.sublist_append_right _ _)).here, trivial⟩
          have := hD.alloc (.cells ((ys ++ news).toArray ++ Builtin.zeroCells z'.cells (grownCap w (len + m) cap e - (len + m))) e)
          simp only [gblk, List.singleton_append]
          have he : (ys ++ news ++ (Builtin.zeroCells z'.cells (grownCap w (len + m) cap e - (len + m))).toList).toArray = (ys ++ news).toArray ++ Builtin.zeroCells z'.cells (grownCap w (len + m) cap e - (len + m)) := by
            apply Array.ext'; simp
          rw [he]
          exact this
      cases hd0 with
      | none =>
        have hl0 : len = 0 := hok.2
        subst hl0
        have hy0 : ys = [] := by simpa using hyl
        subst hy0
        by_cases hm0 : m = 0
        · subst hm0
          have hn0 : news = [] := by simpa using hnl
          subst hn0
          have hr : (Builtin.append_ #[t, tx] ty #[.slice none 0 0, xv]).run P w = .ok (.slice none 0 0) w := by
            have hc := hS.cells
            rcases hS.kind with ⟨e', hk⟩ | hk <;> simp [Builtin.append_, run_underlying ht, run_underlying hk, sizeOf, typeInfo, hinf, hS.len, hz2, hc]
          simp only [gval]
          rw [hr]
          exact h none ⟨by simp, rfl⟩ (fun _ => ⟨rfl, rfl⟩) _ _ ((hs.world (by simpa [gblk] using hN)).put hd _)
        · refine grow 0 none rfl (by omega) ?_
          exact run_firstCells_none (P := P) w.drew inf.size 0 0 0
      | some hh =>
        obtain ⟨b, cap, sp⟩ := hh
        obtain ⟨_, hc1, hc2⟩ := hok
        have hblk : w.heap[b]? = some (.cells (ys ++ sp).toArray e (0, 0)) := hN.here (b, .cells (ys ++ sp).toArray e (0, 0)) (by simp [gblk])
        by_cases hroom : len + m ≤ cap
        · have hspl : news.length ≤ sp.length := by
            have h1 : (len + m) * sz ≤ cap * sz := Nat.mul_le_mul_right _ hroom
            rw [Nat.add_mul] at h1
            omega
          have hf : (Builtin.firstCells inf.size m xv).run P w = .ok news.toArray w := by rw [hz2]; exact hS.cells
          have hst := run_storeCells_at (P := P) b (len * inf.size) e news 0 (ys ++ sp).toArray w hblk (by simp [hz2]; omega) hS.one
          simp only [Nat.add_zero] at hst
          have hr : (Builtin.append_ #[t, tx] ty #[.slice (some ⟨b, 0, none⟩) len cap, xv]).run P w =
              .ok (.slice (some ⟨b, 0, none⟩) (len + m) cap) (w.setRow b (ys ++ news ++ sp.drop news.length).toArray) := by
            have hcat : ((ys ++ sp).toArray.toList.take (len * inf.size) ++ news ++ (ys ++ sp).toArray.toList.drop (len * inf.size + news.length)).toArray = (ys ++ news ++ sp.drop news.length).toArray := by
              congr 1
              rw [hz2, ← hyl]
              simp [List.drop_append]
            rw [hcat] at hst
            rcases hS.kind with ⟨e', hk⟩ | hk <;> simp [Builtin.append_, run_underlying ht, run_underlying hk, sizeOf, typeInfo, hinf, hS.len, hroom, hf, Addr.add_lit, hst]
          simp only [gval]
          rw [hr]
          refine h (some (b, cap, sp.drop news.length)) ⟨?_, ?_, hroom⟩ (fun e => by cases e) _ _ ((hs.world ?_).put hd _)
          · rw [List.length_append, hyl, hnl, Nat.add_mul]
          · rw [List.length_append, List.length_drop]; omega
          · simp only [gblk, List.singleton_append] at hN ⊢
            refine hN.turn (Upd.head _) ?_ ?_ rfl rfl rfl ?_ rfl
            · simp only [World.setRow, Array.getElem?_modify, if_true, hblk, Option.map_some]
            · intro k hk
              simp only [World.setRow, Array.getElem?_modify]
              rw [if_neg (by omega)]
            · simp [World.setRow]
        · refine grow cap (some ⟨b, 0, none⟩) rfl (by omega) ?_
          refine run_firstCells_some (P := P) w.drew inf.size len ⟨b, 0, none⟩ len cap ys (by rw [hz2]; exact hyl) (fun j v hv => ?_)
          rw [add_off, Nat.zero_add]
          have hjl : j < ys.length := (List.getElem?_eq_some_iff.1 hv).1
          have : w.cell? ⟨b, j, none⟩ = some v := by
            simp only [World.cell?, hblk, Option.isSome_none, Bool.false_eq_true, if_false, List.getElem?_toArray]
            rw [List.getElem?_append_left hjl, hv]
          exact this
theorem src_blk {tx e' sz b m c : Nat} {cs : Array Value} {e : TypeId} {news : List Value} (hk : P.underlying tx = some (.slice e')) (hm : (b, Obj.cells cs e (0, 0)) ∈ G) (hl : news.length = m * sz)
    (hc : ∀ (j : Nat) (v : Value), news[j]? = some v → cs[j]? = some v) (h1 : news.all Value.oneCell' = true) {w' : World} (hN : New w0 w' G) : Src P sz tx (.slice (some ⟨b, 0, none⟩) m c) m news w' :=
  Src.ofSlice w' hk ⟨b, 0, none⟩ m c news hl (fun j u hu => by rw [add_off, Nat.zero_add]; exact hN.cell hm (hc j u hu)) (fun v hv => List.all_eq_true.1 h1 v hv)
end
section
variable {d : Option Nat} {ty : TypeId} {pos : String} {aft : Array Edge} {g : Option (Nat × Bool)}
def intsA (xs : List Int) : Array Value := (xs.map (Value.int .i64)).toArray
theorem intsA_get {xs : List Int} {j : Nat} (h : j < xs.length) : (intsA xs)[j]? = some (.int .i64 (xs.getD j 0)) := by
  simp [intsA, List.getD, h]
theorem intsA_set (xs : List Int) (j : Nat) (v : Int) : (intsA xs).setIfInBounds j (.int .i64 v) = intsA (xs.set j v) := by
  simp [intsA, List.map_set]
theorem intsA_size (xs : List Int) : (intsA xs).size = xs.length := by simp [intsA]
theorem intsA_replicate (k : Nat) (v : Int) : (List.replicate k (Value.int .i64 v)).toArray = intsA (List.replicate k v) := by simp [intsA]
theorem PV.index1 {x y : Operand} {b len cap e : Nat} {j : Nat} {i : Int} {k : IntKind} {t : Nat} (hx : evo E x = some (.slice (some ⟨b, 0, none⟩) len cap)) (hy : evo E y = some (.int k i))
    (ht : elemOf' P t = some (e, 1)) (hi : i = (j : Int)) (hj : j < len) :
    PV P n w0 E G ⟨d, .indexAddr t x y, ty, pos, aft, g⟩ (.pointer (some ⟨b, j, none⟩)) := by
  have := PV.index (P := P) (n := n) (w0 := w0) (G := G) (d := d) (ty := ty) (pos := pos) (aft := aft) (g := g) hx hy ht hi hj
  simpa using this
theorem PV.loadI {x : Operand} {b j : Nat} {t : Nat} {xs : List Int} {e : TypeId} {fr : Nat × Nat} (hx : evo E x = some (.pointer (some ⟨b, j, none⟩))) (ht : oneB P t = true)
    (hm : (b, Obj.cells (intsA xs) e fr) ∈ G) (hj : j < xs.length) :
    PV P n w0 E G ⟨d, .load t x, ty, pos, aft, g⟩ (.int .i64 (xs.getD j 0)) := PV.loadG' hx ht hm (intsA_get hj)
theorem PV.makeFunc {f : Nat} {caps : List Operand} {vs : List Value} (hx : evs E caps = some vs) : PV P n w0 E G ⟨d, .makeFunc (.func f) #[] caps.toArray, ty, pos, aft, g⟩ (.func (.func f) #[] vs.toArray) :=
  fun a w hs => by
    have hm := hs.evs hx
    simp only [execOp, List.map_toArray, hm]
    simp [Instr.makeFunc]
theorem PV.indexG {x y : Operand} {h : Option (Nat × Nat × List Value)} {len sz e : Nat} {ys : List Value} {j : Nat} {i : Int} {k : IntKind} {t : Nat} (hx : evo E x = some (gval h len)) (hy : evo E y = some (.int k i))
    (hok : gok h len sz ys) (ht : elemOf' P t = some (e, sz)) (hi : i = (j : Int)) (hj : j < len) :
    PV P n w0 E G ⟨d, .indexAddr t x y, ty, pos, aft, g⟩ (.pointer (some ⟨(h.map (·.1)).getD 0, j * sz, none⟩)) := by
  cases h with
  | none => exact absurd hok.2 (by simp only; omega)
  | some hh =>
    obtain ⟨b, cap, sp⟩ := hh
    have := PV.index (P := P) (n := n) (w0 := w0) (G := G) (d := d) (ty := ty) (pos := pos) (aft := aft) (g := g) (b := b) (off := 0) hx hy ht hi hj
    simpa using this
theorem PV.lenG {x : Operand} {h : Option (Nat × Nat × List Value)} {len sz e : Nat} {ys : List Value} {t : Nat} (hx : evo E x = some (gval h len)) (hok : gok h len sz ys) (ht : P.underlying t = some (.slice e)) :
    PV P n w0 E G ⟨d, .call { callee := .builtin .len, args := #[x], argTypes := #[t] }, ty, pos, aft, g⟩ (.int .i64 len) := by
  cases h with
  | none =>
    have : len = 0 := hok.2
    subst this
    exact PV.len hx ht
  | some hh => exact PV.len hx ht
end
section
variable {d : Nat} {ty : TypeId} {pos : String} {aft : Array Edge} {g : Option (Nat × Bool)}
theorem TL.storeI {dd : Option Nat} {x y : Operand} {b j : Nat} {t : Nat} {xs : List Int} {e : TypeId} {v : Int} {G' : Heap} (hx : evo E x = some (.pointer (some ⟨b, j, none⟩))) (hy : evo E y = some (.int .i64 v))
    (hsz : cellsN P t = some 1) (hu : Upd b (.cells (intsA xs) e (0, 0)) (.cells (intsA (xs.set j v)) e (0, 0)) G G') (hlt : j < xs.length)
    (hg : wants ops E g = some true) (hdd : dd = none) (h : TL P n w0 ops Q l E G') : TL P n w0 ops Q (⟨dd, .store t x y, ty, pos, aft, g⟩ :: l) E G :=
  TL.store (cs := intsA xs) hx hy hsz rfl (by rw [intsA_set]; exact hu) (by rw [intsA_size]; exact hlt) hg hdd h
theorem TL.callF {X : Type} {f k : Nat} {xs : List Operand} {ats : Array TypeId} {vs caps : List Value} (val : X → Value) (F : X → Prop) (G' : X → Heap) (hf : look k E = some (.func (.func f) #[] caps.toArray)) (hx : evs E xs = some vs) (hfn : goFn P f = true)
    (hc : ∀ a w, S n w0 E G a w → Calls P f (vs ++ caps).toArray w (fun e w' => ∃ x, e = .returned (val x) ∧ F x ∧ New w0 w' (G' x))) (hg : wants ops E g = some true) (hd : d < n)
    (h : ∀ x, F x → TL P n w0 ops Q l ((d, val x) :: E) (G' x)) :
    TL P n w0 ops Q (⟨some d, .call { callee := .value (.tmp k), args := xs.toArray, argTypes := ats }, ty, pos, aft, g⟩ :: l) E G :=
  TL.step hg fun a w hs => by
    have hm := hs.evs hx
    have hfe : a.eval (.tmp k) = .func (.func f) #[] caps.toArray := hs.ev (x := .tmp k) hf
    have hr : (execOp a.eval ⟨some d, .call { callee := .value (.tmp k), args := xs.toArray, argTypes := ats }, ty, pos, aft, g⟩).run P w = .ok (.enter f (vs ++ caps).toArray) w := by
      simp only [execOp, resolve, List.map_toArray, hm, hfe]
      show ((callFunc f (#[] ++ vs.toArray ++ caps.toArray)).run P w) = _
      rw [run_goFn hfn]; simp
    unfold Oper.wp
    rw [hr]
    refine (hc a w hs).mono ?_
    rintro e w' ⟨x, rfl, hF, hN⟩
    exact h x hF _ _ ((hs.world hN).put hd _)
end
theorem callsM {f : FuncId} {fn : Func} {vs : List Value} {c : Code} {R : Ending → World → Prop} (hN : New w0 w G) (hf : P.funcs[f]? = some fn) (hb : fn.body = some c) (hn : fn.ntmps = n) (hl : vs.length ≤ n)
    (h : TC P n w0 c (bodyPost P fn R) (args 0 vs) G) : Calls P f vs.toArray w R :=
  calls_of_wp hf hb (h _ _ ⟨by simp; omega, rfl, fun k v hk => by
    have := (look_args vs 0 k v hk).2
    simp only [Nat.sub_zero] at this
    rw [Array.getElem?_append_left (by have := (List.getElem?_eq_some_iff.1 this).1; simpa using this)]
    simpa using this, hN⟩)
def PostM {X : Type} (val : X → Value) (F : X → Prop) (D : X → Heap) (w0 : World) (e : Ending) (w' : World) : Prop :=
  ∃ x, e = .returned (val x) ∧ F x ∧ New w0 w' (D x)
section
variable {d : Nat} {ty : TypeId} {pos : String} {aft : Array Edge} {g : Option (Nat × Bool)}
theorem TL.makeI {x y : Operand} {t e : Nat} {by_ k : Nat} {i : Int} (hx : evo E x = some (.int .i64 i)) (hy : evo E y = some (.int .i64 i)) (ht : P.underlying t = some (.slice e))
    (hz : zeroI P e = some (.int .i64 0, 1, by_)) (hi : i = (k : Int)) (hk : by_ * k ≤ 281474976710656) (hk2 : k ≤ 9223372036854775807) (hg : wants ops E g = some true) (hd : d < n)
    (h : ∀ b, w0.heap.size ≤ b → TL P n w0 ops Q l ((d, .slice (some ⟨b, 0, none⟩) k k) :: E) ((b, .cells (intsA (List.replicate k 0)) e (0, 0)) :: G)) :
    TL P n w0 ops Q (⟨some d, .makeSlice t x y, ty, pos, aft, g⟩ :: l) E G :=
  TL.make hx hy ht hz rfl hi hk hk2 hg hd (fun b hb => by rw [intsA_replicate]; exact h b hb)
end
theorem TQ.perm {K : Act → World → Prop} {G' : Heap} (hp : List.Perm G' G) (h : TQ n w0 K E G') : TQ n w0 K E G := fun a w hs => h a w (hs.world (hs.new.perm hp))
theorem TC.perm {c : Code} {G' : Heap} (hp : List.Perm G' G) (h : TC P n w0 c Q E G') : TC P n w0 c Q E G := fun a w hs => h a w (hs.world (hs.new.perm hp))
theorem TL.perm {G' : Heap} (hp : List.Perm G' G) (h : TL P n w0 ops Q l E G') : TL P n w0 ops Q l E G := fun a w hs => h a w (hs.world (hs.new.perm hp))
theorem TL.congrG {G' : Heap} (hp : G' = G) (h : TL P n w0 ops Q l E G') : TL P n w0 ops Q l E G := hp ▸ h
theorem TC.congrG {c : Code} {G' : Heap} (hp : G' = G) (h : TC P n w0 c Q E G') : TC P n w0 c Q E G := hp ▸ h
def heads (ids : List Nat) (c : Nat) : List Value := ids.map fun b => .slice (some ⟨b, 0, none⟩) c c
def rowsH (e : TypeId) : List Nat → List (List Int) → Heap
  | b :: ids, r :: m => (b, .cells (intsA r) e (0, 0)) :: rowsH e ids m
  | _, _ => []
def getM (m : List (List Int)) (i j : Nat) : Int := (m.getD i []).getD j 0
def setM (m : List (List Int)) (i j : Nat) (v : Int) : List (List Int) := m.set i ((m.getD i []).set j v)
section
variable {d : Option Nat} {ty : TypeId} {pos : String} {aft : Array Edge} {g : Option (Nat × Bool)}
end
section
variable {ty : TypeId} {pos : String} {aft : Array Edge} {g : Option (Nat × Bool)}
end
section
variable {ty : TypeId} {pos : String} {aft : Array Edge} {g : Option (Nat × Bool)}
end
def recA (l : List (List Value)) : Array Value := l.flatten.toArray
section
variable {d : Nat} {ty : TypeId} {pos : String} {aft : Array Edge} {g : Option (Nat × Bool)}
end
section
variable {d : Option Nat} {ty : TypeId} {pos : String} {aft : Array Edge} {g : Option (Nat × Bool)}
theorem PV.cmp {x y : Operand} {u v : Value} {op : BinOp} {t t' : TypeId} {b : Bool} (hx : evo E x = some u) (hy : evo E y = some v) (he : ∀ w, (eqGuard op t x y u v).run P w = .ok () w) (hb : ∀ w, (binOp op t u v).run P w = .ok (.bool b) w) :
    PV P n w0 E G ⟨d, .binOp op t x y t', ty, pos, aft, g⟩ (.bool b) :=
  fun A w hs => by simp only [execOp, hs.ev hx, hs.ev hy]; simp [he, hb]
end
def fillZ (f : Nat → Int) (N k : Nat) : List Int := (List.range N).map fun j => if j < k then f j else 0
theorem fillZ_zero (f : Nat → Int) (N : Nat) : fillZ f N 0 = List.replicate N 0 := by
  apply List.ext_getElem <;> simp [fillZ]
theorem fillZ_len (f : Nat → Int) (N k : Nat) : (fillZ f N k).length = N := by simp [fillZ]
theorem fillZ_all (f : Nat → Int) (N : Nat) : fillZ f N N = (List.range N).map f := by
  apply List.ext_getElem
  · simp [fillZ]
  · intro i h1 h2
    simp [fillZ] at h1 ⊢
    intro h; omega
theorem fillZ_set {f : Nat → Int} {N k : Nat} (h : k < N) : (fillZ f N k).set k (f k) = fillZ f N (k + 1) := by
  apply List.ext_getElem
  · simp [fillZ]
  · intro j h1 h2
    simp only [fillZ, List.getElem_set, List.getElem_map, List.getElem_range]
    by_cases hij : k = j
    · subst hij; simp
    · rw [if_neg hij]
      by_cases hj : j < k
      · rw [if_pos hj, if_pos (by omega)]
      · rw [if_neg hj, if_neg (by omega)]
end rules
end Go.Sx
