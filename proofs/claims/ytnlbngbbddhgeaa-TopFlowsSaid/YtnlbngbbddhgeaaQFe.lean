/- The search: its contract. -/
import Derived.Test.YtnlbngbbddhgeaaQFd
set_option linter.unusedVariables false
set_option linter.unusedSimpArgs false
namespace Go.Proofs.Ytnlbngbbddhgeaa
open Go.Sx Go.RowKit

section
variable {P : Program} {n : Nat} {w0 : World} {E : Env} {G : Heap} {ops : Array Oper} {Q : Exit → Act → World → Prop} {l : List Oper} {ty : TypeId} {pos : String} {aft : Array Edge} {g : Option (Nat × Bool)}
/-- Where an append has put the list: in place, or in a new block beside the old one. -/
def AK (h0 : HD) (ys : List Value) (v : Value) (len : Nat) (G R : Heap) (b cap : Nat) (sp : List Value) (G2 : Heap) : Prop :=
  (∃ s0, h0 = some (b, cap, s0 :: sp) ∧ G2 = R) ∨ (G2 = G ∧ gok (some (b, cap, sp)) (len + 1) 1 (ys ++ [v]))
theorem TL.appendP {d : Nat} {s x : Operand} {t tx e e2 e3 b2 c2 by_ : Nat} {fr2 : Nat × Nat} {h0 : Option (Nat × Nat × List Value)} {ys : List Value} {v z : Value} {len : Nat} {R : Heap} (hsv : evo E s = some (gval h0 len)) (hx : evo E x = some (.slice (some ⟨b2, 0, none⟩) 1 c2))
    (ht : P.underlying t = some (.slice e)) (htx : P.underlying tx = some (.slice e3)) (hz : zeroI P e = some (z, 1, by_)) (hzc : z.cells.size = 1) (hok : gok h0 len 1 ys) (hT : TakeH h0 e ys G R)
    (hm : (b2, Obj.cells #[v] e2 fr2) ∈ G) (hv : v.oneCell' = true) (hL : len + 1 ≤ 1000000) (hby : by_ ≤ 1000) (hg : wants ops E g = some true) (hd : d < n)
    (h : ∀ b cap sp G2, AK h0 ys v len G R b cap sp G2 → TL P n w0 ops Q l ((d, .slice (some ⟨b, 0, none⟩) (len + 1) cap) :: E) ((b, .cells (ys ++ [v] ++ sp).toArray e (0, 0)) :: G2)) :
    TL P n w0 ops Q (⟨some d, .call { callee := .builtin .append, args := #[s, x], argTypes := #[t, tx] }, ty, pos, aft, g⟩ :: l) E G :=
  TL.appendK hsv hx ht htx hz hzc hok hT hm hv hL hby hg hd
    (fun b cap s0 sp e9 => by have := h b cap sp R (.inl ⟨s0, e9, rfl⟩); rw [List.append_assoc] at this; exact this)
    (fun b cap sp hk => h b cap sp G (.inr ⟨rfl, hk⟩))
theorem PV.makeIface {d : Option Nat} {t : Nat} {x : Operand} {v : Value} (hx : evo E x = some v) (ht : P.concrete t = true) : PV P n w0 E G ⟨d, .makeInterface t x, ty, pos, aft, g⟩ (.iface t v) :=
  fun A w hs => by
    simp only [execOp, hs.ev hx]
    simp [run_makeInterface, ht]
theorem TQ.retPN {fn : Func} {X Y : Type} {val : X → Value} {F : X → Prop} {D : X → Heap} {pv : Y → Value} {Fp : Y → Prop} {Dp : Y → Heap} (h : TQ n w0 (bodyPost P fn (Post val F D w0) .normal) E G) : TQ n w0 (bodyPost P fn (PostP val F D pv Fp Dp w0) .normal) E G :=
  fun a w hs => let ⟨h1, v, h2, h3⟩ := h a w hs; ⟨h1, v, h2, .inl h3⟩
end
theorem fill_i (v : Int) : Instr.fill (fun i => some (i * 1, 1)) ((Array.range (1 * 1)).map ((Value.int .i64 0).cells[· % (Value.int .i64 0).cells.size]!)) [(0, .int .i64 v)] = some #[.int .i64 v] := by kernel_rfl
theorem off1 (j : Nat) : 0 + j * 1 = j := by omega
section
variable {P : Program} {n : Nat} {w0 : World} {E : Env} {G : Heap} {ops : Array Oper} {Q : Exit → Act → World → Prop} {l : List Oper} {ty : TypeId} {pos : String} {aft : Array Edge} {g : Option (Nat × Bool)}
theorem PV.loadBo {d : Option Nat} {x : Operand} {b off t : Nat} {bs : List Bool} {e : TypeId} {fr : Nat × Nat} (j : Nat) (hx : evo E x = some (.pointer (some ⟨b, off, none⟩))) (ho : off = j) (ht : oneB P t = true)
    (hm : (b, Obj.cells (boolsA bs) e fr) ∈ G) (hj : j < bs.length) : PV P n w0 E G ⟨d, .load t x, ty, pos, aft, g⟩ (.bool (bs.getD j false)) := by
  subst ho; exact PV.loadB hx ht hm hj
theorem TL.storeBo {dd : Option Nat} {x y : Operand} {b off t : Nat} {bs : List Bool} {e : TypeId} {v : Bool} {G' : Heap} (j : Nat) (hx : evo E x = some (.pointer (some ⟨b, off, none⟩))) (ho : off = j) (hy : evo E y = some (.bool v))
    (hsz : cellsN P t = some 1) (hu : Upd b (.cells (boolsA bs) e (0, 0)) (.cells (boolsA (bs.set j v)) e (0, 0)) G G') (hlt : j < bs.length)
    (hg : wants ops E g = some true) (hdd : dd = none) (h : TL P n w0 ops Q l E G') : TL P n w0 ops Q (⟨dd, .store t x y, ty, pos, aft, g⟩ :: l) E G := by
  subst ho; exact TL.storeB hx hy hsz hu hlt hg hdd h
end
/-- A way that has been found. -/
structure WV where
  bh : Nat
  ch : Nat
  sp : List Value
  ks : List Nat
  am : Int
def WV.val (y : WV) : Value := .iface 68 (.agg #[.slice (some ⟨y.bh, 0, none⟩) y.ks.length y.ch, .int .i64 y.am])
def FX (L : List Fl.E) (g u : Nat) (seen : List Bool) (h : HD) (ks : List Nat) (x : List Bool × HD) : Prop := Bck L g u seen x.1 ∧ gok x.2 ks.length 1 (vals ks) ∧ gval x.2 ks.length = gval h ks.length
def FY (L : List Fl.E) (s g : Nat) (y : WV) : Prop := Fl.Way L y.am s y.ks g ∧ (1 ≤ y.am ∧ y.am ≤ 20) ∧ y.ks.length ≤ 8
abbrev GY (b : Nat) (L : List Fl.E) (T : Heap) (y : WV) : Heap := (b, rsO L) :: (y.bh, Obj.cells (kcs y.ks y.sp) 3 (0, 0)) :: T
abbrev GX (b bs : Nat) (L : List Fl.E) (ks : List Nat) (T : Heap) (x : List Bool × HD) : Heap := (b, rsO L) :: (bs, Obj.cells (boolsA x.1) 4 (0, 0)) :: (gblk x.2 3 (vals ks) ++ T)
/-- The contract of a search that so many nodes are open to. -/
def VOk (m : Nat) : Prop := ∀ (w0 w : World) (b cl bs N : Nat) (L : List Fl.E) (seen : List Bool) (g u s : Nat) (h : HD) (ks : List Nat) (am : Int) (T : Heap) (gi : Int),
  Nt L N → seen.length = N → u < N → (∀ v : Nat, v < N → ((v : Int) = gi ↔ v = g)) → s ≠ g → sn seen u = false → sn seen g = false → Pth L s ks u am seen → un seen ≤ m → gok h ks.length 1 (vals ks) → New w0 w (GX b bs L ks T (seen, h)) →
  Calls Try.prog 65 #[.agg #[.slice (some ⟨b, 0, none⟩) L.length cl, .int .i64 gi, .slice (some ⟨bs, 0, none⟩) N N], .int .i64 u, .agg #[gval h ks.length, .int .i64 am]] w
    (PostP (fun _ : List Bool × HD => .tuple #[]) (FX L g u seen h ks) (GX b bs L ks T) WV.val (FY L s g) (GY b L T) w0)
theorem perm_a (x y z : Nat × Obj) (A T : Heap) : List.Perm (y :: z :: (x :: (A ++ T))) (x :: (A ++ (y :: z :: T))) := by
  refine List.Perm.trans ?_ ((List.perm_middle (a := y) (l₁ := A) (l₂ := z :: T)).symm.cons x)
  refine List.Perm.trans ?_ (((List.perm_middle (a := z) (l₁ := A) (l₂ := T)).symm.cons y).cons x)
  refine List.Perm.trans (List.Perm.cons y (List.Perm.swap x z _)) ?_
  exact List.Perm.swap x y _
theorem perm_b (x y z : Nat × Obj) (A T : Heap) : List.Perm (A ++ (y :: z :: (x :: T))) (y :: z :: (x :: (A ++ T))) := by
  refine (List.perm_middle (a := y) (l₁ := A)).trans (List.Perm.cons y ?_)
  refine (List.perm_middle (a := z) (l₁ := A)).trans (List.Perm.cons z ?_)
  exact List.perm_middle (a := x) (l₁ := A)
theorem perm_c (y z : Nat × Obj) (A T : Heap) : List.Perm (A ++ (y :: z :: T)) (y :: z :: (A ++ T)) :=
  (List.perm_middle (a := y) (l₁ := A)).trans (List.Perm.cons y (List.perm_middle (a := z) (l₁ := A)))
theorem rec_call {m : Nat} (ih : VOk m) {w0 w : World} {b cl bs N k : Nat} {L : List Fl.E} {seen2 : List Bool} {g nx s : Nat} {h hx : HD} {ks : List Nat} {am gi : Int} {T B3 : Heap} {bN cN : Nat} {spN : List Value} {G2 : Heap}
    (hnt : Nt L N) (hl : seen2.length = N) (hu : nx < N) (hg : ∀ v : Nat, v < N → ((v : Int) = gi ↔ v = g)) (hsg : s ≠ g) (hns : sn seen2 nx = false) (hgs : sn seen2 g = false) (hp : Pth L s (ks ++ [k]) nx am seen2) (hm : un seen2 ≤ m)
    (hxo : gok hx ks.length 1 (vals ks)) (hxv : gval hx ks.length = gval h ks.length)
    (hA : AK hx (vals ks) (.int .i64 k) ks.length (B3 ++ GX b bs L ks T (seen2, hx)) (B3 ++ ((b, rsO L) :: (bs, Obj.cells (boolsA seen2) 4 (0, 0)) :: T)) bN cN spN G2)
    (hN : New w0 w ((bN, Obj.cells (vals ks ++ [Value.int .i64 k] ++ spN).toArray 3 (0, 0)) :: G2)) :
    Calls Try.prog 65 #[.agg #[.slice (some ⟨b, 0, none⟩) L.length cl, .int .i64 gi, .slice (some ⟨bs, 0, none⟩) N N], .int .i64 nx, .agg #[.slice (some ⟨bN, 0, none⟩) (ks.length + 1) cN, .int .i64 am]] w
      (fun e w' => (∃ x : List Bool × HD, e = .returned (.tuple #[]) ∧ FX L g nx seen2 h ks x ∧ New w0 w' (B3 ++ GX b bs L ks T x)) ∨ (∃ y : WV, e = .panicked [{ v := y.val, recovered := false }] ∧ FY L s g y ∧ New w0 w' (GY b L T y))) := by
  have hlen : (ks ++ [k]).length = ks.length + 1 := by simp
  have hsh : ∀ {b' c' : Nat} {sp' : List Value}, gval (some (b', c', sp')) (ks ++ [k]).length = .slice (some ⟨b', 0, none⟩) (ks.length + 1) c' := fun {_ _ _} => by rw [hlen]; rfl
  rcases hA with ⟨s0, e1, rfl⟩ | ⟨rfl, hk⟩
  · subst e1
    have hok : gok (some (bN, cN, spN)) (ks ++ [k]).length 1 (vals (ks ++ [k])) := by
      obtain ⟨q1, q2, q3⟩ := hxo
      rw [vals_len] at q2
      simp only [List.length_cons] at q2
      exact ⟨by rw [vals_len]; omega, by rw [vals_len, hlen]; omega, by rw [hlen]; omega⟩
    have hN2 : New w0 w (GX b bs L (ks ++ [k]) (B3 ++ T) (seen2, some (bN, cN, spN))) := by
      refine hN.perm ?_
      unfold GX gblk
      rw [vals_app]
      simp only [List.singleton_append]
      exact perm_a _ _ _ _ _
    have := ih w0 w b cl bs N L seen2 g nx s (some (bN, cN, spN)) (ks ++ [k]) am (B3 ++ T) gi hnt hl hu hg hsg hns hgs hp hm hok hN2
    rw [hsh] at this
    refine this.mono fun e w' hr => ?_
    rcases hr with ⟨x, rfl, ⟨f1, f2, f3⟩, f4⟩ | ⟨y, rfl, f1, f4⟩
    · left
      obtain ⟨sn3, h3⟩ := x
      cases h3 with
      | none => rw [hsh] at f3; simp [gval] at f3
      | some hh =>
        obtain ⟨b3, c3, sp3⟩ := hh
        rw [hsh, hsh] at f3
        simp only [Value.slice.injEq, Option.some.injEq, Addr.mk.injEq, and_true, true_and] at f3
        obtain ⟨rfl, rfl⟩ := f3
        obtain ⟨q1, q2, q3⟩ := f2
        rw [vals_len, hlen] at q2
        refine ⟨(sn3, some (b3, c3, .int .i64 k :: sp3)), rfl, ⟨f1, ⟨by rw [vals_len]; omega, by rw [vals_len]; simp only [List.length_cons]; omega, by rw [hlen] at q3; omega⟩, hxv⟩, f4.perm ?_⟩
        unfold GX gblk
        rw [vals_app]
        simp only [List.singleton_append, List.append_assoc]
        exact perm_b _ _ _ _ _
    · right
      exact ⟨y, rfl, f1, f4.sub (List.Sublist.cons_cons _ (List.Sublist.cons_cons _ (List.sublist_append_right _ _)))⟩
  · have hok : gok (some (bN, cN, spN)) (ks ++ [k]).length 1 (vals (ks ++ [k])) := by rw [vals_app, hlen]; exact hk
    have hN2 : New w0 w (GX b bs L (ks ++ [k]) (B3 ++ (gblk hx 3 (vals ks) ++ T)) (seen2, some (bN, cN, spN))) := by
      refine hN.perm ?_
      show List.Perm (_ :: _ :: ([_] ++ _)) _
      rw [vals_app]
      simp only [List.singleton_append]
      exact perm_a _ _ _ _ _
    have := ih w0 w b cl bs N L seen2 g nx s (some (bN, cN, spN)) (ks ++ [k]) am (B3 ++ (gblk hx 3 (vals ks) ++ T)) gi hnt hl hu hg hsg hns hgs hp hm hok hN2
    rw [hsh] at this
    refine this.mono fun e w' hr => ?_
    rcases hr with ⟨x, rfl, ⟨f1, f2, f3⟩, f4⟩ | ⟨y, rfl, f1, f4⟩
    · left
      refine ⟨(x.1, hx), rfl, ⟨f1, hxo, hxv⟩, ?_⟩
      have f5 : New w0 w' ((b, rsO L) :: (bs, Obj.cells (boolsA x.1) 4 (0, 0)) :: (B3 ++ (gblk hx 3 (vals ks) ++ T))) := f4.sub (List.Sublist.cons_cons _ (List.Sublist.cons_cons _ (List.sublist_append_right _ _)))
      refine f5.perm ?_
      exact perm_c _ _ _ _
    · right
      exact ⟨y, rfl, f1, f4.sub (List.Sublist.cons_cons _ (List.Sublist.cons_cons _ ((List.sublist_append_right _ _).trans (List.sublist_append_right _ _))))⟩


set_option maxRecDepth 100000 in
set_option maxHeartbeats 2000000 in
theorem visit_step (m : Nat) (ih : VOk m) : VOk (m + 1) := by
  intro w0 w b cl bs N L seen g u s h ks am T gi hnt hsl hu hg hsg hus hgs hp hm hok hN
  have hn8 := hnt.n8
  have hn16 := hnt.len
  have hcnt := hp.cnt
  have hunset := un_set (seen := seen) (u := u) (by omega) hus
  refine callsM hN Try.func65 rfl (n := 58) rfl (by simp) ?_
  refine TC.seq ?_
  refine TC.region ?_
  refine TL.box rfl rfl (by decide) (fun b0 hb0 => ?_)
  refine TL.box rfl rfl (by decide) (fun b1 hb1 => ?_)
  refine TL.nil ?_
  refine TQ.thenC ?_
  refine TC.seq ?_
  refine TC.seq ?_
  refine TC.region ?_
  refine TL.pure (PV.move rfl) rfl (by decide) ?_
  refine TL.pure (PV.fieldAddr rfl Tb.fo_72_1) rfl (by decide) ?_
  refine TL.pure (PV.load rfl Tb.one_3 (by repeat (first | exact List.Mem.head _ | refine List.Mem.tail _ ?_ | refine List.mem_append_right _ ?_)) rfl) rfl (by decide) ?_
  refine TL.pure (PV.eql rfl rfl) rfl (by decide) ?_
  refine TL.nil ?_
  refine TQ.thenC ?_
  first | refine TC.condD rfl (fun hug => ?_) (fun hug => ?_) | refine TC.cond rfl (fun hug => ?_) (fun hug => ?_)
  · skip
    have hug9 : u = g := (hg u hu).1 hug
    obtain ⟨bh, ch, sp, rfl⟩ : ∃ bh ch sp, h = some (bh, ch, sp) := by
      cases h with
      | none =>
        exfalso
        have h0 : ks = [] := List.length_eq_zero_iff.1 hok.2
        subst h0
        exact hsg ((show s = u from hp.way).trans hug9)
      | some hh => exact ⟨hh.1, hh.2.1, hh.2.2, rfl⟩
    refine TC.region ?_
    refine TL.pure (PV.loadBox rfl Tb.agg_68 (by repeat (first | exact List.Mem.head _ | refine List.Mem.tail _ ?_ | refine List.mem_append_right _ ?_)) rfl) rfl (by decide) ?_
    refine TL.pure (PV.makeIface rfl (by kernel_rfl)) rfl (by decide) ?_
    refine TL.panic (v := WV.val ⟨bh, ch, sp, ks, am⟩) rfl (by intro e; cases e) (fun w => rfl) rfl ?_
    repeat (first | refine TQ.panT ?_ | refine TQ.panB ?_)
    exact TQ.panP ⟨⟨bh, ch, sp, ks, am⟩, rfl, ⟨hug9 ▸ hp.way, hp.am, by show ks.length ≤ 8; omega⟩, List.Sublist.cons _ (List.Sublist.cons _ (List.Sublist.cons_cons _ (List.Sublist.cons _ (List.Sublist.refl _))))⟩
  · skip
    refine TC.skip ?_
    refine TQ.thenC ?_
    refine TC.seq ?_
    refine TC.region ?_
    refine TL.pure (PV.fieldAddr rfl Tb.fo_72_2) rfl (by decide) ?_
    refine TL.pure (PV.load rfl Tb.one_70 (by repeat (first | exact List.Mem.head _ | refine List.Mem.tail _ ?_ | refine List.mem_append_right _ ?_)) rfl) rfl (by decide) ?_
    refine TL.pure (PV.move rfl) rfl (by decide) ?_
    refine TL.pure (PV.index (j := u) rfl rfl Tb.elm_70 rfl (by omega)) rfl (by decide) ?_
    refine TL.storeBo (bs := seen) u rfl (off1 _) rfl Tb.cells_4 (by repeat (first | exact Upd.head _ | apply Upd.tail | apply Upd.appR)) (by omega) rfl rfl ?_
    refine TL.nil ?_
    refine TQ.thenC ?_
    refine TC.seq ?_
    refine TC.region ?_
    refine TL.pure (PV.fieldAddr rfl Tb.fo_72_0) rfl (by decide) ?_
    refine TL.pure (PV.load rfl Tb.one_65 (by repeat (first | exact List.Mem.head _ | refine List.Mem.tail _ ?_ | refine List.mem_append_right _ ?_)) rfl) rfl (by decide) ?_
    refine TL.pure (PV.len rfl Tb.sl_65) rfl (by decide) ?_
    refine TL.pure (PV.move rfl) rfl (by decide) ?_
    refine TL.nil ?_
    refine TQ.thenC ?_
    refine TC.block ?_
    refine TC.loopK [1, 3, 5, 21] (X := Nat × List Bool × HD) (fun x => x.1 ≤ L.length ∧ Sch L g u seen x.2.1 x.1 ∧ gok x.2.2 ks.length 1 (vals ks) ∧ gval x.2.2 ks.length = gval h ks.length) (fun x => [(22, .int .i64 (x.1 : Nat))]) (fun x => (b1, Obj.cells #[gval h ks.length, .int .i64 am] 68 (0, 0)) :: (b0, Obj.cells #[.slice (some ⟨b, 0, none⟩) L.length cl, .int .i64 gi, .slice (some ⟨bs, 0, none⟩) N N] 72 (0, 0)) :: (b, rsO L) :: (bs, Obj.cells (boolsA x.2.1) 4 (0, 0)) :: (gblk x.2.2 3 (vals ks) ++ T)) (fun x => L.length - x.1) (0, seen.set u true, h) ⟨Nat.zero_le _, Sch.zero (by omega) hgs (fun e => hug ((hg u hu).2 e)), hok, rfl⟩ (by repeat (first | exact True.intro | refine And.intro rfl ?_)) (List.Sublist.refl _) ?_
    intro x hx
    have hx1 := hx.1
    refine TC.seq ?_
    refine TC.region ?_
    refine TL.pure (PV.lss rfl rfl) rfl (by decide) ?_
    refine TL.nil ?_
    refine TQ.thenC ?_
    refine TC.seq ?_
    first | refine TC.condD rfl (fun hlt => ?_) (fun hlt => ?_) | refine TC.cond rfl (fun hlt => ?_) (fun hlt => ?_)
    · skip
      refine TC.skip ?_
      refine TQ.thenC ?_
      refine TC.seq ?_
      refine TC.block ?_
      refine TC.seq ?_
      have hk : x.1 < L.length := by omega
      have hxk := hx.2.1
      have hl2 : x.2.1.length = N := hxk.len.trans hsl
      have hbd : 0 ≤ (L.getD x.1 default).r ∧ (L.getD x.1 default).r ≤ (L.getD x.1 default).w ∧ (L.getD x.1 default).w ≤ 20 := by rw [getD_get hk]; exact hnt.bd _ (List.getElem_mem hk)
      refine TC.region ?_
      refine TL.pure (PV.move rfl) rfl (by decide) ?_
      refine TL.pure (PV.assign rfl) rfl (by decide) ?_
      refine TL.nil ?_
      refine TQ.thenC ?_
      refine TC.seq ?_
      refine TC.region ?_
      refine TL.pure (PV.fieldAddr rfl Tb.fo_72_0) rfl (by decide) ?_
      refine TL.pure (PV.load rfl Tb.one_65 (by repeat (first | exact List.Mem.head _ | refine List.Mem.tail _ ?_ | refine List.mem_append_right _ ?_)) rfl) rfl (by decide) ?_
      refine TL.pure (PV.move rfl) rfl (by decide) ?_
      refine TL.pure (PV.index (j := x.1) rfl rfl Tb.elm_65 rfl (by omega)) rfl (by decide) ?_
      refine TL.pure (PV.move rfl) rfl (by decide) ?_
      refine TL.call rfl Tb.gofn_89 (fun a w hs => onward_ok w b (0 + x.1 * 4) (L.getD x.1 default) u (E4At.own hs.new (by repeat (first | exact List.Mem.head _ | refine List.Mem.tail _ ?_ | refine List.mem_append_right _ ?_)) hk) hbd) rfl (by decide) (fun _ _ => ?_)
      refine TL.pure (PV.move rfl) rfl (by decide) ?_
      refine TL.pure (PV.extract rfl rfl) rfl (by decide) ?_
      refine TL.pure (PV.extract rfl rfl) rfl (by decide) ?_
      refine TL.pure (PV.assign rfl) rfl (by decide) ?_
      refine TL.pure (PV.assign rfl) rfl (by decide) ?_
      refine TL.nil ?_
      refine TQ.thenC ?_
      refine TC.seq ?_
      have hnd : (L.getD x.1 default).f < N ∧ (L.getD x.1 default).t < N := by rw [getD_get hk]; exact hnt.nd _ (List.getElem_mem hk)
      have hnx : 0 < (Fl.onw (L.getD x.1 default) u).2 → (Fl.onw (L.getD x.1 default) u).1 < N := fun hr => by
        rcases (onw_end hr).2.1 with e | e
        · rw [e]; exact hnd.1
        · rw [e]; exact hnd.2
      refine TC.region ?_
      refine TL.pure (PV.move rfl) rfl (by decide) ?_
      refine TL.pure (PV.gtr rfl rfl) rfl (by decide) ?_
      refine TL.pure (PV.move rfl) rfl (by decide) ?_
      first | refine TL.splitD 36 rfl (fun hr => ?_) (fun hr => ?_) | refine TL.split 36 rfl (fun hr => ?_) (fun hr => ?_)
      · skip
        refine TL.pure (PV.fieldAddr rfl Tb.fo_72_2) rfl (by decide) ?_
        refine TL.pure (PV.load rfl Tb.one_70 (by repeat (first | exact List.Mem.head _ | refine List.Mem.tail _ ?_ | refine List.mem_append_right _ ?_)) rfl) rfl (by decide) ?_
        refine TL.pure (PV.move rfl) rfl (by decide) ?_
        refine TL.pure (PV.index (j := (Fl.onw (L.getD x.1 default) u).1) rfl rfl Tb.elm_70 rfl (hnx hr)) rfl (by decide) ?_
        refine TL.pure (PV.loadBo (Fl.onw (L.getD x.1 default) u).1 rfl (off1 _) Tb.one_4 (by repeat (first | exact List.Mem.head _ | refine List.Mem.tail _ ?_ | refine List.mem_append_right _ ?_)) (by have := hnx hr; omega)) rfl (by decide) ?_
        refine TL.pure ((by first | exact PV.notD rfl | exact PV.not rfl)) rfl (by decide) ?_
        refine TL.pure (PV.pickT rfl rfl) rfl (by decide) ?_
        refine TL.nil ?_
        refine TQ.thenC ?_
        first | refine TC.condD rfl (fun hgo => ?_) (fun hgo => ?_) | refine TC.cond rfl (fun hgo => ?_) (fun hgo => ?_)
        · skip
          have hgo9 : (!sn x.2.1 (Fl.onw (L.getD x.1 default) u).1) = true := hgo
          have hns : sn x.2.1 (Fl.onw (L.getD x.1 default) u).1 = false := by simpa using hgo9
          have hp2 := hp.step hnt hsl hl2 hu hus hk hxk.up hr hns
          have hm2 : un x.2.1 ≤ m := by have := un_mono (a := seen.set u true) (b := x.2.1) (by rw [List.length_set]; omega) hxk.up; omega
          refine TC.mixV [true, true, true, true, true, false, false, true, true, true, true, true, false] [(b1, Obj.cells #[gval h ks.length, .int .i64 am] 68 (0, 0)), (b0, Obj.cells #[.slice (some ⟨b, 0, none⟩) L.length cl, .int .i64 gi, .slice (some ⟨bs, 0, none⟩) N N] 72 (0, 0))] 13 Tb.mixed rfl (by kernel_rfl) (by kernel_rfl) (by kernel_rfl) (by kernel_rfl) (by repeat (first | exact List.Sublist.slnil | exact List.nil_sublist _ | exact List.Sublist.refl _ | refine List.Sublist.cons_cons _ ?_ | refine List.Sublist.cons _ ?_ | refine List.Sublist.trans ?_ (List.sublist_append_right _ _))) ?_
          refine TV.virt 0 rfl rfl (by decide) rfl (by kernel_rfl) (SOK.pure (PV.loadBox rfl Tb.agg_72 (by repeat (first | exact List.Mem.head _ | refine List.Mem.tail _ ?_ | refine List.mem_append_right _ ?_)) rfl) rfl) ?_
          refine TV.virt 1 rfl rfl (by decide) rfl (by kernel_rfl) (SOK.pure (PV.move rfl) rfl) ?_
          refine TV.virt 2 rfl rfl (by decide) rfl (by kernel_rfl) (SOK.pure (PV.fieldAddr rfl Tb.fo_68_0) rfl) ?_
          refine TV.virt 3 rfl rfl (by decide) rfl (by kernel_rfl) (SOK.pure (PV.load rfl Tb.one_25 (by repeat (first | exact List.Mem.head _ | refine List.Mem.tail _ ?_ | refine List.mem_append_right _ ?_)) rfl) rfl) ?_
          refine TV.virt 4 rfl rfl (by decide) rfl (by kernel_rfl) (SOK.pure (PV.move rfl) rfl) ?_
          refine TV.virt 7 rfl rfl (by decide) rfl (by kernel_rfl) (SOK.pure (PV.fieldAddr rfl Tb.fo_68_1) rfl) ?_
          refine TV.virt 8 rfl rfl (by decide) rfl (by kernel_rfl) (SOK.pure (PV.load rfl Tb.one_3 (by repeat (first | exact List.Mem.head _ | refine List.Mem.tail _ ?_ | refine List.mem_append_right _ ?_)) rfl) rfl) ?_
          refine TV.virt 9 rfl rfl (by decide) rfl (by kernel_rfl) (SOK.pure (PV.move rfl) rfl) ?_
          refine TV.virt 10 rfl rfl (by decide) rfl (by kernel_rfl) (SOK.pure (PV.min rfl rfl Tb.int_3) rfl) ?_
          refine TV.step [5] (by kernel_rfl) (by decide) rfl ⟨⟨_, rfl, ?_⟩, trivial⟩
          refine TL.buildSlice (cs := #[.int .i64 (x.1 : Nat)]) rfl Tb.sl_25 Tb.zi_3 (by decide) (fill_i _) (by decide) rfl (by decide) (fun bE hbE => ?_)
          refine TL.nil ?_
          refine TV.next (.inl (by repeat (first | exact List.Sublist.slnil | exact List.nil_sublist _ | exact List.Sublist.refl _ | refine List.Sublist.cons_cons _ ?_ | refine List.Sublist.cons _ ?_ | refine List.Sublist.trans ?_ (List.sublist_append_right _ _)))) ?_
          refine TV.step [6] (by kernel_rfl) (by decide) rfl ⟨⟨_, rfl, ?_⟩, trivial⟩
          refine TL.appendP (h0 := x.2.2) (ys := vals ks) (v := .int .i64 (x.1 : Nat)) (by rw [hx.2.2.2]; rfl) rfl Tb.sl_25 Tb.sl_25 Tb.zi_3 rfl hx.2.2.1 (by repeat (first | exact TakeH.here _ _ _ _ | apply TakeH.tail | apply TakeH.app)) (.head _) rfl (by omega) (by decide) rfl (by decide) (fun bN cN spN G2 hAK => ?_)
          refine TL.nil ?_
          refine TV.next (.inl (by rcases hAK with ⟨_, _, rfl⟩ | ⟨rfl, _⟩ <;> exact List.Sublist.cons _ (List.Sublist.cons _ (List.Sublist.cons_cons _ (List.Sublist.cons_cons _ (List.nil_sublist _)))))) ?_
          refine TV.virt 11 rfl rfl (by decide) rfl (by kernel_rfl) (SOK.pure (PV.build rfl Tb.zero_68 Tb.pl_68 rfl) rfl) ?_
          refine TV.step [12] (by kernel_rfl) (by decide) rfl ⟨⟨_, rfl, ?_⟩, trivial⟩
          refine TL.callPan (X := List Bool × HD) (Y := WV) (fun _ => .tuple #[]) (FX L g (Fl.onw (L.getD x.1 default) u).1 x.2.1 h ks) (fun y => [(bE, Obj.cells #[.int .i64 (x.1 : Nat)] 3 (0, 0)), (b1, Obj.cells #[gval h ks.length, .int .i64 am] 68 (0, 0)), (b0, Obj.cells #[.slice (some ⟨b, 0, none⟩) L.length cl, .int .i64 gi, .slice (some ⟨bs, 0, none⟩) N N] 72 (0, 0))] ++ GX b bs L ks T y) WV.val (FY L s g) (GY b L T) rfl Tb.gofn_65 (fun a w hs => rec_call (B3 := [(bE, Obj.cells #[.int .i64 (x.1 : Nat)] 3 (0, 0)), (b1, Obj.cells #[gval h ks.length, .int .i64 am] 68 (0, 0)), (b0, Obj.cells #[.slice (some ⟨b, 0, none⟩) L.length cl, .int .i64 gi, .slice (some ⟨bs, 0, none⟩) N N] 72 (0, 0))]) ih hnt hl2 (hnx hr) hg hsg hns hx.2.1.goal hp2 hm2 hx.2.2.1 hx.2.2.2 hAK hs.new) rfl (by decide) (fun y9 hy9 => ?_) (fun z9 hz9 => by
            repeat (first | refine TQ.panT ?_ | refine TQ.panB ?_ | refine TQ.panM ?_)
            exact TQ.panP ⟨z9, rfl, hz9, List.Sublist.refl _⟩)
          refine TL.nil ?_
          refine TV.next (.inl (by repeat (first | exact List.Sublist.slnil | exact List.nil_sublist _ | exact List.Sublist.refl _ | refine List.Sublist.cons_cons _ ?_ | refine List.Sublist.cons _ ?_ | refine List.Sublist.trans ?_ (List.sublist_append_right _ _)))) ?_
          refine TV.done (by kernel_rfl) ?_
          refine TQ.blkN ?_
          refine TQ.thenC ?_
          refine TC.region ?_
          refine TL.pure (PV.add rfl rfl (by omega)) rfl (by decide) ?_
          refine TL.pure (PV.move rfl) rfl (by decide) ?_
          refine TL.nil ?_
          refine TQ.thenN ?_
          refine TQ.backK (x.1 + 1, y9.1, y9.2) (by repeat (first | exact True.intro | refine And.intro rfl ?_)) (by repeat (first | exact True.intro | refine And.intro rfl ?_)) (List.Sublist.cons _ (List.Sublist.refl _)) ⟨by simp only; omega, hx.2.1.go hk hr hy9.1, hy9.2.1, hy9.2.2⟩ (by simp only; omega)
        · skip
          refine TC.skip ?_
          refine TQ.blkN ?_
          refine TQ.thenC ?_
          refine TC.region ?_
          refine TL.pure (PV.add rfl rfl (by omega)) rfl (by decide) ?_
          refine TL.pure (PV.move rfl) rfl (by decide) ?_
          refine TL.nil ?_
          refine TQ.thenN ?_
          refine TQ.backK (x.1 + 1, x.2.1, x.2.2) (by repeat (first | exact True.intro | refine And.intro rfl ?_)) (by repeat (first | exact True.intro | refine And.intro rfl ?_)) (List.Sublist.refl _) ⟨by simp only; omega, hx.2.1.skip (fun hh => by have h1 := hh.2; unfold sn at h1; rw [h1] at hgo; exact absurd hgo (by decide)), hx.2.2.1, hx.2.2.2⟩ (by simp only; omega)
      · skip
        refine TL.skip rfl (fun k hk => by cases hk; decide) ?_
        refine TL.skip rfl (fun k hk => by cases hk; decide) ?_
        refine TL.skip rfl (fun k hk => by cases hk; decide) ?_
        refine TL.skip rfl (fun k hk => by cases hk; decide) ?_
        refine TL.skip rfl (fun k hk => by cases hk; decide) ?_
        refine TL.skip rfl (fun k hk => by cases hk; decide) ?_
        refine TL.pure (PV.pickF rfl rfl) rfl (by decide) ?_
        refine TL.nil ?_
        refine TQ.thenC ?_
        refine TC.condF rfl ?_
        refine TC.skip ?_
        refine TQ.blkN ?_
        refine TQ.thenC ?_
        refine TC.region ?_
        refine TL.pure (PV.add rfl rfl (by omega)) rfl (by decide) ?_
        refine TL.pure (PV.move rfl) rfl (by decide) ?_
        refine TL.nil ?_
        refine TQ.thenN ?_
        refine TQ.backK (x.1 + 1, x.2.1, x.2.2) (by repeat (first | exact True.intro | refine And.intro rfl ?_)) (by repeat (first | exact True.intro | refine And.intro rfl ?_)) (List.Sublist.refl _) ⟨by simp only; omega, hx.2.1.skip (fun hh => hr hh.1), hx.2.2.1, hx.2.2.2⟩ (by simp only; omega)
    · skip
      refine TC.exit ?_
      refine TQ.thenE ?_
      refine TQ.thenE ?_
      refine TQ.blkS ?_
      refine TQ.retPN ?_
      refine TQ.retN rfl (Res.nil) ?_
      exact ⟨(x.2.1, x.2.2), rfl, ⟨hx.2.1.done (by omega) (by omega), hx.2.2.1, hx.2.2.2⟩, List.Sublist.cons _ (List.Sublist.cons _ (List.Sublist.refl _))⟩

end Go.Proofs.Ytnlbngbbddhgeaa
