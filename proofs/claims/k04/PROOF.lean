import PyProof.Rows.All
import Wide.All
import OpenK.AllK
import Wide.FinOn
import KE.DatumOrd
import KE.KEqSeq
import HandS.Base
import HandS.Call
import HandS.List
import HandS.Comp
import HandS.Iter
import HandS.Ends
import HandS.Words
import HandS.SortKw
import HandS.SortInts
import HandS.IsInst
import HandS.Style
import HandS.Evl
import HandS.Star
import HandS.SetFor
import HandS.Exc
import HandS.ExcOwn
import HandS.ExcValue
import HandS.ExcIs
import HandS.TryOnly
import HandS.WordsExc
import PyProof.Rows.CountFlat
import PySem.Challenge.RW_stairparts_k04_boxes_let_down
set_option Elab.async false
set_option linter.all false
set_option maxRecDepth 100000
set_option maxHeartbeats 2000000
namespace XP
open PySem PySem.Spec PyProof.Rows L2
/-! ### max(xs, default=d) over a list of whole numbers -/
theorem fold_max (x : Int) : ∀ xs : List Int, (xs.foldl (fun a y => if decide (a < y) = true then y else a) x ∈ x :: xs) ∧ ∀ y ∈ x :: xs, y ≤ xs.foldl (fun a y => if decide (a < y) = true then y else a) x := by
  intro xs
  induction xs generalizing x with
  | nil => exact ⟨List.mem_cons_self, fun y hy => by simp at hy; simp [hy]⟩
  | cons z r ih =>
    rw [List.foldl_cons]
    by_cases c : x < z
    · rw [if_pos (decide_eq_true c)]
      obtain ⟨h1, h2⟩ := ih z
      refine ⟨List.mem_cons_of_mem _ h1, fun y hy => ?_⟩
      rcases List.mem_cons.mp hy with e | hy
      · have := h2 z List.mem_cons_self
        omega
      · exact h2 y hy
    · rw [if_neg (by simpa using c)]
      obtain ⟨h1, h2⟩ := ih x
      refine ⟨?_, fun y hy => ?_⟩
      · rcases List.mem_cons.mp h1 with e | h
        · rw [e]; exact List.mem_cons_self
        · exact List.mem_cons_of_mem _ (List.mem_cons_of_mem _ h)
      · rcases List.mem_cons.mp hy with e | hy
        · rw [e]; exact h2 x List.mem_cons_self
        · rcases List.mem_cons.mp hy with e | hy
          · have := h2 x List.mem_cons_self
            omega
          · exact h2 y (List.mem_cons_of_mem _ hy)
theorem readsAll_ints (h : Heap) : ∀ {vs : List Value} {ns : List Int}, IntsAre vs ns → ReadsAll h vs (ns.map (PySem.W.Datum.toD (α := Int))) []
  | _, _, .nil => .nil
  | _, _, .cons n t r => by
    rw [List.map_cons]
    exact ReadsAll.cons (as := []) (bs := []) (.int n t) (readsAll_ints h r)
def rMaxD (K : PySem.W.Frag) : List V → List V → Hp → VK → Prop := fun vs zs H Q => ∃ (a : Addr) (ns : List Int) (d : Int), vs = [V.ref a] ∧ zs = [.int d] ∧ SqL K H a (ns.map V.int) ∧
  (ns = [] → Q (.int d) H) ∧ ∀ m, m ∈ ns → (∀ y, y ∈ ns → y ≤ m) → Q (.int m) H
theorem cr_maxD {X : Cx} (hc : X.calm = true) (hu : X.A.units + 2 < cLine) : CallRK X (.builtin "max") [Str.ofString "default"] (rMaxD X.K) := by
  intro pins s σ H vs zs us ws Q I r rz h
  obtain ⟨a, ns, d, rfl, rfl, hs, q0, q⟩ := h
  obtain ⟨its, rv, hl, _⟩ := I.list hs
  rw [Vals.ref1 r]
  obtain ⟨w1, rfl, t1, rfl⟩ := vals1 rz
  refine PySem.W.max_list_datum_default (α := Int) (I.ok.hd hc) hl.isList ⟨[], readsAll_ints _ rv.ints⟩ (by show X.A.units + 1 + 0 < cLine; omega) (fun e h' tk hk => ⟨.int d, H, I.kept hk, ⟨_, rfl⟩, q0 e⟩) fun y ys i v h' tk e hi hd hk => ?_
  obtain ⟨as, hr⟩ := hd
  obtain ⟨g1, g2⟩ := fold_max y ys
  have hr' : Reads h' v (.int (ys.foldl (fun a y => if decide (a < y) = true then y else a) y)) as := hr
  cases hr' with
  | int _ t => exact ⟨.int _, H, I.kept hk, ⟨_, rfl⟩, q _ (by rw [e]; exact g1) (by rw [e]; exact g2)⟩
end XP
/-! ## Short words over the hand layer: what evaluates to what -/
open PySem in
theorem L2.Room.two {k : Nat} {A : PySem.Around} (r : L2.Room k A) : A.units + 2 < cLine := by
  have := r.un
  omega
namespace XP
open PySem PySem.Spec PyProof.Rows L2
/-! ### the rules that name the written part K, by a K of one's own (within comprehensions) -/
section
variable {X : Cx} {K : PySem.W.Frag}
theorem isiK (h : X.K = K) : CallR X (.builtin "isinstance") (rIsi K) := h ▸ call_isi
def rLenK (K : PySem.W.Frag) : List V → Hp → VK → Prop := fun xs H Q => ∃ p ys, xs = [.ref p] ∧ (SqL K H p ys ∨ SqT K H p ys) ∧ Q (.int ys.length) H
theorem lenK (h : X.K = K) : CallR X (.builtin "len") (rLenK K) := h ▸ call_len_seq
theorem sumK (h : X.K = K) (hc : X.calm = true) : CallR X (.builtin "sum") (rSum K) := h ▸ cr_sum hc
theorem maxK (h : X.K = K) (hc : X.calm = true) : CallR X (.builtin "max") (rMax K) := h ▸ cr_max hc
theorem minK (h : X.K = K) (hc : X.calm = true) : CallR X (.builtin "min") (rMin K) := h ▸ cr_min hc
theorem allK (h : X.K = K) (hc : X.calm = true) : CallR X (.builtin "all") (rAll K) := h ▸ cr_all hc
theorem anyK (h : X.K = K) (hc : X.calm = true) : CallR X (.builtin "any") (rAny K) := h ▸ cr_any hc
theorem sortedK (h : X.K = K) : CallR X (.builtin "sorted") (rSortedI K) := h ▸ cr_sortedI
def rListK (K : PySem.W.Frag) : List V → Hp → VK → Prop := fun xs H Q => ∃ p ys, xs = [.ref p] ∧ (SqL K H p ys ∨ SqT K H p ys) ∧ ∀ l, H l = none → Q (.ref l) (upd H l (.lst ys))
theorem listK (h : X.K = K) : CallR X (.type "list") (rListK K) := h ▸ call_list_of
theorem ixlK (h : X.K = K) : IxR X (rIxL K) := h ▸ ix_list
theorem ixtK (h : X.K = K) : IxR X (rIxT K) := h ▸ ix_tup
theorem eqK (h : X.K = K) (hu : X.A.units + 64 < cLine) : OpR X (compareOp .Eq) (rEqD K) := h ▸ op_eqD hu
theorem neK (h : X.K = K) (hu : X.A.units + 64 < cLine) : OpR X (compareOp .NotEq) (rNeD K) := h ▸ op_neD hu
theorem inK (h : X.K = K) : OpR X (compareOp .In) (rIn K false) := h ▸ op_in_seq
theorem notInK (h : X.K = K) : OpR X (compareOp .NotIn) (rIn K true) := h ▸ op_notIn_seq
theorem sllK (h : X.K = K) : SlR X (rSlL K) := h ▸ sl_list
theorem maxDK (h : X.K = K) (hc : X.calm = true) (hu : X.A.units + 2 < cLine) : CallRK X (.builtin "max") [Str.ofString "default"] (rMaxD K) := h ▸ cr_maxD hc hu
end
end XP
namespace XP
open PySem PySem.Spec PyProof.Rows L2 Evl
/-- a list of whole numbers stands at a -/
abbrev Ll (H : Hp) (a : Addr) (ns : List Int) : Prop := H a = some (.lst (ns.map V.int))
theorem Ll.sq {K : PySem.W.Frag} {H : Hp} {a : Addr} {ns : List Int} (h : Ll H a ns) : SqL K H a (ns.map V.int) := .inl (.inl h)
theorem map_int_inj : ∀ {xs ys : List Int}, xs.map V.int = ys.map V.int → xs = ys
  | [], [], _ => rfl
  | [], _ :: _, h => by simp at h
  | _ :: _, [], h => by simp at h
  | x :: xs, y :: ys, h => by
    rw [List.map_cons, List.map_cons] at h
    injection h with h1 h2
    injection h1 with h1
    rw [h1, map_int_inj h2]
theorem get_int {ns : List Int} {i : Nat} {v : V} (h : (ns.map V.int)[i]? = some v) : ∃ z, ns[i]? = some z ∧ v = .int z := by
  rw [List.getElem?_map] at h
  cases e : ns[i]? with
  | none => rw [e] at h; cases h
  | some z => rw [e] at h; cases h; exact ⟨z, rfl, rfl⟩
theorem take_one {α : Type} {l : List α} {i : Nat} {x : α} (h : l[i]? = some x) : l.take (i + 1) = l.take i ++ [x] := by
  rw [List.take_add_one, h]
  rfl
theorem drop_one {α : Type} {l : List α} {i : Nat} {x : α} (h : l[i]? = some x) : l.drop i = x :: l.drop (i + 1) := by
  obtain ⟨hi, e⟩ := List.getElem?_eq_some_iff.mp h
  rw [List.drop_eq_getElem_cons hi, e]
theorem lt_of_get {α : Type} {l : List α} {i : Nat} {x : α} (h : l[i]? = some x) : i < l.length := (List.getElem?_eq_some_iff.mp h).1
/-! data -/
theorem dpall_ints {K : PySem.W.Frag} {H : Hp} : ∀ ns : List Int, DpAll K H (ns.map V.int) (ns.map PyData.int)
  | [] => .nil
  | n :: r => .cons (.int n) (dpall_ints r)
theorem dp_ints {K : PySem.W.Frag} {H : Hp} {a : Addr} {ns : List Int} (h : SqL K H a (ns.map V.int)) : Dp K H (.ref a) (.list (ns.map PyData.int)) := .lst h (dpall_ints ns)
theorem eqvAll_ints : ∀ xs ys : List Int, PyData.eqvAll (xs.map PyData.int) (ys.map PyData.int) = decide (xs = ys)
  | [], [] => by simp [PyData.eqvAll]
  | [], _ :: _ => by simp [PyData.eqvAll]
  | _ :: _, [] => by simp [PyData.eqvAll]
  | x :: xs, y :: ys => by
    show (PyData.eqv (.int x) (.int y) && PyData.eqvAll (xs.map PyData.int) (ys.map PyData.int)) = _
    rw [eqvAll_ints xs ys]
    rw [Bool.eq_iff_iff]
    simp [PyData.eqv]
theorem eqv_ints (xs ys : List Int) : PyData.eqv (.list (xs.map PyData.int)) (.list (ys.map PyData.int)) = decide (xs = ys) := by
  simp only [PyData.eqv]
  exact eqvAll_ints xs ys
theorem shaped_ints (ns : List Int) : SeqAt.shaped (.list (ns.map PyData.int)) = true := PySem.W.ke_shaped_ints ns
section
variable {K : PySem.W.Frag} {σ : L2.St} {H H' : Hp} {ta tb te tx : TE} {t u : TT} {x y z v : V} {r : R2} {a b p : Addr} {xs ys : List Int} {i j : Int}
/-! operators -/
theorem ev_rI0 {g : Int → Int → V} (ha : Ev ta σ H (.int i)) (hb : Ev tb σ H (.int j)) : Ev (tOp (rI0 g) ta tb) σ H (g i j) := ev_op ha hb rv_I0
theorem ev_rI {C : Int → Int → Prop} {g : Int → Int → V} (ha : Ev ta σ H (.int i)) (hb : Ev tb σ H (.int j)) (hc : C i j) : Ev (tOp (rI C g) ta tb) σ H (g i j) := ev_op ha hb (rv_I hc)
theorem ev_eq (ha : Ev ta σ H x) (hb : Ev tb σ H y) (h : scal x y = true) : Ev (tOp rEq ta tb) σ H (.bl (decide (x = y))) := ev_op ha hb (rv_eq h)
theorem ev_ne (ha : Ev ta σ H x) (hb : Ev tb σ H y) (h : scal x y = true) : Ev (tOp rNe ta tb) σ H (.bl (!decide (x = y))) := ev_op ha hb (rv_ne h)
theorem rv_eqL (h1 : SqL K H a (xs.map V.int)) (h2 : SqL K H b (ys.map V.int)) : RV (rEqD K) (.ref a) (.ref b) H (.bl (decide (xs = ys))) := fun H1 e Q q =>
  ⟨_, _, dp_ints (ex_l e h1), dp_ints (ex_l e h2), shaped_ints xs, shaped_ints ys, by rw [eqv_ints]; exact q H1 (Ex.refl H1)⟩
theorem rv_neL (h1 : SqL K H a (xs.map V.int)) (h2 : SqL K H b (ys.map V.int)) : RV (rNeD K) (.ref a) (.ref b) H (.bl (!decide (xs = ys))) := fun H1 e Q q =>
  ⟨_, _, dp_ints (ex_l e h1), dp_ints (ex_l e h2), shaped_ints xs, shaped_ints ys, by rw [eqv_ints]; exact q H1 (Ex.refl H1)⟩
/-- is None, is True -/
theorem ev_isN (ha : Ev ta σ H x) : Ev (tOp (fun x y H Q => y = .non ∧ Q (.bl (decide (x = .non))) H) ta (tC .non)) σ H (.bl (decide (x = .non))) := ev_op ha ev_c fun H1 _ _ q => ⟨rfl, q H1 (Ex.refl H1)⟩
theorem ev_notN (ha : Ev ta σ H x) : Ev (tOp (fun x y H Q => y = .non ∧ Q (.bl (!decide (x = .non))) H) ta (tC .non)) σ H (.bl (!decide (x = .non))) := ev_op ha ev_c fun H1 _ _ q => ⟨rfl, q H1 (Ex.refl H1)⟩
theorem ev_isB {c d : Bool} (ha : Ev ta σ H (.bl c)) (hb : Ev tb σ H (.bl d)) : Ev (tOp rIsB ta tb) σ H (.bl (decide (c = d))) := ev_op ha hb fun H1 _ _ q => ⟨c, d, rfl, rfl, q H1 (Ex.refl H1)⟩
theorem ev_notB {c d : Bool} (ha : Ev ta σ H (.bl c)) (hb : Ev tb σ H (.bl d)) : Ev (tOp rNotB ta tb) σ H (.bl (!decide (c = d))) := ev_op ha hb fun H1 _ _ q => ⟨c, d, rfl, rfl, q H1 (Ex.refl H1)⟩
/-! calls of built-ins, by values -/
theorem rc_isi {c : V} {t u : Value} {k : Bool} (hc : ClsV c u) (ht : ∀ H1, Ex H H1 → TyX K H1 x t) (hk : PySem.W.kitOne K t u = some k) : RC (rIsi K) [x, c] H (.bl k) := fun H1 e _ q =>
  ⟨x, c, t, u, k, rfl, hc, ht H1 e, hk, q H1 (Ex.refl H1)⟩
theorem rc_isiL {zs : List V} (h : H a = some (.lst zs)) : RC (rIsi K) [.ref a, .ty "list"] H (.bl true) := rc_isi (.ty _) (fun H1 e => .base (.lst (e a _ h))) (kit_ty (by decide +kernel))
theorem rc_isiInt : RC (rIsi K) [.int i, .ty "int"] H (.bl true) := rc_isi (.ty _) (fun _ _ => .base (.int _)) (kit_ty (by decide +kernel))
theorem rc_isiBool : RC (rIsi K) [.int i, .ty "bool"] H (.bl false) := rc_isi (.ty _) (fun _ _ => .base (.int _)) (kit_ty (by decide +kernel))
theorem rc_len {zs : List V} (h : SqL K H a zs) : RC (rLenK K) [.ref a] H (.int (zs.length : Int)) := fun H1 e _ q =>
  ⟨a, zs, rfl, .inl (ex_l e h), q H1 (Ex.refl H1)⟩
theorem rc_sum (h : SqL K H a (xs.map V.int)) : RC (rSum K) [.ref a] H (.int xs.sum) := fun H1 e _ q => ⟨a, xs, rfl, ex_l e h, q H1 (Ex.refl H1)⟩
theorem rc_all {bs : List Bool} (h : SqL K H a (bs.map V.bl)) : RC (rAll K) [.ref a] H (.bl (bs.all id)) := fun H1 e _ q => ⟨a, bs, rfl, ex_l e h, q H1 (Ex.refl H1)⟩
theorem rc_any {bs : List Bool} (h : SqL K H a (bs.map V.bl)) : RC (rAny K) [.ref a] H (.bl (bs.any id)) := fun H1 e _ q => ⟨a, bs, rfl, ex_l e h, q H1 (Ex.refl H1)⟩
theorem rc_min2 : RC (fun xs H Q => ∃ i j, xs = [.int i, .int j] ∧ Q (.int (if j < i then j else i)) H) [.int i, .int j] H (.int (if j < i then j else i)) := fun H1 _ _ q => ⟨i, j, rfl, q H1 (Ex.refl H1)⟩
theorem rc_max2 : RC (fun xs H Q => ∃ i j, xs = [.int i, .int j] ∧ Q (.int (if j > i then j else i)) H) [.int i, .int j] H (.int (if j > i then j else i)) := fun H1 _ _ q => ⟨i, j, rfl, q H1 (Ex.refl H1)⟩
/-- a call whose only argument is a new list -/
theorem ev_cbL {r : List V → Hp → VK → Prop} {zs : List V} (h : EvL ta σ H zs) (hr : ∀ p H1, Ex H H1 → H1 p = some (.lst zs) → RC r [.ref p] H1 z) : Ev (tCB r (tCons ta tNil)) σ H z := fun H1 e Q q =>
  h H1 e _ fun p H2 _ e2 hp => hr p H2 (e.trans e2) hp H2 (Ex.refl H2) Q fun H3 e3 => q H3 (e2.trans e3)
/-- list(xs): a new list -/
theorem rcl_list {zs : List V} (h : SqL K H a zs) : RCL (rListK K) [.ref a] H zs := fun H1 e _ q =>
  ⟨a, zs, rfl, .inl (ex_l e h), fun l hl => q l _ hl (Ex.new hl) upd_same⟩
/-- a value of which P is known: what a call may hand back -/
def EvP (te : TE) (σ : L2.St) (H : Hp) (P : V → Hp → Prop) : Prop := ∀ H1, Ex H H1 → ∀ Q : VK, (∀ v H2, Ex H1 H2 → P v H2 → Q v H2) → te σ H1 Q
theorem q_asgP {i : Nat} {D : Ends} {tz : TS} {P : V → Hp → Prop} (h : EvP te σ H P) (k : ∀ v H1, Ex H H1 → P v H1 → tz D (σ.set i (some v)) H1) : tSeq (tAsg te (gName i)) tz D σ H := h H (Ex.refl H) _ fun v H1 e p => k v H1 e p
theorem EvP.of (h : Ev te σ H v) : EvP te σ H (fun w _ => w = v) := fun H1 e Q q => h H1 e Q fun H2 e2 => q v H2 e2 rfl
theorem evP_call {sp : Sp} {dvs vs : List V} {E : XK} {ta : TA} {P : V → Hp → Prop} (h : EvA ta σ H vs) (hs : ∀ H1, Ex H H1 → ∀ Q : VK, (∀ v H2, Ex H1 H2 → P v H2 → Q v H2) → ∀ E : XK, sp (vs ++ dvs) H1 Q E) : EvP (tCall sp dvs E ta) σ H P := fun H1 e Q q =>
  h H1 e _ fun H2 e2 => hs H2 (e.trans e2) Q (fun v H3 e3 p => q v H3 (e2.trans e3) p) E
/-- xs + ys of lists that stand in H -/
theorem el_cat {l m : Addr} {zs ws : List V} (ha : Ev ta σ H (.ref l)) (hb : Ev tb σ H (.ref m)) (h1 : H l = some (.lst zs)) (h2 : H m = some (.lst ws)) (hz : zs.length + ws.length ≤ 100000) : EvL (tOp rCat ta tb) σ H (zs ++ ws) := fun H1 e Q q =>
  ha H1 e _ fun H2 e2 => hb H2 (e.trans e2) _ fun H3 e3 => ⟨l, m, zs, ws, rfl, rfl, (((e.trans e2).trans e3) l _ h1), (((e.trans e2).trans e3) m _ h2), sz_of hz, fun p hp => q p _ (fresh_back (e2.trans e3) hp) ((e2.trans e3).trans (Ex.new hp)) upd_same⟩
/-- [..] + ys -/
theorem el_catN {m : Addr} {zs ws : List V} (ha : EvL ta σ H zs) (hb : Ev tb σ H (.ref m)) (h2 : H m = some (.lst ws)) (hz : zs.length + ws.length ≤ 100000) : EvL (tOp rCat ta tb) σ H (zs ++ ws) := fun H1 e Q q =>
  ha H1 e _ fun l H2 hl e2 h1 => hb H2 (e.trans e2) _ fun H3 e3 => ⟨l, m, zs, ws, rfl, rfl, e3 l _ h1, (((e.trans e2).trans e3) m _ h2), sz_of hz, fun p hp => q p _ (fresh_back (e2.trans e3) hp) ((e2.trans e3).trans (Ex.new hp)) upd_same⟩
/-- xs + [..] -/
theorem el_catR {l : Addr} {zs ws : List V} (ha : Ev ta σ H (.ref l)) (hb : EvL tb σ H ws) (h1 : H l = some (.lst zs)) (hz : zs.length + ws.length ≤ 100000) : EvL (tOp rCat ta tb) σ H (zs ++ ws) := fun H1 e Q q =>
  ha H1 e _ fun H2 e2 => hb H2 (e.trans e2) _ fun m H3 hm e3 h2 => ⟨l, m, zs, ws, rfl, rfl, (((e.trans e2).trans e3) l _ h1), h2, sz_of hz, fun p hp => q p _ (fresh_back (e2.trans e3) hp) ((e2.trans e3).trans (Ex.new hp)) upd_same⟩
/-- [..] + [..], slices and the like -/
theorem el_catNN {zs ws : List V} (ha : EvL ta σ H zs) (hb : EvL tb σ H ws) (hz : zs.length + ws.length ≤ 100000) : EvL (tOp rCat ta tb) σ H (zs ++ ws) := fun H1 e Q q =>
  ha H1 e _ fun l H2 hl e2 h1 => hb H2 (e.trans e2) _ fun m H3 hm e3 h2 => ⟨l, m, zs, ws, rfl, rfl, e3 l _ h1, h2, sz_of hz, fun p hp => q p _ (fresh_back (e2.trans e3) hp) ((e2.trans e3).trans (Ex.new hp)) upd_same⟩
/-- [..] * k -/
theorem el_rep {zs : List V} {k : Int} (ha : EvL ta σ H zs) (hb : Ev tb σ H (.int k)) (h0 : 0 ≤ k ∧ k ≤ 100000) (hz : zs.length * k.toNat ≤ 100000) : EvL (tOp rRep ta tb) σ H (List.replicate k.toNat zs).flatten := fun H1 e Q q =>
  ha H1 e _ fun l H2 hl e2 h1 => hb H2 (e.trans e2) _ fun H3 e3 => ⟨l, k, zs, rfl, rfl, e3 l _ h1, by omega, by omega, sz_of hz, fun p hp => q p _ (fresh_back (e2.trans e3) hp) ((e2.trans e3).trans (Ex.new hp)) upd_same⟩
theorem EvP.mono {P : V → Hp → Prop} (e : Ex H H') (h : EvP te σ H P) : EvP te σ H' P := fun H1 a Q q => h H1 (e.trans a) Q q
end
end XP
namespace XP
open PySem PySem.Spec PyProof.Rows L2 Evl
/-! ### comprehensions -/
theorem given_getD {ns : List Int} (p : Int → Bool) (g : Int → V) : given ns.length (fun i => p (ns.getD i 0)) (fun i => g (ns.getD i 0)) = (ns.filter p).map g := by
  unfold given
  have key : ∀ (ns : List Int), (List.range ns.length).map (fun i => ns.getD i 0) = ns := by
    intro ns
    refine List.ext_getElem (by simp) fun i h1 h2 => ?_
    rw [List.getElem_map, List.getElem_range]
    simp [List.getD, h2]
  have e2 : ((List.range ns.length).filter fun i => p (ns.getD i 0)).map (fun i => ns.getD i 0) = ns.filter p := by
    have := List.filter_map (f := fun i => ns.getD i 0) (p := p) (l := List.range ns.length)
    rw [key ns] at this
    exact this.symm
  rw [← e2, List.map_map]
  rfl
theorem given_all (n : Nat) (v : Nat → V) : given n (fun _ => true) v = (List.range n).map v := by
  unfold given
  rw [List.filter_eq_self.mpr fun _ _ => rfl]
section
variable {K : PySem.W.Frag} {σ : L2.St} {H H' : Hp} {ta tb te tx : TE} {t u : TT} {x y z v : V} {r : R2} {a b p : Addr} {xs ys : List Int} {i j : Int} {D : Ends} {tz : TS}
theorem et_yes : EvT tYes σ H true := fun H1 _ _ q => q H1 (Ex.refl H1)
theorem el_is {zs ws : List V} (h : EvL te σ H zs) (e : zs = ws) : EvL te σ H ws := by
  rw [← e]
  exact h
theorem el_lcI {tl : TE} {k : Nat} {vs : List Nat} {ns : List Int} (p : Int → Bool) (g : Int → V) (h : Ev tl σ H (.ref a)) (hx : SqL K H a (ns.map V.int)) (hz : ns.length ≤ 40000) (hw : ∀ x, wipe ((wipe σ vs).set k (some x)) vs = wipe σ vs)
    (ht : ∀ (z : Int) H1, Ex H H1 → z ∈ ns → EvT t ((wipe σ vs).set k (some (.int z))) H1 (p z)) (he : ∀ (z : Int) H1, Ex H H1 → z ∈ ns → p z = true → Ev te ((wipe σ vs).set k (some (.int z))) H1 (g z)) :
    EvL (tLc (iList K tl) (gName k) t te vs) σ H ((ns.filter p).map g) := by
  refine el_is (el_lcL (fun i => p (ns.getD i 0)) (fun i => g (ns.getD i 0)) h hx (by rw [List.length_map]; exact hz) hw (fun i x H1 e1 hi => ?_) (fun i x H1 e1 hi hp => ?_)) (by rw [List.length_map]; exact given_getD p g)
  · obtain ⟨z, e, rfl⟩ := get_int hi
    have ez : ns.getD i 0 = z := by simp [List.getD, e]
    rw [ez]
    exact ht z H1 e1 (List.mem_of_getElem? e)
  · obtain ⟨z, e, rfl⟩ := get_int hi
    have ez : ns.getD i 0 = z := by simp [List.getD, e]
    rw [ez] at hp ⊢
    exact he z H1 e1 (List.mem_of_getElem? e) hp
theorem el_lcIA {tl : TE} {k : Nat} {vs : List Nat} {ns : List Int} (g : Int → V) (h : Ev tl σ H (.ref a)) (hx : SqL K H a (ns.map V.int)) (hz : ns.length ≤ 40000) (hw : ∀ x, wipe ((wipe σ vs).set k (some x)) vs = wipe σ vs)
    (he : ∀ (z : Int) H1, Ex H H1 → z ∈ ns → Ev te ((wipe σ vs).set k (some (.int z))) H1 (g z)) :
    EvL (tLc (iList K tl) (gName k) tYes te vs) σ H (ns.map g) := by
  refine el_is (el_lcI (fun _ => true) g h hx hz hw (fun _ _ _ _ => et_yes) fun z H1 e1 hm _ => he z H1 e1 hm) ?_
  rw [List.filter_eq_self.mpr fun _ _ => rfl]
theorem el_lcRA {tr : TA} {k : Nat} {vs : List Nat} {n : Int} (g : Nat → V) (h : EvA tr σ H [.int n]) (hn : 0 ≤ n ∧ n ≤ 40000) (hw : ∀ x, wipe ((wipe σ vs).set k (some x)) vs = wipe σ vs)
    (he : ∀ (i : Nat) H1, Ex H H1 → (i : Int) < n → Ev te ((wipe σ vs).set k (some (.int (i : Int)))) H1 (g i)) :
    EvL (tLc (iRng1 tr) (gName k) tYes te vs) σ H ((List.range n.toNat).map g) :=
  el_is (el_lcR1 (fun _ => true) g h hn hw (fun _ _ _ _ => et_yes) fun i H1 e1 hi _ => he i H1 e1 hi) (given_all _ _)
/-! ### calls of built-ins, further -/
theorem rc_maxOf {m : Int} (h : SqL K H a (xs.map V.int)) (h0 : 0 < xs.length) (hm : ∀ k, k ∈ xs → (∀ y, y ∈ xs → y ≤ k) → k = m) : RC (rMax K) [.ref a] H (.int m) := fun H1 e _ q =>
  ⟨a, xs, rfl, ex_l e h, h0, fun k h1 h2 => by rw [hm k h1 h2]; exact q H1 (Ex.refl H1)⟩
theorem rc_minOf {m : Int} (h : SqL K H a (xs.map V.int)) (h0 : 0 < xs.length) (hm : ∀ k, k ∈ xs → (∀ y, y ∈ xs → k ≤ y) → k = m) : RC (rMin K) [.ref a] H (.int m) := fun H1 e _ q =>
  ⟨a, xs, rfl, ex_l e h, h0, fun k h1 h2 => by rw [hm k h1 h2]; exact q H1 (Ex.refl H1)⟩
theorem ev_maxD {m d : Int} {t1 t2 : TA} (h1 : EvA t1 σ H [.ref a]) (h2 : EvA t2 σ H [.int d]) (h : SqL K H a (xs.map V.int)) (h0 : xs = [] → d = m) (hm : ∀ k, k ∈ xs → (∀ y, y ∈ xs → y ≤ k) → k = m) :
    Ev (tCKw (rMaxD K) t1 t2) σ H (.int m) := fun H1 e Q q => h1 H1 e _ fun H2 e2 => h2 H2 (e.trans e2) _ fun H3 e3 =>
  ⟨a, xs, d, rfl, rfl, ex_l ((e.trans e2).trans e3) h, fun z => by rw [h0 z]; exact q H3 (e2.trans e3), fun k k1 k2 => by rw [hm k k1 k2]; exact q H3 (e2.trans e3)⟩
/-! ### xs[i] of a written list -/
theorem ev_ixN {zs : List V} (ha : EvL ta σ H zs) (hb : ∀ H1, Ex H H1 → Ev tb σ H1 (.int i)) (hv : atI zs i = some v) : Ev (tOp (rIxL K) ta tb) σ H v := ev_opL1 ha hb fun p H1 hp _ => rv_ixL (sq_of hp) hv
theorem ev_ixI (ha : Ev ta σ H (.ref a)) (hb : Ev tb σ H (.int i)) (h : SqL K H a (xs.map V.int)) (h0 : 0 ≤ i) (h1 : i < xs.length) : Ev (tOp (rIxL K) ta tb) σ H (.int (xs.getD i.toNat 0)) := by
  refine ev_op ha hb (rv_ixL h ?_)
  have hi : i.toNat < xs.length := by omega
  obtain ⟨j, rfl⟩ := Int.eq_ofNat_of_zero_le h0
  have hj : j < xs.length := by omega
  refine atI_nat ?_
  rw [List.getElem?_map, List.getElem?_eq_getElem hj]
  simp [List.getD, hj]
theorem ev_ixJ {j : Nat} (ha : Ev ta σ H (.ref a)) (hb : Ev tb σ H (.int (j : Int))) (h : SqL K H a (xs.map V.int)) (hj : j < xs.length) : Ev (tOp (rIxL K) ta tb) σ H (.int (xs.getD j 0)) := ev_ixI (i := (j : Int)) ha hb h (by omega) (by omega)
/-! ### statements that change a list -/
theorem q_rev {l : Addr} {zs : List V} (ha : Ev ta σ H (.ref l)) (hl : H l = some (.lst zs)) (k : ∀ H1, Ex H H1 → tz D σ (upd H1 l (.lst zs.reverse))) : tSeq (tDrop (tBM0 K "list" rReverse ta)) tz D σ H :=
  ha H (Ex.refl H) _ fun H1 e1 => ⟨.inl ⟨rfl, zs, sq_of (e1 l _ hl)⟩, l, zs, rfl, rfl, e1 l _ hl, k H1 e1⟩
theorem q_clear {l : Addr} {zs : List V} (ha : Ev ta σ H (.ref l)) (hl : H l = some (.lst zs)) (k : ∀ H1, Ex H H1 → tz D σ (upd H1 l (.lst []))) : tSeq (tDrop (tBM0 K "list" rClear ta)) tz D σ H :=
  ha H (Ex.refl H) _ fun H1 e1 => ⟨.inl ⟨rfl, zs, sq_of (e1 l _ hl)⟩, l, zs, rfl, rfl, e1 l _ hl, k H1 e1⟩
/-- sorted(xs) as a value: some rising arrangement, new -/
theorem evP_sorted {tr : TA} (h : EvA tr σ H [.ref a]) (hx : SqL K H a (xs.map V.int)) : EvP (tCB (rSortedI K) tr) σ H (fun v H1 => ∃ (p : Addr) (ys : List Int), v = .ref p ∧ H p = none ∧ ys.Perm xs ∧ ys.Pairwise (· ≤ ·) ∧ Ll H1 p ys) := fun H1 e Q q =>
  h H1 e _ fun H2 e2 => ⟨a, xs, rfl, ex_l (e.trans e2) hx, fun ys p hp ho hn => q _ _ (e2.trans (Ex.new hn)) ⟨p, ys, rfl, fresh_back (e.trans e2) hn, hp, ho, upd_same⟩⟩
/-! ### displays of new lists; calls of new lists; a choice as a statement -/
theorem ep_lst3 {t1 t2 t3 : TE} {z1 z2 z3 : List V} (h1 : EvL t1 σ H z1) (h2 : EvL t2 σ H z2) (h3 : EvL t3 σ H z3) : EvP (tLst (tCons t1 (tCons t2 (tCons t3 tNil)))) σ H (fun v H' => ∃ p p1 p2 p3 : Addr, v = .ref p ∧ H' p = some (.lst [.ref p1, .ref p2, .ref p3]) ∧
    (H p1 = none ∧ H' p1 = some (.lst z1)) ∧ (H p2 = none ∧ H' p2 = some (.lst z2)) ∧ (H p3 = none ∧ H' p3 = some (.lst z3))) := fun H1 e Q q =>
  h1 H1 e _ fun p1 H2 n1 e2 k1 => h2 H2 (e.trans e2) _ fun p2 H3 n2 e3 k2 => h3 H3 ((e.trans e2).trans e3) _ fun p3 H4 n3 e4 k3 => ⟨sz_of (by show 3 ≤ 100000; decide), fun p hp => q _ _ (((e2.trans e3).trans e4).trans (Ex.new hp))
    ⟨p, p1, p2, p3, rfl, upd_same, ⟨fresh_back e n1, Ex.new hp _ _ (e4 _ _ (e3 _ _ k1))⟩, ⟨fresh_back (e.trans e2) n2, Ex.new hp _ _ (e4 _ _ k2)⟩, ⟨fresh_back ((e.trans e2).trans e3) n3, Ex.new hp _ _ k3⟩⟩⟩
theorem evP_ixP {P R : V → Hp → Prop} (h : EvP ta σ H P) (hb : ∀ v H1, Ex H H1 → P v H1 → Ev tb σ H1 (.int i)) (hR : ∀ v H1 H2, Ex H1 H2 → R v H1 → R v H2)
    (hr : ∀ v H1, Ex H H1 → P v H1 → ∃ p zs w, v = .ref p ∧ H1 p = some (.lst zs) ∧ atI zs i = some w ∧ R w H1) : EvP (tOp (rIxL K) ta tb) σ H R := fun H1 e Q q =>
  h H1 e _ fun v H2 e2 p2 => by
    obtain ⟨p, zs, w, rfl, hz, hw, r1⟩ := hr v H2 (e.trans e2) p2
    exact hb _ H2 (e.trans e2) p2 H2 (Ex.refl H2) _ fun H3 e3 => ⟨p, zs, i, w, rfl, rfl, sq_of (e3 _ _ hz), hw, q w H3 (e2.trans e3) (hR _ _ _ e3 r1)⟩
theorem ev_callL {sp : Sp} {E : XK} {zs : List V} (h : EvL te σ H zs) (hb : ∀ H1, Ex H H1 → Ev tb σ H1 y) (hs : ∀ p H1, Ex H H1 → H1 p = some (.lst zs) → SpV sp [.ref p, y] H1 z) : Ev (tCall sp [] E (tCons te (tCons tb tNil))) σ H z := fun H1 e Q q =>
  h H1 e _ fun p H2 _ e2 hp => hb H2 (e.trans e2) H2 (Ex.refl H2) _ fun H3 e3 => hs p H3 ((e.trans e2).trans e3) (e3 _ _ hp) H3 (Ex.refl H3) Q (fun H4 e4 => q H4 ((e2.trans e3).trans e4)) E
theorem ev_callLL {sp : Sp} {E : XK} {zs ws : List V} (h : EvL te σ H zs) (hb : ∀ H1, Ex H H1 → EvL tb σ H1 ws) (hs : ∀ p q H1, Ex H H1 → H1 p = some (.lst zs) → H1 q = some (.lst ws) → SpV sp [.ref p, .ref q] H1 z) : Ev (tCall sp [] E (tCons te (tCons tb tNil))) σ H z := fun H1 e Q q =>
  h H1 e _ fun p H2 _ e2 hp => hb H2 (e.trans e2) H2 (Ex.refl H2) _ fun p2 H3 _ e3 hp2 => hs p p2 H3 ((e.trans e2).trans e3) (e3 _ _ hp) hp2 H3 (Ex.refl H3) Q (fun H4 e4 => q H4 ((e2.trans e3).trans e4)) E
theorem s_asgP {i : Nat} {P : V → Hp → Prop} (h : EvP te σ H P) (k : ∀ v H1, Ex H H1 → P v H1 → D.nx (σ.set i (some v)) H1) : tAsg te (gName i) D σ H := h H (Ex.refl H) _ fun v H1 e p => k v H1 e p
theorem s_dropIf {c : Bool} (h : EvT t σ H c) (h1 : c = true → ∀ H1, Ex H H1 → tDrop ta D σ H1) (h2 : c = false → ∀ H1, Ex H H1 → tDrop tb D σ H1) : tDrop (tIf t ta tb) D σ H := h H (Ex.refl H) _ fun H1 e => by
  cases c with
  | true => exact h1 rfl H1 e
  | false => exact h2 rfl H1 e
theorem s_pop {l : Addr} {zs : List V} {w : V} (ha : Ev ta σ H (.ref l)) (hl : H l = some (.lst zs)) (hw : zs[zs.length - 1]? = some w) (k : ∀ H1, Ex H H1 → D.nx σ (upd H1 l (.lst zs.dropLast))) : tDrop (tBM0 K "list" rPop ta) D σ H :=
  ha H (Ex.refl H) _ fun H1 e1 => ⟨.inl ⟨rfl, zs, sq_of (e1 l _ hl)⟩, l, zs, w, rfl, rfl, e1 l _ hl, hw, k H1 e1⟩
end
end XP
/-! ## Rules of our own: three comparisons in a row, xs[i] += e, a list's count of True -/
namespace XP
open PySem PySem.Spec PyProof.Rows L2 Evl
/-- a op b op' c op'' d -/
def tChain3 (r1 r2 r3 : R2) (ta tb tc td : TE) : TE := fun σ H Q => ta σ H fun x H1 => tb σ H1 fun y H2 => r1 x y H2 fun z H3 => ∃ k, z = .bl k ∧
  (if k = true then tc σ H3 fun x3 H4 => r2 y x3 H4 fun z2 H5 => ∃ k2, z2 = .bl k2 ∧ (if k2 = true then td σ H5 fun x4 H6 => r3 x3 x4 H6 Q else Q (.bl false) H5) else Q (.bl false) H3)
section
variable {X : Cx} {a b c d : Expr} {ta tb tc td : TE} {pos : Pos}
theorem pe_chain3 {o1 o2 o3 : CmpOp} {r1 r2 r3 : R2} (h1 : OpR X (compareOp o1) r1) (h2 : OpR X (compareOp o2) r2) (h3 : OpR X (compareOp o3) r3) (ha : PE X a ta) (hb : PE X b tb) (hc : PE X c tc) (hd : PE X d td)
    (hm : lastMarks [o1, o2, o3] [b, c, d] = false := by with_unfolding_all rfl) : PE X (.Compare a [o1, o2, o3] [b, c, d] pos) (tChain3 r1 r2 r3 ta tb tc td) := by
  refine ⟨fun pins s σ H Q I h => Compare_chain (thn (ha.run pins s σ H _ I h) fun va sa ⟨x, Ha, Ia, ra, qa⟩ => chain_link (thn (hb.run pins sa σ Ha _ Ia qa) fun vb sb ⟨y, Hb, Ib, rb, qb⟩ => thn (h1 pins sb σ Hb x y va vb _ Ib ra rb qb) fun w1 s1 hw1 => ?_)) hm⟩
  obtain ⟨z1, H1, I1, rz1, k1, rfl, q1⟩ := hw1
  obtain rfl : w1 = Value.bool k1 := rz1
  refine wpAny_truthy_bool ?_
  cases k1
  · exact ite_ff ⟨V.bl false, H1, I1, rfl, q1⟩
  · refine ite_tt (chain_link (thn (hc.run pins s1 σ H1 _ I1 q1) fun vc sc ⟨y3, Hc, Ic, rc, qc⟩ => thn (h2 pins sc σ Hc y y3 vb vc _ Ic rb rc qc) fun w2 s2 hw2 => ?_))
    obtain ⟨z2, H2, I2, rz2, k2, rfl, q2⟩ := hw2
    obtain rfl : w2 = Value.bool k2 := rz2
    refine wpAny_truthy_bool ?_
    cases k2
    · exact ite_ff ⟨V.bl false, H2, I2, rfl, q2⟩
    · exact ite_tt (chain_last (thn (hd.run pins s2 σ H2 _ I2 q2) fun vd sd ⟨y4, Hd, Id, rd, qd⟩ => h3 pins sd σ Hd y3 y4 vc vd Q Id rc rd qd))
/-- xs[i] as a value, for xs[i] op= e -/
theorem get_listK {K : PySem.W.Frag} (hK : X.K = K) : PGet X (fun o i H Q => ∃ p zs k v, o = .ref p ∧ i = .int k ∧ SqL K H p zs ∧ 0 ≤ k ∧ zs[k.toNat]? = some v ∧ Q v H) := by
  subst hK
  intro pins s σ H o i ov iv Q I ro ri h
  obtain ⟨p, zs, k, v, rfl, rfl, hq, h0, hv, q⟩ := h
  obtain rfl : ov = Value.ref p := ro
  obtain ⟨t, rfl⟩ := ri
  obtain ⟨its, r, pl, hz⟩ := I.list hq
  obtain ⟨w, ew, rw'⟩ := r.get hv
  have hn := line63
  have hl := r.length
  have hk : k.toNat < zs.length := (List.getElem?_eq_some_iff.mp hv).1
  refine wpAny_getItem_list (x := w) pl.isList h0 (by omega) (by simpa using ew) ?_
  exact ⟨v, H, I, rw', q⟩
def tAugL (K : PySem.W.Frag) (to ti te : TE) (f : Int → Int → Int) : TS :=
  tAugS to ti te (fun o i H Q => ∃ p zs k v, o = .ref p ∧ i = .int k ∧ SqL K H p zs ∧ 0 ≤ k ∧ zs[k.toNat]? = some v ∧ Q v H) (ipI f) rSetL
theorem ps_augL {K : PySem.W.Frag} {o i e : Expr} {to ti te : TE} {f : Int → Int → Int} {op : Operator} {tpos : Pos} (hK : X.K = K) (ho : PE X o to) (hi : PE X i ti) (he : PE X e te) (hp : PIp X op (ipI f))
    (ha : ∀ ov iv new, augStore i ov iv new = (do holding [new, ov, iv] (setItem ov iv new); release [new, ov, iv] []; pure .next) := by intros; rfl) : PS X (.AugAssign (.Subscript o i tpos) op e pos) (tAugL K to ti te f) :=
  ps_augS ho hi (get_listK hK) he hp set_list ha
/-- xs.count(True) of a list of truths -/
def rCountB (K : PySem.W.Frag) : V → List V → Hp → VK → Prop := fun x xs H Q => ∃ (p : Addr) (bs : List Bool) (k : Bool), x = .ref p ∧ xs = [.bl k] ∧ SqL K H p (bs.map V.bl) ∧ Q (.int (bs.count k : Nat)) H
theorem readsAll_bools (h : Heap) : ∀ bs : List Bool, ReadsAll h (bs.map Value.bool) (bs.map PyData.bool) []
  | [] => .nil
  | b :: r => ReadsAll.cons (as := []) (bs := []) (.bool b) (readsAll_bools h r)
theorem countIn_bools (k : Bool) : ∀ bs : List Bool, countIn (.bool k) (bs.map PyData.bool) = ((bs.count k : Nat) : Int)
  | [] => rfl
  | b :: r => by
    rw [List.map_cons, countIn, countIn_bools k r, List.count_cons]
    cases b <;> cases k <;> simp [PySem.Spec.same] <;> omega
theorem mt_countB {K : PySem.W.Frag} (hK : X.K = K) : MtR X "list.count" (rCountB K) := by
  subst hK
  intro pins s σ H x xs v us Q I rx rxs h
  obtain ⟨p, bs, k, rfl, rfl, hs, q⟩ := h
  obtain rfl : v = Value.ref p := rx
  obtain ⟨u, rfl, ru⟩ := rxs.one
  obtain rfl : u = Value.bool k := ru
  obtain ⟨its, rv, pl, hlen⟩ := I.list hs
  have e := rv.bls
  subst e
  refine count_list_bools pl.isList (readsAll_bools s.heap bs) (List.all_eq_true.mpr fun d hd => by obtain ⟨b, _, rfl⟩ := List.mem_map.mp hd; rfl) ?_
  rw [countIn_bools]
  exact ⟨.int ((bs.count k : Nat) : Int), H, I.tok _, ⟨_, rfl⟩, q⟩
end
section
variable {K : PySem.W.Frag} {σ : L2.St} {H H' : Hp} {ta tb tc td te tx : TE} {x y z v : V} {i j : Int} {D : Ends} {tz : TS}
/-- 0 <= i < j <= n and the like -/
theorem ev_chain3 {g1 g2 g3 : Int → Int → Bool} {i1 i2 i3 i4 : Int} (ha : Ev ta σ H (.int i1)) (hb : Ev tb σ H (.int i2)) (hc : Ev tc σ H (.int i3)) (hd : Ev td σ H (.int i4)) :
    Ev (tChain3 (rI0 fun a b => .bl (g1 a b)) (rI0 fun a b => .bl (g2 a b)) (rI0 fun a b => .bl (g3 a b)) ta tb tc td) σ H (.bl (g1 i1 i2 && (g2 i2 i3 && g3 i3 i4))) := fun H1 e Q q =>
  ha H1 e _ fun H2 e2 => hb H2 (e.trans e2) _ fun H3 e3 => ⟨i1, i2, rfl, rfl, _, rfl, by
    cases k1 : g1 i1 i2 with
    | false =>
      refine iteF ?_
      rw [k1] at q
      exact q H3 (e2.trans e3)
    | true =>
      refine iteT (hc H3 ((e.trans e2).trans e3) _ fun H4 e4 => ⟨i2, i3, rfl, rfl, _, rfl, ?_⟩)
      rw [k1] at q
      cases k2 : g2 i2 i3 with
      | false =>
        refine iteF ?_
        rw [k2] at q
        exact q H4 ((e2.trans e3).trans e4)
      | true =>
        refine iteT (hd H4 (((e.trans e2).trans e3).trans e4) _ fun H5 e5 => ⟨i3, i4, rfl, rfl, ?_⟩)
        rw [k2] at q
        exact q H5 (((e2.trans e3).trans e4).trans e5)⟩
/-- a < b <= c -/
theorem ev_chain2 {g1 g2 : Int → Int → Bool} {i1 i2 i3 : Int} (ha : Ev ta σ H (.int i1)) (hb : Ev tb σ H (.int i2)) (hc : Ev tc σ H (.int i3)) :
    Ev (tChain (rI0 fun a b => .bl (g1 a b)) (rI0 fun a b => .bl (g2 a b)) ta tb tc) σ H (.bl (g1 i1 i2 && g2 i2 i3)) := fun H1 e Q q =>
  ha H1 e _ fun H2 e2 => hb H2 (e.trans e2) _ fun H3 e3 => ⟨i1, i2, rfl, rfl, _, rfl, by
    cases k1 : g1 i1 i2 with
    | false =>
      refine iteF ?_
      rw [k1] at q
      exact q H3 (e2.trans e3)
    | true =>
      refine iteT (hc H3 ((e.trans e2).trans e3) _ fun H4 e4 => ⟨i2, i3, rfl, rfl, ?_⟩)
      rw [k1] at q
      exact q H4 ((e2.trans e3).trans e4)⟩
/-- [*xs, e, ..] -/
theorem ea_star {t : TA} {a : Addr} {zs vs : List V} (h : Ev te σ H (.ref a)) (hz : SqL K H a zs) (ht : EvA t σ H vs) : EvA (StX.tStar K te t) σ H (zs ++ vs) := fun H1 e Q q =>
  h H1 e _ fun H2 e2 => ⟨a, zs, rfl, .inr (ex_l (e.trans e2) hz), ht H2 (e.trans e2) _ fun H3 e3 => q H3 (e2.trans e3)⟩
/-- xs[i] += e -/
theorem q_augL {l : Addr} {ns : List Int} {f : Int → Int → Int} {k : Nat} {a b : Int} (ho : Ev ta σ H (.ref l)) (hi : Ev tb σ H (.int (k : Int))) (he : Ev te σ H (.int b)) (hl : Ll H l ns) (hk : ns[k]? = some a)
    (g : ∀ H1, Ex H H1 → tz D σ (upd H1 l (.lst ((ns.set k (f a b)).map V.int)))) : tSeq (tAugL K ta tb te f) tz D σ H :=
  ho H (Ex.refl H) _ fun H1 e1 => hi H1 e1 _ fun H2 e2 => ⟨l, ns.map V.int, k, .int a, rfl, rfl, Ll.sq ((e1.trans e2) _ _ hl), by omega, by rw [Int.toNat_natCast, List.getElem?_map, hk]; rfl,
    he H2 (e1.trans e2) _ fun H3 e3 => ⟨a, b, rfl, rfl, l, ns.map V.int, k, k, rfl, rfl, (((e1.trans e2).trans e3) _ _ hl), Evl.ixN_nat (by rw [List.length_map]; exact (List.getElem?_eq_some_iff.mp hk).1), by
      rw [← List.map_set] at *
      exact g H3 ((e1.trans e2).trans e3)⟩⟩
end
end XP
/-! ## An error that a clause names and a local name keeps: try: .. except C as n: y = n -/
namespace XP
open PySem PySem.Spec PyProof.Rows L2 Evl
/-- an error object of the class cls stands at e -/
def ErrO (cls : Value) (e : Addr) : HO := .ext fun h => ∃ ob : Obj, h.get? e = some ob ∧ Zc cls none ob ∧ ∃ fs, ob.data = .fields fs
section
variable {X : Cx} {pins : List (Addr × Obj)} {σ : L2.St} {H : Hp} {s : Shared}
/-- a pinned error object is tracked from here on -/
theorem tracked_err {e : Addr} {ob : Obj} {cls : Value} (I : Inv X ((e, ob) :: pins) σ H s) (hz : Zc cls none ob) (hd : ∃ fs, ob.data = .fields fs) (hnew : X.s_0.heap.get? e = none) (hcell : ∀ x c, X.env.cells.lookup x = some c → c ≠ e) (hpin : ∀ p ∈ X.pn ++ pins, p.1 ≠ e) :
    Inv X pins σ (upd H e (ErrO cls e)) s := by
  obtain ⟨hg, hn, hL, hF, _⟩ := I.pin (e, ob) (List.mem_append_right _ List.mem_cons_self)
  have away : ∀ b o, X.s_0.heap.get? b = some o → b ≠ e := fun b o h z => by
    subst z
    rw [hnew] at h
    cases h
  have more : ∀ p ∈ X.pn ++ pins, p ∈ X.pn ++ (e, ob) :: pins := fun p hp => (List.mem_append.mp hp).elim (fun q => List.mem_append_left _ q) fun q => List.mem_append_right _ (List.mem_cons_of_mem _ q)
  exact {
    ok := I.ok, os := I.os, bare := I.bare, loc := I.loc, cell := I.cell, len := I.len
    base := {
      keep := I.base.keep, slot := I.base.slot, there := I.base.there
      free := fun b o h n x => (upd_ne (away b o h)).trans (I.base.free b o h n x)
      tups := fun b zs h => (upd_ne (ne_of_none (I.base.tups b zs h) hn)).trans (I.base.tups b zs h)
      frzs := fun b o u h => (upd_ne (ne_of_none (I.base.frzs b o u h) hn)).trans (I.base.frzs b o u h)
      tbls := fun b ps h => by
        obtain ⟨m, k⟩ := I.base.tbls b ps h
        exact ⟨m, (upd_ne (ne_of_none k hn)).trans k⟩ }
    free := (upd_ne (Ne.symm hL)).trans I.free
    freeC := fun x c h => (upd_ne (hcell x c h)).trans (I.freeC x c h)
    pin := fun p hp => by
      obtain ⟨k1, k2, k3⟩ := I.pin p (more p hp)
      exact ⟨k1, (upd_ne (hpin p hp)).trans k2, k3⟩
    hok := I.hok.laidN (fun _ _ q => q) hn ⟨⟨ob, hg, hz, hd⟩, ⟨ob, hg⟩, fun h1 h2 ⟨o, q, r⟩ k => ⟨o, k o q, r⟩⟩ }
/-- what the clause wishes of an error of the body; slot i the clause's name, slot j the name that keeps it -/
def wKeep (K : PySem.W.Frag) (c : Value) (i j : Nat) (Wout : WX) (D : Ends) : WX := fun cls d σ H =>
  ∃ b, PySem.W.exmOne K cls c = some b ∧ (b = true → d = none ∧ ∀ e, H e = none → D.nx (((σ.set i (some (.ref e))).set j (some (.ref e))).set i none) (upd H e (ErrO cls e))) ∧ (b = false → Wout cls d σ H)
theorem ps_try_keep {x n y : Str} {c : Value} {i j : Nat} {body : List Stmt} {np py pn1 pas pos' pos : Pos} {tb : WX → TS} {Wout : WX} (hs : X.stack = X.env :: X.outer) (hf : X.env.frame = some X.env.locals) (hex : X.ex = []) (hN : X.N.Nodup) (hi : X.N[i]? = some n) (hj : X.N[j]? = some y)
    (hln : X.env.kindOf n = some .local) (hly : X.env.kindOf y = some .local) (hc : Names X x c) (tk : Takes X Wout)
    (hb : ∀ (W : WX) (pn : List (Addr × Obj)) (xe : Value → Shared → Prop), Takes (X.tr pn xe) W → PassesOwn (model X.prog X.w) X.A X.env xe → PSs (X.tr pn xe) body (tb W))
    (hd1 : (n == ("__debug__" : Str)) = false := by decide) (hd2 : (n == ("__classdict__" : Str)) = false := by decide) :
    PS X (.Try body [.ExceptHandler (some (.Name x np)) (some n) [.Assign [.Name y py] (.Name n pn1) pas] pos'] [] [] pos) (fun D σ H => tb (wKeep X.K c i j Wout D) D σ H) := by
  refine ⟨fun pins s σ H D I h => wpAny_Try_except ?_⟩
  have ok := I.ok
  have fra : X.A.frames = some (X.env :: X.outer) := ok.frames.trans (by rw [hs])
  refine wpAny_mono ((hb (wKeep X.K c i j Wout D) (X.pn ++ pins) _ ?taken PassesOwn.looking).run [] s σ H D (I.toTry _) h) (fun fl t hfl => ?_) fun e t he => he
  case taken =>
    intro u t xx
    obtain ⟨e, G, s1, pins1, σ1, H1, cls, d, rfl, J0, hG, up, sky, hn, hos, hbare, b, hexm, yes, no⟩ := xx
    have J1 : Inv X pins σ1 H1 s1 := J0.ofTry ok
    refine Sky.land Zc.steady fra hf (by rw [← hs]; exact sky) fun h2 fly2 up2 => ?_
    have J2 : Inv X pins σ1 H1 { t with heap := h2 } := J1.landed hG fly2.1 (up.trans up2) hos hbare
    obtain ⟨ob2, vs2, get2, zc2, dat2⟩ := fly2.there
    have nofrm : e ∉ frs (X.env :: X.outer) := fun hm => by
      obtain ⟨_, o, ho, hno⟩ := fly2.2.2.1.mem hm
      rw [get2] at ho
      cases ho
      exact hno _ dat2
    have nloc : e ≠ X.env.locals := fun z => nofrm (List.mem_filterMap.mpr ⟨X.env, List.mem_cons_self, by rw [hf, z]⟩)
    have nfs : e ∉ X.fs := fun hm => by
      obtain ⟨v, hv, q⟩ := List.mem_filterMap.mp hm
      exact nofrm (List.mem_filterMap.mpr ⟨v, List.mem_cons_of_mem _ hv, q⟩)
    have fresh1 : s1.heap.get? e = none := by
      cases q : s1.heap.get? e with
      | none => rfl
      | some o =>
        have k := hG e o q (by rw [hs]; exact nofrm)
        rw [fly2.2.1] at k
        cases k
    have fresh0 : X.s_0.heap.get? e = none := by
      cases q : X.s_0.heap.get? e with
      | none => rfl
      | some o =>
        obtain ⟨o', k⟩ := J1.base.there e o q (by rw [hex]; exact List.not_mem_nil)
        rw [fresh1] at k
        cases k
    have ncell : ∀ z cc, X.env.cells.lookup z = some cc → cc ≠ e := fun z cc hz w => by
      obtain ⟨v, o, ho, _⟩ := J1.cell z cc hz
      rw [w, fresh1] at ho
      cases ho
    have npin : ∀ p ∈ X.pn ++ pins, p.1 ≠ e := fun p hp w => by
      have k := (J1.pin p hp).1
      rw [w, fresh1] at k
      cases k
    have S2 := J2.suite get2 dat2 hn nloc nfs
    refine wpAny_handleBy_cons (codeAny_handlers_test ?_) fun z => nomatch z
    have looks : PySem.W.Looks (model X.prog X.w) h2 (typeOf (.ref e)) cls := fun A Q E s k q => wpAny_typeOf_ref (k _ _ get2) (by rw [zc2.1]; exact q)
    have isIn := PySem.W.exm_one (M := model X.prog X.w) J2.kIn looks hexm
    have named : ∀ {Q : Value → Shared → Prop} {E : Value → Shared → Prop}, Q c { t with heap := h2 } → wpAny (model X.prog X.w) (X.A.mark (some (.ref e))) (eval (.Name x np) X.env) Q E { t with heap := h2 } := fun q => by
      rcases hc with ⟨g1, g2, g3 | ⟨g3, g4, g5⟩⟩
      · exact ld_glob (X := X.suite e ((e, ob2) :: (X.pn ++ pins))) S2 g1 g3 q g2
      · exact ld_blt (X := X.suite e ((e, ob2) :: (X.pn ++ pins))) S2 g1 g3 g4 q g5 g2
    refine named (isIn.here ?_)
    cases b with
    | false =>
      show wpAny _ X.A (handleBy (.ref e) X.env []) _ _ _
      obtain ⟨_, _, _, ob, fs, T, oT, tf, ge, ze, de, h1, _⟩ := id fly2
      refine wpAny_handleBy_nil ?_
      unfold PySem.passOn
      refine wpAny_bind (wpAny_field ge de h1 ?_)
      rw [if_neg (show ¬ (Value.ref T == Value.none) = true from by simp)]
      have out : wpAny (model X.prog X.w) X.A (setFlight (.ref e) X.env.frame) (fun _ s4 => wpAny (model X.prog X.w) X.A (throw (.ref e) : Sem Flow) (SP X pins D) X.xe s4) X.xe { t with heap := h2 } := by
        rw [hf]
        exact HandSPX.setFlight_upZ fly2 fun h4 held up4 => wpAny_throw (tk _ _ ⟨e, G, s1, pins, σ1, H1, cls, d, rfl, J1, hG, (up.trans up2).trans up4, .inr (.inr (by rw [hs]; exact held)), hn, hos, hbare, no rfl⟩)
      first
        | exact wpAny_bind (wpAny_pure (wpAny_bind out))
        | exact wpAny_bind out
    | true =>
      obtain ⟨rfl, go⟩ := yes rfl
      refine codeAny_handlers_suite_as (HandSPX.lands_againZ fly2 fun h4 fly4 up4 => ?_)
      have J4 : Inv X pins σ1 H1 { t with heap := h4 } := J1.landed hG fly4.1 ((up.trans up2).trans up4) hos hbare
      obtain ⟨ob4, vs4, get4, zc4, dat4⟩ := fly4.there
      have S4 := J4.suite get4 dat4 hn nloc nfs
      refine store_ok (X := X.suite e ((e, ob4) :: (X.pn ++ pins))) (v := .ref e) S4 hN hi (.inl hln) rfl (fun s5 S5 => ?_) (.inr hln)
      have body1 : PSs (X.suite e ((e, ob4) :: (X.pn ++ pins))) [.Assign [.Name y py] (.Name n pn1) pas] (tAsg (tVar i) (gName j)) := pss_one (ps_set hN hj (.inl hly) (pe_var hi (.inl hln) hd1 hd2) (by rfl) (.inr hly))
      have hlenσ : σ1.length = X.N.length := J1.len
      have hil : i < X.N.length := (List.getElem?_eq_some_iff.mp hi).1
      refine wpAny_mono (body1.run [] s5 _ H1 { nx := fun σ6 H6 => σ6 = (σ1.set i (some (.ref e))).set j (some (.ref e)) ∧ H6 = H1, rt := fun _ _ => False } S5 ⟨.ref e, by rw [List.getElem?_set_self (by omega)], rfl, rfl⟩) (fun fl s6 hfl => ?_) fun _ _ z => False.elim z
      cases fl with
      | ret v =>
        obtain ⟨_, _, _, _, _, q⟩ := hfl
        exact False.elim q
      | brk =>
        obtain ⟨_, _, _, q⟩ := hfl
        exact False.elim q
      | cont =>
        obtain ⟨_, _, _, q⟩ := hfl
        exact False.elim q
      | next =>
        obtain ⟨σ6, H6, S6, rfl, rfl⟩ := hfl
        have J6 : Inv X ((e, ob4) :: pins) ((σ1.set i (some (.ref e))).set j (some (.ref e))) H6 s6 :=
          ⟨ok, S6.os, S6.bare, S6.base, S6.loc, S6.cell, S6.free, S6.freeC, fun p hp => S6.pin p (List.mem_append_left _ ((List.mem_append.mp hp).elim (fun q => List.mem_cons_of_mem _ (List.mem_append_left _ q)) fun q => (List.mem_cons.mp q).elim (fun z => by rw [z]; exact List.mem_cons_self) fun z => List.mem_cons_of_mem _ (List.mem_append_right _ z))), S6.hok, S6.len⟩
        exact gone_ok J6 hN hi hln fun s7 J7 => ⟨_, _, tracked_err J7 zc4 ⟨_, dat4⟩ fresh0 ncell npin, go e hn⟩
  case _ =>
    cases fl with
    | next =>
      obtain ⟨σ', H', J', q⟩ := hfl
      exact wpAny_execs_nil ⟨σ', H', J'.ofTry ok, q⟩
    | brk =>
      obtain ⟨σ', H', J', q⟩ := hfl
      exact ⟨σ', H', J'.ofTry ok, q⟩
    | cont =>
      obtain ⟨σ', H', J', q⟩ := hfl
      exact ⟨σ', H', J'.ofTry ok, q⟩
    | ret u =>
      obtain ⟨v, σ', H', J', r, q⟩ := hfl
      exact ⟨v, σ', H', J'.ofTry ok, r, q⟩
/-- isinstance(e, c) of such an error -/
def rIsX (K : PySem.W.Frag) : List V → Hp → VK → Prop := fun vs H Q => ∃ (e D : Addr) (c : V) (u : Value) (b : Bool), vs = [.ref e, c] ∧ H e = some (ErrO (.ref D) e) ∧ ExcC K D ∧ ClsV c u ∧ PySem.W.kitOne K (.ref D) u = some b ∧ Q (.bl b) H
theorem isxK {K : PySem.W.Frag} (hK : X.K = K) : CallR X (.builtin "isinstance") (rIsX K) := by
  subst hK
  intro pins s σ H xs us Q I r h
  obtain ⟨e, D, c, u, b, rfl, he, C, hc, hk, q⟩ := h
  obtain ⟨u1, u2, rfl, r1, r2⟩ := vals2 r
  obtain rfl : u1 = Value.ref e := r1
  obtain rfl := hc.eq r2
  obtain ⟨⟨ob, g, ⟨z1, z2⟩, fs, df⟩, _, _⟩ := I.hok e _ he
  have at1 : PySem.W.InstAt s.heap e ob D none := by
    obtain ⟨k1, k2, k3, k4⟩ := ob
    simp only at z1 z2 df
    subst z1 z2 df
    exact ⟨g, rfl, rfl, trivial⟩
  exact PySem.W.kia_one (PySem.W.handS_kitx_exc C.hg C.hk C.hs C.hd C.ha C.hn C.ht C.hm) I.kIn at1 hk (fun z => nomatch z) fun tk => ⟨.bl b, H, I.kept (t' := tk) fun _ _ z => z, rfl, q⟩
end
/-- isinstance's answer of a class, by the top's facts -/
theorem kit_same {K : PySem.W.Frag} {D : Addr} : PySem.W.kitOne K (.ref D) (.ref D) = some true := if_pos (by simp)
theorem kit_own {K : PySem.W.Frag} {D C : Addr} {b : Bool} (hn : (Value.ref D == Value.ref C) = false) (hd : PySem.W.hasDictIn K C = true) (ht : PySem.W.typeIn K (.ref C) = some (.type "type")) (hs : PySem.W.subIn K (.ref D) (.ref C) = some b) : PySem.W.kitOne K (.ref D) (.ref C) = some b := by
  obtain ⟨cd, hc, _⟩ := PySem.W.any_some hd
  have e2 : ((PySem.W.clsIn K C).isSome && PySem.W.typeIn K (.ref C) == some (.type "type")) = true := by
    rw [hc, ht]
    rfl
  unfold PySem.W.kitOne
  rw [if_neg (by rw [hn]; exact Bool.false_ne_true)]
  show (if _ then _ else _) = _
  rw [if_pos e2]
  exact hs
theorem kit_built {K : PySem.W.Frag} {D : Addr} {T : String} {b : Bool} (hm : PySem.W.kitMeta T = true) (hs : PySem.W.subIn K (.ref D) (.type T) = some b) : PySem.W.kitOne K (.ref D) (.type T) = some b := by
  unfold PySem.W.kitOne
  rw [if_neg (by intro z; cases z)]
  show (if _ then _ else _) = _
  rw [if_pos hm]
  exact hs
end XP
/-! ## More words: tuples, methods by value, displays of new things, ranges from a number on -/
namespace XP
open PySem PySem.Spec PyProof.Rows L2 Evl
section
variable {K : PySem.W.Frag} {σ : L2.St} {H H' : Hp} {ta tb te tx : TE} {t u : TT} {x y z v : V} {r : R2} {a b p : Addr} {xs ys : List Int} {i j : Int} {D : Ends} {tz tu tw : TS}
/-- a method of a list, by value -/
theorem ev_bmL {m : V → List V → Hp → VK → Prop} {l : Addr} {zs vs : List V} {tr : TA} (ha : Ev ta σ H (.ref l)) (hl : SqL K H l zs) (ht : EvA tr σ H vs) (hm : ∀ H1, Ex H H1 → ∀ Q : VK, Q z H1 → m (.ref l) vs H1 Q) : Ev (tBM K "list" m ta tr) σ H z := fun H1 e Q q =>
  ha H1 e _ fun H2 e2 => ⟨.inl ⟨rfl, zs, ex_l (e.trans e2) hl⟩, ht H2 (e.trans e2) _ fun H3 e3 => hm H3 ((e.trans e2).trans e3) Q (q H3 (e2.trans e3))⟩
theorem ev_countB {l : Addr} {bs : List Bool} {k : Bool} {tr : TA} (ha : Ev ta σ H (.ref l)) (hl : SqL K H l (bs.map V.bl)) (ht : EvA tr σ H [.bl k]) : Ev (tBM K "list" (rCountB K) ta tr) σ H (.int ((bs.count k : Nat) : Int)) :=
  ev_bmL ha hl ht fun H1 e _ q => ⟨l, bs, k, rfl, rfl, ex_l e hl, q⟩
theorem ev_indexB {l : Addr} {bs : List Bool} {k : Bool} {n : Nat} {tr : TA} (ha : Ev ta σ H (.ref l)) (hl : SqL K H l (bs.map V.bl)) (ht : EvA tr σ H [.bl k]) (hn : bs[n]? = some k) (hno : ∀ m c, m < n → bs[m]? = some c → c ≠ k) : Ev (tBM K "list" (rIndex K) ta tr) σ H (.int (n : Int)) :=
  ev_bmL ha hl ht fun H1 e _ q => ⟨l, bs.map V.bl, .bl k, n, .bl k, rfl, rfl, ex_l e hl, rfl, List.all_eq_true.mpr fun d hd => by
    obtain ⟨c, _, rfl⟩ := List.mem_map.mp hd
    rfl, by rw [List.getElem?_map, hn]; rfl, by cases k <;> rfl, fun m z' hm hz => by
    rw [List.getElem?_map] at hz
    cases hc : bs[m]? with
    | none => rw [hc] at hz; cases hz
    | some c =>
      rw [hc] at hz
      cases hz
      have := hno m c hm hc
      revert this
      cases c <;> cases k <;> simp [eqV], q⟩
/-- isinstance of an error -/
theorem rc_isx {e D : Addr} {c : V} {w : Value} {k : Bool} (he : H e = some (ErrO (.ref D) e)) (C : ExcC K D) (hc : ClsV c w) (hk : PySem.W.kitOne K (.ref D) w = some k) : RC (rIsX K) [.ref e, c] H (.bl k) := fun H1 ex _ q =>
  ⟨e, D, c, w, k, rfl, ex _ _ he, C, hc, hk, q H1 (Ex.refl H1)⟩
/-- t[i] of a tuple -/
theorem ev_ixT {l : Addr} {zs : List V} {n : Nat} (ha : Ev ta σ H (.ref l)) (hb : Ev tb σ H (.int (n : Int))) (h : H l = some (.tup zs)) (hn : zs[n]? = some v) : Ev (tOp (rIxT K) ta tb) σ H v := ev_op ha hb (rv_ixT (st_of h) (atI_nat hn))
/-- a choice between two new tuples -/
theorem eu_if {c : Bool} {zs : List V} (h : EvT t σ H c) (h1 : c = true → EvU ta σ H zs) (h2 : c = false → EvU tb σ H zs) : EvU (tIf t ta tb) σ H zs := fun H1 e Q q => h H1 e _ fun H2 e2 => by
  cases c with
  | true => exact h1 rfl H2 (e.trans e2) Q fun p H3 hp e3 h3 => q p H3 (fresh_back e2 hp) (e2.trans e3) h3
  | false => exact h2 rfl H2 (e.trans e2) Q fun p H3 hp e3 h3 => q p H3 (fresh_back e2 hp) (e2.trans e3) h3
def SpU (sp : Sp) (vs : List V) (H : Hp) (zs : List V) : Prop := ∀ H1, Ex H H1 → ∀ Q : VK, (∀ p H2, H1 p = none → Ex H1 H2 → H2 p = some (.tup zs) → Q (.ref p) H2) → ∀ E : XK, sp vs H1 Q E
theorem eu_call {sp : Sp} {dvs vs zs : List V} {E : XK} {tr : TA} (h : EvA tr σ H vs) (hs : SpU sp (vs ++ dvs) H zs) : EvU (tCall sp dvs E tr) σ H zs := fun H1 e Q q =>
  h H1 e _ fun H2 e2 => hs H2 (e.trans e2) Q (fun p H3 hp e3 h3 => q p H3 (fresh_back e2 hp) (e2.trans e3) h3) E
def RetU (zs : List V) (H : Hp) (Q : VK) : Prop := ∀ p H2, H p = none → Ex H H2 → H2 p = some (.tup zs) → Q (.ref p) H2
/-- values of which P is known -/
def EvAP (tr : TA) (σ : L2.St) (H : Hp) (P : List V → Hp → Prop) : Prop := ∀ H1, Ex H H1 → ∀ Q : List V → Hp → Prop, (∀ vs H2, Ex H1 H2 → P vs H2 → Q vs H2) → tr σ H1 Q
def Mono {α : Type} (P : α → Hp → Prop) : Prop := ∀ c H1 H2, Ex H1 H2 → P c H1 → P c H2
theorem eap_nil : EvAP tNil σ H (fun vs _ => vs = []) := fun H1 _ _ q => q [] H1 (Ex.refl H1) rfl
theorem eap_cons {tr : TA} {P : List V → Hp → Prop} (h : Ev te σ H x) (hr : EvAP tr σ H P) : EvAP (tCons te tr) σ H (fun vs H' => ∃ us, vs = x :: us ∧ P us H') := fun H1 e _ q =>
  h H1 e _ fun H2 e2 => hr H2 (e.trans e2) _ fun us H3 e3 hp => q _ H3 (e2.trans e3) ⟨us, rfl, hp⟩
theorem eap_consL {tr : TA} {P : List V → Hp → Prop} {zs : List V} (h : EvL te σ H zs) (hr : EvAP tr σ H P) : EvAP (tCons te tr) σ H (fun vs H' => ∃ p us, vs = .ref p :: us ∧ H p = none ∧ H' p = some (.lst zs) ∧ P us H') := fun H1 e _ q =>
  h H1 e _ fun p H2 np e2 hp => hr H2 (e.trans e2) _ fun us H3 e3 hP => q _ H3 (e2.trans e3) ⟨p, us, rfl, fresh_back e np, e3 _ _ hp, hP⟩
theorem ep_lst {tr : TA} {P : List V → Hp → Prop} (h : EvAP tr σ H P) (hm : Mono P) (hl : ∀ vs H', P vs H' → vs.length ≤ 100000) : EvP (tLst tr) σ H (fun v H' => ∃ p vs, v = .ref p ∧ H p = none ∧ H' p = some (.lst vs) ∧ P vs H') := fun H1 e Q q =>
  h H1 e _ fun vs H2 e2 hp => ⟨sz_of (hl _ _ hp), fun p np => q _ _ (e2.trans (Ex.new np)) ⟨p, vs, rfl, fresh_back (e.trans e2) np, upd_same, hm _ _ _ (Ex.new np) hp⟩⟩
theorem mono_nil : Mono (fun (vs : List V) (_ : Hp) => vs = []) := fun _ _ _ _ h => h
theorem mono_cons {P : List V → Hp → Prop} (h : Mono P) : Mono (fun (vs : List V) (H' : Hp) => ∃ us, vs = x :: us ∧ P us H') := fun _ _ _ e ⟨us, h1, h2⟩ => ⟨us, h1, h _ _ _ e h2⟩
theorem mono_consL {P : List V → Hp → Prop} {zs : List V} (h : Mono P) : Mono (fun (vs : List V) (H' : Hp) => ∃ p us, vs = .ref p :: us ∧ H p = none ∧ H' p = some (.lst zs) ∧ P us H') := fun _ _ _ e ⟨p, us, h1, h2, h3, h4⟩ => ⟨p, us, h1, h2, e _ _ h3, h _ _ _ e h4⟩
/-- a list by a comprehension over range(lo, n) -/
theorem el_lcR2A {tr : TA} {k : Nat} {vs : List Nat} {lo n : Int} (g : Nat → V) (h : EvA tr σ H [.int lo, .int n]) (hn : 0 ≤ lo ∧ lo ≤ 40000 ∧ -40000 ≤ n ∧ n ≤ 40000) (hw : ∀ x, wipe ((wipe σ vs).set k (some x)) vs = wipe σ vs)
    (he : ∀ (i : Nat) H1, Ex H H1 → lo + (i : Int) < n → Ev te ((wipe σ vs).set k (some (.int (lo + (i : Int))))) H1 (g i)) :
    EvL (tLc (iRng2 tr) (gName k) tYes te vs) σ H ((List.range (n - lo).toNat).map g) := fun H0 e Q q =>
  h H0 e _ fun H1 e1 => ⟨lo, n, rfl, ⟨by omega, by omega, by omega, by omega⟩, fun Dl hD =>
    lc_range (lo := lo) (n := (n - lo).toNat) (Cw H1 (fun _ => true) g Dl) ⟨hD, Ex.new hD, upd_same⟩ (fun i H2 hi p => ⟨hw _, cw_turn p (by omega) et_yes fun _ => he i H1 (e.trans e1) (by omega)⟩)
      (fun H2 p => q Dl H2 (fresh_back e1 p.1) (e1.trans p.2.1) (by rw [← given_all]; exact p.2.2))⟩
/-- two ways of an if that go on alike are told apart ahead -/
theorem q_else {c : Bool} (h : EvT t σ H c) (h1 : c = true → ∀ H1, Ex H H1 → tu { D with nx := tz D } σ H1) (h2 : c = false → ∀ H1, Ex H H1 → tw { D with nx := tz D } σ H1) : tSeq (tIfS t tu tw) tz D σ H := q_if h h1 h2
end
end XP
namespace K4
open PySem PySem.Spec PyProof.Rows L2 Evl XP
def topS (i : Nat) : Stmt := PySem.Challenge.pw_stairparts_k04_boxes_let_down.main.body.getD i (.Pass ⟨0, 0, 0, 0⟩)
/-- slots: 0 thing -/
abbrev s_is_number : Stmt := topS 7
theorem sc_is_number : FnScope ["thing"] ["thing"] (defScope s_is_number) := ⟨rfl, rfl, rfl, by decide +kernel, rfl, by decide +kernel, by decide +kernel⟩
/-- slots: 0 thing, 1 whole, 2 ahead, 3 part -/
abbrev s_is_parting : Stmt := topS 8
theorem sc_is_parting : FnScope ["thing", "whole", "ahead", "part"] ["thing"] (defScope s_is_parting) := ⟨rfl, rfl, rfl, by decide +kernel, rfl, by decide +kernel, by decide +kernel⟩
/-- slots: 0 thing -/
abbrev s_check_parting : Stmt := topS 9
theorem sc_check_parting : FnScope ["thing"] ["thing"] (defScope s_check_parting) := ⟨rfl, rfl, rfl, by decide +kernel, rfl, by decide +kernel, by decide +kernel⟩
/-- slots: 0 parting, 1 first, 2 second, 3 parts -/
abbrev s_let_down : Stmt := topS 11
theorem sc_let_down : FnScope ["parting", "first", "second", "parts"] ["parting", "first", "second"] (defScope s_let_down) := ⟨rfl, rfl, rfl, by decide +kernel, rfl, by decide +kernel, by decide +kernel⟩
/-- slots: 0 parting, 1 first, 2 second -/
abbrev s_are_places : Stmt := topS 12
theorem sc_are_places : FnScope ["parting", "first", "second"] ["parting", "first", "second"] (defScope s_are_places) := ⟨rfl, rfl, rfl, by decide +kernel, rfl, by decide +kernel, by decide +kernel⟩
/-- slots: 0 _law_number_here, 1 _law_k -/
abbrev s_law_mixed : Stmt := topS 14
theorem sc_law_mixed : FnScope ["_law_number_here", "_law_k"] ["_law_number_here", "_law_k"] (defScope s_law_mixed) := ⟨rfl, rfl, rfl, by decide +kernel, rfl, by decide +kernel, by decide +kernel⟩
/-- slots: 0 _law_script, 1 _law_k -/
abbrev s_law_number : Stmt := topS 15
theorem sc_law_number : FnScope ["_law_script", "_law_k"] ["_law_script", "_law_k"] (defScope s_law_number) := ⟨rfl, rfl, rfl, by decide +kernel, rfl, by decide +kernel, by decide +kernel⟩
/-- slots: 0 _law_script, 1 _law_first, 2 _law_number_here, 3 _law_most, 4 _law_many, 5 _law_found, 6 _law_k, 7 _law_part -/
abbrev s_law_parting_by : Stmt := topS 16
theorem sc_law_parting_by : FnScope ["_law_script", "_law_first", "_law_number_here", "_law_most", "_law_many", "_law_found", "_law_k", "_law_part"] ["_law_script", "_law_first"] (defScope s_law_parting_by) := ⟨rfl, rfl, rfl, by decide +kernel, rfl, by decide +kernel, by decide +kernel⟩
/-- slots: 0 _law_found, 1 _law_due_here, 2 _law_one -/
abbrev s_law_is_row : Stmt := topS 17
theorem sc_law_is_row : FnScope ["_law_found", "_law_due_here", "_law_one"] ["_law_found", "_law_due_here"] (defScope s_law_is_row) := ⟨rfl, rfl, rfl, by decide +kernel, rfl, by decide +kernel, by decide +kernel⟩
/-- slots: 0 _law_error, 1 _law_names -/
abbrev s_law_name : Stmt := topS 18
theorem sc_law_name : FnScope ["_law_error", "_law_names"] ["_law_error"] (defScope s_law_name) := ⟨rfl, rfl, rfl, by decide +kernel, rfl, by decide +kernel, by decide +kernel⟩
/-- slots: 0 _law_parting, 1 _law_first, 2 _law_second, 3 _law_row (cell), 4 _law_part, 5 _law_k -/
abbrev s_law_due : Stmt := topS 19
theorem sc_law_due : FnScope ["_law_parting", "_law_first", "_law_second", "_law_row", "_law_part", "_law_k"] ["_law_parting", "_law_first", "_law_second"] (defScope s_law_due) := ⟨rfl, rfl, rfl, by decide +kernel, rfl, by decide +kernel, by decide +kernel⟩
/-- slots: 0 _law_parting, 1 _law_first, 2 _law_second, 3 _law_caught, 4 _law_found, 5 _law_error -/
abbrev s_law_told : Stmt := topS 20
theorem sc_law_told : FnScope ["_law_parting", "_law_first", "_law_second", "_law_caught", "_law_found", "_law_error"] ["_law_parting", "_law_first", "_law_second"] (defScope s_law_told) := ⟨rfl, rfl, rfl, by decide +kernel, rfl, by decide +kernel, by decide +kernel⟩
/-- slots: 0 _law_script, 1 _law_parting, 2 _law_handed, 3 _law_many (cell), 4 _law_places, 5 _law_first, 6 _law_second, 7 _law_due_here, 8 _law_told_here, 9 _law_odd, 10 _law_k -/
abbrev s_law : Stmt := topS 21
theorem sc_law : FnScope ["_law_script", "_law_parting", "_law_handed", "_law_many", "_law_places", "_law_first", "_law_second", "_law_due_here", "_law_told_here", "_law_odd", "_law_k"] ["_law_script"] (defScope s_law) := ⟨rfl, rfl, rfl, by decide +kernel, rfl, by decide +kernel, by decide +kernel⟩
structure Tx (K : PySem.W.Frag) (mg : Str → Option Value) where
  a_is_number : Addr
  d_is_number : FuncData
  F_is_number : Fun K "is_number" "is_number" s_is_number a_is_number d_is_number
  b_is_number : Binds K d_is_number ["thing"] []
  g_is_number : mg "is_number" = some (.ref a_is_number)
  a_is_parting : Addr
  d_is_parting : FuncData
  F_is_parting : Fun K "is_parting" "is_parting" s_is_parting a_is_parting d_is_parting
  b_is_parting : Binds K d_is_parting ["thing"] []
  g_is_parting : mg "is_parting" = some (.ref a_is_parting)
  a_check_parting : Addr
  d_check_parting : FuncData
  F_check_parting : Fun K "check_parting" "check_parting" s_check_parting a_check_parting d_check_parting
  b_check_parting : Binds K d_check_parting ["thing"] []
  g_check_parting : mg "check_parting" = some (.ref a_check_parting)
  a_let_down : Addr
  d_let_down : FuncData
  F_let_down : Fun K "let_down" "let_down" s_let_down a_let_down d_let_down
  b_let_down : Binds K d_let_down ["parting", "first", "second"] []
  g_let_down : mg "let_down" = some (.ref a_let_down)
  a_are_places : Addr
  d_are_places : FuncData
  F_are_places : Fun K "_are_places" "_are_places" s_are_places a_are_places d_are_places
  b_are_places : Binds K d_are_places ["parting", "first", "second"] []
  g_are_places : mg "_are_places" = some (.ref a_are_places)
  a_law_mixed : Addr
  d_law_mixed : FuncData
  F_law_mixed : Fun K "_law_mixed" "_law_mixed" s_law_mixed a_law_mixed d_law_mixed
  b_law_mixed : Binds K d_law_mixed ["_law_number_here", "_law_k"] []
  g_law_mixed : mg "_law_mixed" = some (.ref a_law_mixed)
  a_law_number : Addr
  d_law_number : FuncData
  F_law_number : Fun K "_law_number" "_law_number" s_law_number a_law_number d_law_number
  b_law_number : Binds K d_law_number ["_law_script", "_law_k"] []
  g_law_number : mg "_law_number" = some (.ref a_law_number)
  a_law_parting_by : Addr
  d_law_parting_by : FuncData
  F_law_parting_by : Fun K "_law_parting_by" "_law_parting_by" s_law_parting_by a_law_parting_by d_law_parting_by
  b_law_parting_by : Binds K d_law_parting_by ["_law_script", "_law_first"] []
  g_law_parting_by : mg "_law_parting_by" = some (.ref a_law_parting_by)
  a_law_is_row : Addr
  d_law_is_row : FuncData
  F_law_is_row : Fun K "_law_is_row" "_law_is_row" s_law_is_row a_law_is_row d_law_is_row
  b_law_is_row : Binds K d_law_is_row ["_law_found", "_law_due_here"] []
  g_law_is_row : mg "_law_is_row" = some (.ref a_law_is_row)
  a_law_name : Addr
  d_law_name : FuncData
  F_law_name : Fun K "_law_name" "_law_name" s_law_name a_law_name d_law_name
  b_law_name : Binds K d_law_name ["_law_error"] []
  g_law_name : mg "_law_name" = some (.ref a_law_name)
  a_law_due : Addr
  d_law_due : FuncData
  F_law_due : Fun K "_law_due" "_law_due" s_law_due a_law_due d_law_due
  b_law_due : Binds K d_law_due ["_law_parting", "_law_first", "_law_second"] []
  g_law_due : mg "_law_due" = some (.ref a_law_due)
  a_law_told : Addr
  d_law_told : FuncData
  F_law_told : Fun K "_law_told" "_law_told" s_law_told a_law_told d_law_told
  b_law_told : Binds K d_law_told ["_law_parting", "_law_first", "_law_second"] []
  g_law_told : mg "_law_told" = some (.ref a_law_told)
  a_law : Addr
  d_law : FuncData
  F_law : Fun K "law" "law" s_law a_law d_law
  b_law : Binds K d_law ["_law_script"] []
  g_law : mg "law" = some (.ref a_law)
  n_ValueError : mg "ValueError" = none
  n_all : mg "all" = none
  n_any : mg "any" = none
  n_bool : mg "bool" = none
  n_int : mg "int" = none
  n_isinstance : mg "isinstance" = none
  n_len : mg "len" = none
  n_list : mg "list" = none
  n_min : mg "min" = none
  n_range : mg "range" = none
  n_sorted : mg "sorted" = none
  n_sum : mg "sum" = none
  u_GREATEST_WHOLE : Value
  c_GREATEST_WHOLE : mg "GREATEST_WHOLE" = some u_GREATEST_WHOLE
  r_GREATEST_WHOLE : RelV (.int 200) u_GREATEST_WHOLE
  C_NoFit : Addr
  g_NoFit : mg "NoFit" = some (.ref C_NoFit)
  C_NoNumber : Addr
  g_NoNumber : mg "NoNumber" = some (.ref C_NoNumber)
  C_NoParting : Addr
  g_NoParting : mg "NoParting" = some (.ref C_NoParting)
  C_PartError : Addr
  g_PartError : mg "PartError" = some (.ref C_PartError)
  x_NoFit : PySem.W.excIn K C_NoFit [.type "ValueError", .type "Exception", .type "BaseException", .type "object"] "ValueError.__new__" = true
  k_NoFit : PySem.W.keepIn K (.ref C_NoFit) = true
  s_NoFit : PySem.W.subIn K (.ref C_NoFit) (.type "BaseException") = some true
  t_NoFit : PySem.W.typeIn K (.ref C_NoFit) = some (.type "type")
  e_NoFit : ExcC K C_NoFit
  m_NoFit_PartError : PySem.W.exmOne K (.ref C_NoFit) (.ref C_PartError) = some true
  q_NoFit_NoParting : PySem.W.kitOne K (.ref C_NoFit) (.ref C_NoParting) = some false
  q_NoFit_NoFit : PySem.W.kitOne K (.ref C_NoFit) (.ref C_NoFit) = some true
  q_NoFit_NoNumber : PySem.W.kitOne K (.ref C_NoFit) (.ref C_NoNumber) = some false
  q_NoFit_ValueError : PySem.W.kitOne K (.ref C_NoFit) (.type "ValueError") = some true
/-! ### the draws: _law_mixed, _law_number, _law_parting_by -/
def mixed (n k : Int) : Int := ((n % 2147483647 + 7919 * k * k + 31 * k) * 48271 % 2147483647) * (69621 + 2 * k) % 2147483629
theorem mixed_nn (n k : Int) : 0 ≤ mixed n k := Int.emod_nonneg _ (by decide)
theorem mixed_lt (n k : Int) : mixed n k < 2147483629 := Int.emod_lt_of_pos _ (by decide)
def numb (ns : List Int) (k : Int) : Int := if ns = [] then mixed 17 k else mixed (ns.getD (k % (ns.length : Int)).toNat 0) k
theorem numb_nn (ns : List Int) (k : Int) : 0 ≤ numb ns k := by
  unfold numb
  split
  · exact mixed_nn _ _
  · exact mixed_nn _ _
theorem numb_lt (ns : List Int) (k : Int) : numb ns k < 2147483629 := by
  unfold numb
  split
  · exact mixed_lt _ _
  · exact mixed_lt _ _
/-- what a parting is -/
def IsP (p : List Int) : Prop := (∀ x ∈ p, 1 ≤ x) ∧ p.Pairwise (fun a b => b ≤ a) ∧ p.sum ≤ 200
theorem sum_nn : ∀ {p : List Int}, (∀ x ∈ p, 0 ≤ x) → 0 ≤ p.sum
  | [], _ => Int.le_refl _
  | x :: r, h => by
    have h1 := h x List.mem_cons_self
    have h2 := sum_nn (p := r) fun y hy => h y (List.mem_cons_of_mem _ hy)
    rw [List.sum_cons]
    omega
theorem len_le_sum : ∀ {p : List Int}, (∀ x ∈ p, 1 ≤ x) → (p.length : Int) ≤ p.sum
  | [], _ => Int.le_refl _
  | x :: r, h => by
    have h1 := h x List.mem_cons_self
    have h2 := len_le_sum (p := r) fun y hy => h y (List.mem_cons_of_mem _ hy)
    rw [List.sum_cons, List.length_cons]
    omega
theorem IsP.len {p : List Int} (h : IsP p) : p.length ≤ 200 := by
  have h1 := len_le_sum h.1
  have h2 := h.2.2
  omega
theorem le_sum : ∀ {p : List Int}, (∀ x ∈ p, 0 ≤ x) → ∀ x ∈ p, x ≤ p.sum
  | [], _, x, hx => by cases hx
  | y :: r, h, x, hx => by
    have h1 := h y List.mem_cons_self
    have h2 := sum_nn (p := r) fun z hz => h z (List.mem_cons_of_mem _ hz)
    rw [List.sum_cons]
    rcases List.mem_cons.mp hx with e | hx
    · omega
    · have h3 := le_sum (p := r) (fun z hz => h z (List.mem_cons_of_mem _ hz)) x hx
      omega
theorem sum_append (a b : List Int) : (a ++ b).sum = a.sum + b.sum := List.sum_append
theorem sum_perm {a b : List Int} (h : a.Perm b) : a.sum = b.sum := by
  induction h with
  | nil => rfl
  | cons x _ ih => rw [List.sum_cons, List.sum_cons, ih]
  | swap x y l => rw [List.sum_cons, List.sum_cons, List.sum_cons, List.sum_cons]; omega
  | trans _ _ ih1 ih2 => exact ih1.trans ih2
theorem desc_reverse {l : List Int} (h : l.Pairwise (· ≤ ·)) : l.reverse.Pairwise (fun a b => b ≤ a) := List.pairwise_reverse.mpr h
section
variable {P : Program} {w : World} {K : PySem.W.Frag} {mg : Str → Option Value} {base : Heap}
def sp_law_mixed : Sp := fun vs H Q _ => ∃ n k : Int, vs = [.int n, .int k] ∧ 0 ≤ k ∧ k ≤ 100000 ∧ RetV (.int (mixed n k)) H Q
theorem ok_law_mixed (T : Tx K mg) : FnOk P w K mg base CX0 1 T.a_law_mixed T.d_law_mixed ["_law_number_here", "_law_k"] sp_law_mixed := by
  refine T.F_law_mixed.ok sc_law_mixed (fun vs H Q E h => ?_) (fun cdv A outer s H vs Q E hr h => ?_)
  · obtain ⟨n, k, rfl, _⟩ := h
    rfl
  · obtain ⟨n, k, rfl, k0, k1, q⟩ := h
    refine ⟨_, (pss_cons (ps_set (i := 0) sc_law_mixed.nd rfl (Or.inl rfl) (pe_op op_mod (pe_op op_mul (pe_op op_add (pe_op op_add (pe_op op_mod (pv 0) pe_int) (pe_op op_mul (pe_op op_mul pe_int (pv 1)) (pv 1))) (pe_op op_mul pe_int (pv 1))) pe_int) pe_int))
    (pss_one (ps_ret (pe_op op_mod (pe_op op_mul (pv 0) (pe_op op_add pe_int (pe_op op_mul pe_int (pv 1)))) pe_int)))), ?_⟩
    refine q_asg (ev_rI (ev_rI (ev_rI0 (ev_rI0 (ev_rI (ev_var rfl) ev_c (by decide)) (ev_rI (ev_rI ev_c (ev_var rfl) (.inl (by decide))) (ev_var rfl) (.inr (by omega)))) (ev_rI ev_c (ev_var rfl) (.inl (by decide)))) ev_c (.inr (by decide))) ev_c (by decide)) fun H1 e1 => ?_
    refine s_ret (ev_rI (ev_rI (ev_var rfl) (ev_rI0 ev_c (ev_rI ev_c (ev_var rfl) (.inl (by decide)))) (.inr (by omega))) ev_c (by decide)) fun H2 e2 => ?_
    exact q H2 (e1.trans e2)
theorem spv_mixed {n k : Int} {H : Hp} (k0 : 0 ≤ k) (k1 : k ≤ 100000) : SpV sp_law_mixed [.int n, .int k] H (.int (mixed n k)) := fun H1 _ _ q _ => ⟨n, k, rfl, k0, k1, q⟩
def sp_law_number (K : PySem.W.Frag) : Sp := fun vs H Q _ => ∃ (a : Addr) (ns : List Int) (k : Int), vs = [.ref a, .int k] ∧ SqL K H a (ns.map V.int) ∧ 0 ≤ k ∧ k ≤ 100000 ∧ RetV (.int (numb ns k)) H Q
theorem ok_law_number (T : Tx K mg) : FnOk P w K mg base CX0 2 T.a_law_number T.d_law_number ["_law_script", "_law_k"] (sp_law_number K) := by
  refine T.F_law_number.ok sc_law_number (fun vs H Q E h => ?_) (fun cdv A outer s H vs Q E hr h => ?_)
  · obtain ⟨a, ns, k, rfl, _⟩ := h
    rfl
  · obtain ⟨a, ns, k, rfl, hS, k0, k1, q⟩ := h
    refine ⟨_, (pss_cons (ps_if (pt_cmpR (eqK (K := K) rfl hr.units) (pv 0) (pe_lst pa_nil) (nomark _))
      (pss_one (ps_ret (pe_call (ok_law_mixed T) (hr.mono (by decide)) (by rfl) T.g_law_mixed T.F_law_mixed.kp T.b_law_mixed .nil pass0 (pa_cons pe_int (pa_cons (pv 1) pa_nil)))))
      pss_nil)
    (pss_one (ps_ret (pe_call (ok_law_mixed T) (hr.mono (by decide)) (by rfl) T.g_law_mixed T.F_law_mixed.kp T.b_law_mixed .nil pass0 (pa_cons (pe_ix (ixlK (K := K) rfl) (pv 0) (pe_op op_mod (pv 1) (pe_callB (lenK (K := K) rfl) (by rfl) T.n_len PySem.boot_len (pa_cons (pv 0) pa_nil))) (fun _ _ => rfl)) (pa_cons (pv 1) pa_nil)))))), ?_⟩
    refine q_when (b := decide (ns = [])) (et_test (ev_opL (ev_var rfl) (el_lst (vs := []) ea_nil (by decide)) fun p H1 hp e1 => rv_eqL (ys := []) (ex_l e1 hS) (sq_of hp))) (fun hb H1 e1 => ?_) (fun hb H1 e1 => ?_)
    · have hn : ns = [] := of_decide_eq_true hb
      refine s_ret (ev_call (ea_cons ev_c (ea_cons (ev_var rfl) ea_nil)) (spv_mixed k0 k1)) fun H2 e2 => ?_
      have := q H2 (e1.trans e2)
      unfold numb at this
      rw [if_pos hn] at this
      exact this
    · have hn : ns ≠ [] := of_decide_eq_false hb
      have hl : 0 < ns.length := List.length_pos_iff.mpr hn
      have h1 : 0 ≤ k % (ns.length : Int) := Int.emod_nonneg _ (by omega)
      have h2 : k % (ns.length : Int) < ns.length := Int.emod_lt_of_pos _ (by omega)
      have el : ((ns.map V.int).length : Int) = (ns.length : Int) := by rw [List.length_map]
      refine s_ret (ev_call (ea_cons (ev_ixI (ev_var rfl) (ev_is (ev_rI (ev_var rfl) (ev_cb (ea_cons (ev_var rfl) ea_nil) (rc_len (ex_l e1 hS))) (by rw [el]; omega)) (by rw [el])) (ex_l e1 hS) h1 h2) (ea_cons (ev_var rfl) ea_nil)) (spv_mixed k0 k1)) fun H2 e2 => ?_
      have := q H2 (e1.trans e2)
      unfold numb at this
      rw [if_neg hn] at this
      exact this
theorem spv_number {a : Addr} {ns : List Int} {k : Int} {H : Hp} (hS : SqL K H a (ns.map V.int)) (k0 : 0 ≤ k) (k1 : k ≤ 100000) : SpV (sp_law_number K) [.ref a, .int k] H (.int (numb ns k)) := fun H1 e _ q _ => ⟨a, ns, k, rfl, ex_l e hS, k0, k1, q⟩
/-- one of a few written numbers -/
theorem at_few {zs : List Int} {i : Int} (h0 : 0 ≤ i) (h1 : i < zs.length) (lo hi : Int) (hz : ∀ z ∈ zs, lo ≤ z ∧ z ≤ hi) : ∃ z, atI (zs.map V.int) i = some (.int z) ∧ lo ≤ z ∧ z ≤ hi := by
  obtain ⟨j, rfl⟩ := Int.eq_ofNat_of_zero_le h0
  have hj : j < zs.length := by omega
  refine ⟨zs[j], atI_nat ?_, hz _ (List.getElem_mem hj)⟩
  rw [List.getElem?_map, List.getElem?_eq_getElem hj]
  rfl
/-- a list of whole numbers, new, of which P is known -/
def RetLP (P : List Int → Prop) (H : Hp) (Q : VK) : Prop := ∀ (p : Addr) (ys : List Int) (H2 : Hp), H p = none → Ex H H2 → Ll H2 p ys → P ys → Q (.ref p) H2
def sp_law_parting_by (K : PySem.W.Frag) : Sp := fun vs H Q _ => ∃ (a : Addr) (ns : List Int) (k : Int), vs = [.ref a, .int k] ∧ SqL K H a (ns.map V.int) ∧ ns.length ≤ 63 ∧ 0 ≤ k ∧ k ≤ 1000 ∧ RetLP IsP H Q
theorem ok_law_parting_by (T : Tx K mg) : FnOk P w K mg base CX0 3 T.a_law_parting_by T.d_law_parting_by ["_law_script", "_law_first"] (sp_law_parting_by K) := by
  refine T.F_law_parting_by.ok sc_law_parting_by (fun vs H Q E h => ?_) (fun cdv A outer s H vs Q E hr h => ?_)
  · obtain ⟨a, ns, k, rfl, _⟩ := h
    rfl
  · obtain ⟨a, ns, k, rfl, hS, hlen, k0, k1, q⟩ := h
    refine ⟨_, (pss_cons (ps_set (i := 2) sc_law_parting_by.nd rfl (Or.inl rfl) (pe_call (ok_law_number T) (hr.mono (by decide)) (by rfl) T.g_law_number T.F_law_number.kp T.b_law_number .nil pass0 (pa_cons (pv 0) (pa_cons (pv 1) pa_nil))))
    (pss_cons (ps_set (i := 3) sc_law_parting_by.nd rfl (Or.inl rfl) (pe_ix (ixlK (K := K) rfl) (pe_lst (pa_cons pe_int (pa_cons pe_int (pa_cons pe_int (pa_cons pe_int (pa_cons pe_int (pa_cons pe_int pa_nil))))))) (pe_op op_mod (pv 2) pe_int) (fun _ _ => rfl)))
    (pss_cons (ps_set (i := 4) sc_law_parting_by.nd rfl (Or.inl rfl) (pe_ix (ixlK (K := K) rfl) (pe_lst (pa_cons (pe_callB (lenK (K := K) rfl) (by rfl) T.n_len PySem.boot_len (pa_cons (pv 0) pa_nil)) (pa_cons pe_int (pa_cons pe_int (pa_cons pe_int pa_nil))))) (pe_op op_mod (pe_op op_fdiv (pv 2) pe_int) pe_int) (fun _ _ => rfl)))
    (pss_cons (ps_set (i := 5) sc_law_parting_by.nd rfl (Or.inl rfl) (pe_lst pa_nil))
    (pss_cons (ps_for PassesOwn.never rfl (pi_range1 rfl T.n_range (pa_cons (pe_callB (call_min2 rfl) (by rfl) T.n_min (by decide +kernel) (pa_cons (pv 4) (pa_cons pe_int pa_nil))) pa_nil)) (pg_name (i := 6) sc_law_parting_by.nd rfl (Or.inl rfl))
      (pss_cons (ps_set (i := 7) sc_law_parting_by.nd rfl (Or.inl rfl) (pe_op op_add pe_int (pe_op op_mod (pe_call (ok_law_number T) (hr.mono (by decide)) (by rfl) T.g_law_number T.F_law_number.kp T.b_law_number .nil pass0 (pa_cons (pv 0) (pa_cons (pe_op op_add (pe_op op_add (pv 1) pe_int) (pv 6)) pa_nil))) (pv 3))))
      (pss_one (ps_if (pt_cmpR op_le (pe_op op_add (pe_callB (sumK (K := K) rfl rfl) (by rfl) T.n_sum (by decide +kernel) (pa_cons (pv 5) pa_nil)) (pv 7)) pe_int (nomark _))
        (pss_one (ps_expr (pe_bm PySem.F.plainAttrs_list PySem.F.slot_list_append PySem.F.type_list_append mt_append (pv 5) (pa_cons (pv 7) pa_nil))))
        pss_nil))))
    (pss_cons (ps_set (i := 5) sc_law_parting_by.nd rfl (Or.inl rfl) (pe_callB (sortedK (K := K) rfl) (by rfl) T.n_sorted (by decide +kernel) (pa_cons (pv 5) pa_nil)))
    (pss_cons (ps_expr (pe_bm0 PySem.F.plainAttrs_list PySem.F.slot_list_reverse PySem.F.type_list_reverse mt_reverse (pv 5)))
    (pss_one (ps_ret (pv 5)))))))))), ?_⟩
    refine q_asg (ev_call (ea_cons (ev_var rfl) (ea_cons (ev_var rfl) ea_nil)) (spv_number hS k0 (by omega))) fun H1 e1 => ?_
    have n0 := numb_nn ns k
    generalize numb ns k = m at n0 ⊢
    obtain ⟨c, hc, c1, c2⟩ := at_few (zs := [2, 4, 7, 12, 30, 90]) (i := m % 6) (by omega) (by show m % 6 < 6; omega) 2 90 (by decide)
    refine q_asg (ev_ixN (el_lst (ea_cons ev_c (ea_cons ev_c (ea_cons ev_c (ea_cons ev_c (ea_cons ev_c (ea_cons ev_c ea_nil)))))) (by decide)) (fun H2 _ => ev_rI (ev_var rfl) ev_c (by decide)) hc) fun H2 e2 => ?_
    obtain ⟨l, hl, l1, l2⟩ := at_few (zs := [(ns.length : Int), 3, 6, 40]) (i := m / 6 % 4) (by omega) (by show m / 6 % 4 < 4; omega) 0 63 (by
      intro z hz
      simp only [List.mem_cons, List.not_mem_nil, or_false] at hz
      omega)
    have el : ((ns.map V.int).length : Int) = (ns.length : Int) := by rw [List.length_map]
    refine q_asg (ev_ixN (el_lst (ea_cons (ev_is (ev_cb (ea_cons (ev_var rfl) ea_nil) (rc_len (ex_l (e1.trans e2) hS))) (by rw [el])) (ea_cons ev_c (ea_cons ev_c (ea_cons ev_c ea_nil)))) (by show 4 ≤ 100000; decide)) (fun H2 _ => ev_rI (ev_rI (ev_var rfl) ev_c ⟨by decide, by decide⟩) ev_c (by decide)) hl) fun H3 e3 => ?_
    refine q_asgL (xs := []) (el_lst ea_nil (by decide)) fun p H4 np e4 hp => ?_
    have e14 : Ex H H4 := ((e1.trans e2).trans e3).trans e4
    have npH : H p = none := fresh_back ((e1.trans e2).trans e3) np
    have hm : (if (60 : Int) < l then (60 : Int) else l) ≤ 60 := by split <;> omega
    have hm0 : 0 ≤ (if (60 : Int) < l then (60 : Int) else l) := by split <;> omega
    refine q_forR1 (ea_cons (ev_cb (ea_cons (ev_var rfl) (ea_cons ev_c ea_nil)) rc_min2) ea_nil) ⟨hm0, by omega⟩
      (fun i σ' H' => ∃ (fs : List Int) (y1 y2 : Option V), σ' = [some (.ref a), some (.int k), some (.int m), some (.int c), some (.int l), some (.ref p), y1, y2] ∧ Ex H H' ∧ Ll H' p fs ∧ (∀ x ∈ fs, 1 ≤ x) ∧ fs.sum ≤ 200)
      (fun H5 e5 => ⟨[], none, none, rfl, e14.trans e5, e5 _ _ hp, (fun x hx => by cases hx), by decide⟩) (fun i σ' H' hi hP => ?_) (fun σ' H' hP => ?_)
    · obtain ⟨fs, y1, y2, rfl, eH, hf, f1, f2⟩ := hP
      have hS' := ex_l eH hS
      have b0 := numb_nn ns (k + 1 + (i : Int))
      refine q_asg (ev_rI0 ev_c (ev_rI (ev_call (ea_cons (ev_var rfl) (ea_cons (ev_rI0 (ev_rI0 (ev_var rfl) ev_c) (ev_var rfl)) ea_nil)) (spv_number hS' (by omega) (by omega))) (ev_var rfl) (by omega))) fun H5 e5 => ?_
      have d0 : 0 ≤ numb ns (k + 1 + (i : Int)) % c := Int.emod_nonneg _ (by omega)
      generalize hd : numb ns (k + 1 + (i : Int)) % c = d at d0 ⊢
      refine s_when (b := decide (fs.sum + (1 + d) ≤ 200)) (et_test (ev_rI0 (ev_rI0 (ev_cb (ea_cons (ev_var rfl) ea_nil) (rc_sum (ex_l e5 hf.sq))) (ev_var rfl)) ev_c)) (fun hb H6 e6 => ?_) (fun hb H6 e6 => ?_)
      · have hle := of_decide_eq_true hb
        have hfl := len_le_sum f1
        refine s_app (xs := fs.map V.int) ((e5.trans e6) _ _ hf) (ev_var rfl) (ev_var rfl) (by rw [List.length_map]; omega) fun H7 e7 => ?_
        refine ⟨fs ++ [1 + d], _, _, rfl, ((eH.trans (e5.trans e6)).trans e7).mut npH, ?_, fun x hx => ?_, ?_⟩
        · show upd H7 p _ p = _
          rw [upd_same, List.map_append]
          rfl
        · rcases List.mem_append.mp hx with hx | hx
          · exact f1 x hx
          · rw [List.mem_singleton.mp hx]
            omega
        · rw [sum_append]
          show fs.sum + ((1 + d) + 0) ≤ 200
          omega
      · exact ⟨fs, _, _, rfl, eH.trans (e5.trans e6), (e5.trans e6) _ _ hf, f1, f2⟩
    · obtain ⟨fs, y1, y2, rfl, eH, hf, f1, f2⟩ := hP
      refine q_asgP (evP_sorted (ea_cons (ev_var rfl) ea_nil) hf.sq) fun v H5 e5 hv => ?_
      obtain ⟨o, ys, rfl, no, hp1, ho, hy⟩ := hv
      have noH : H o = none := fresh_back eH no
      refine q_rev (ev_var rfl) hy fun H6 e6 => ?_
      refine s_ret (ev_var rfl) fun H7 e7 => ?_
      refine q o ys.reverse H7 noH (((eH.trans (e5.trans e6)).mut noH).trans e7) (e7 _ _ ?_) ⟨fun x hx => ?_, desc_reverse ho, ?_⟩
      · rw [upd_same, List.map_reverse]
      · exact f1 x (hp1.mem_iff.mp (List.mem_reverse.mp hx))
      · rw [sum_perm (List.reverse_perm ys), sum_perm hp1]
        exact f2
theorem evP_parting {a : Addr} {ns : List Int} {k : Int} {σ : L2.St} {H : Hp} {ta : TA} {E : XK} (h : EvA ta σ H [.ref a, .int k]) (hS : SqL K H a (ns.map V.int)) (hl : ns.length ≤ 63) (k0 : 0 ≤ k) (k1 : k ≤ 1000) :
    EvP (tCall (sp_law_parting_by K) [] E ta) σ H (fun v H1 => ∃ (p : Addr) (ys : List Int), v = .ref p ∧ H p = none ∧ Ll H1 p ys ∧ IsP ys) :=
  evP_call h fun H1 e Q q E => ⟨a, ns, k, rfl, ex_l e hS, hl, k0, k1, fun p ys H2 np e2 hp hy => q _ _ e2 ⟨p, ys, rfl, fresh_back e np, hp, hy⟩⟩
end
/-! ### stairparts.partings: is_number, is_parting, check_parting -/
def partB : Int → Int → List Int → Bool
  | _, _, [] => true
  | ahead, whole, x :: r => if x < 1 ∨ ahead < x then false else if 200 < whole + x then false else partB x (whole + x) r
theorem partB_iff : ∀ (p : List Int) (ahead whole : Int), whole ≤ 200 → (partB ahead whole p = true ↔ (∀ x ∈ p, 1 ≤ x ∧ x ≤ ahead) ∧ p.Pairwise (fun a b => b ≤ a) ∧ whole + p.sum ≤ 200)
  | [], ahead, whole, h => by
    refine ⟨fun _ => ⟨fun x hx => (by cases hx), .nil, ?_⟩, fun _ => rfl⟩
    show whole + 0 ≤ 200
    omega
  | x :: r, ahead, whole, h => by
    show (if x < 1 ∨ ahead < x then false else if 200 < whole + x then false else partB x (whole + x) r) = true ↔ _
    rw [List.sum_cons, List.pairwise_cons]
    by_cases c : x < 1 ∨ ahead < x
    · rw [if_pos c]
      refine ⟨fun z => (by cases z), fun ⟨h1, _, _⟩ => ?_⟩
      have := h1 x List.mem_cons_self
      omega
    · rw [if_neg c]
      by_cases c2 : 200 < whole + x
      · rw [if_pos c2]
        refine ⟨fun z => (by cases z), fun ⟨h1, _, h3⟩ => ?_⟩
        have := sum_nn (p := r) fun y hy => (by have := h1 y (List.mem_cons_of_mem _ hy); omega)
        omega
      · rw [if_neg c2, partB_iff r x (whole + x) (by omega)]
        refine ⟨fun ⟨h1, h2, h3⟩ => ⟨fun y hy => ?_, ⟨fun y hy => (h1 y hy).2, h2⟩, by omega⟩, fun ⟨h1, h2, h3⟩ => ⟨fun y hy => ⟨(h1 y (List.mem_cons_of_mem _ hy)).1, h2.1 y hy⟩, h2.2, by omega⟩⟩
        rcases List.mem_cons.mp hy with e | hy
        · omega
        · have := h1 y hy
          omega
def isPart (p : List Int) : Bool := partB 200 0 p
theorem isPart_iff {p : List Int} : isPart p = true ↔ IsP p := by
  unfold isPart
  rw [partB_iff p 200 0 (by decide)]
  refine ⟨fun ⟨h1, h2, h3⟩ => ⟨fun x hx => (h1 x hx).1, h2, by omega⟩, fun ⟨h1, h2, h3⟩ => ⟨fun x hx => ⟨h1 x hx, ?_⟩, h2, by omega⟩⟩
  have := le_sum (fun y hy => (by have := h1 y hy; omega)) x hx
  omega
theorem IsP.is {p : List Int} (h : IsP p) : isPart p = true := isPart_iff.mpr h
section
variable {P : Program} {w : World} {K : PySem.W.Frag} {mg : Str → Option Value} {base : Heap}
def sp_is_number (K : PySem.W.Frag) : Sp := fun vs H Q _ => ∃ (x : V) (t : Value) (b1 b2 : Bool), vs = [x] ∧ (∀ H1, Ex H H1 → TyX K H1 x t) ∧ PySem.W.kitOne K t (.type "int") = some b1 ∧ PySem.W.kitOne K t (.type "bool") = some b2 ∧ RetV (.bl (b1 && !b2)) H Q
theorem ok_is_number (T : Tx K mg) : FnOk P w K mg base CX0 1 T.a_is_number T.d_is_number ["thing"] (sp_is_number K) := by
  refine T.F_is_number.ok sc_is_number (fun vs H Q E h => ?_) (fun cdv A outer s H vs Q E hr h => ?_)
  · obtain ⟨x, t, b1, b2, rfl, _⟩ := h
    rfl
  · obtain ⟨x, t, b1, b2, rfl, ty, k1, k2, q⟩ := h
    refine ⟨_, (pss_one (ps_ret (pe_and (pe_callB (isiK (K := K) rfl) (by rfl) T.n_isinstance (by decide +kernel) (pa_cons (pv 0) (pa_cons (pe_bltn (v := .ty "int") (u := .type "int") (by rfl) T.n_int (by decide +kernel) rfl) pa_nil))) (pe_one (pe_not (pe_callB (isiK (K := K) rfl) (by rfl) T.n_isinstance (by decide +kernel) (pa_cons (pv 0) (pa_cons (pe_bltn (v := .ty "bool") (u := .type "bool") (by rfl) T.n_bool (by decide +kernel) rfl) pa_nil)))))))), ?_⟩
    exact s_ret (ev_andV (ev_cb (ea_cons (ev_var rfl) (ea_cons ev_c ea_nil)) (rc_isi (.ty _) ty k1)) fun _ => ev_notV (ev_cb (ea_cons (ev_var rfl) (ea_cons ev_c ea_nil)) (rc_isi (.ty _) ty k2))) fun H1 e1 => q H1 e1
theorem spv_number_int {i : Int} {H : Hp} : SpV (sp_is_number K) [.int i] H (.bl true) := fun H1 e Q q _ =>
  ⟨.int i, .type "int", true, false, rfl, fun _ _ => .base (.int _), kit_ty (by decide +kernel), kit_ty (by decide +kernel), q⟩
def sp_is_parting : Sp := fun vs H Q _ => ∃ (a : Addr) (ns : List Int), vs = [.ref a] ∧ Ll H a ns ∧ RetV (.bl (isPart ns)) H Q
theorem ok_is_parting (T : Tx K mg) : FnOk P w K mg base CX0 2 T.a_is_parting T.d_is_parting ["thing"] sp_is_parting := by
  refine T.F_is_parting.ok sc_is_parting (fun vs H Q E h => ?_) (fun cdv A outer s H vs Q E hr h => ?_)
  · obtain ⟨a, ns, rfl, _⟩ := h
    rfl
  · obtain ⟨a, ns, rfl, hL, q⟩ := h
    refine ⟨_, (pss_cons (ps_if (pt_not (pt_val (pe_callB (isiK (K := K) rfl) (by rfl) T.n_isinstance (by decide +kernel) (pa_cons (pv 0) (pa_cons (pe_bltn (v := .ty "list") (u := .type "list") (by rfl) T.n_list (by decide +kernel) rfl) pa_nil)))))
      (pss_one (ps_ret pe_bl))
      pss_nil)
    (pss_cons (ps_set (i := 1) sc_is_parting.nd rfl (Or.inl rfl) pe_int)
    (pss_cons (ps_set (i := 2) sc_is_parting.nd rfl (Or.inl rfl) (pe_glob rfl T.c_GREATEST_WHOLE T.r_GREATEST_WHOLE))
    (pss_cons (ps_for PassesOwn.never rfl (pi_list (pv 0)) (pg_name (i := 3) sc_is_parting.nd rfl (Or.inl rfl))
      (pss_cons (ps_if (PW.pt (pw_or (pt_not (pt_val (pe_call (ok_is_number T) (hr.mono (by decide)) (by rfl) T.g_is_number T.F_is_number.kp T.b_is_number .nil pass0 (pa_cons (pv 3) pa_nil)))) (pw_or (pt_cmpR op_lt (pv 3) pe_int (nomark _)) (pw_or1 (pt_cmpR op_gt (pv 3) (pv 2) (nomark _))))))
        (pss_one (ps_ret pe_bl))
        pss_nil)
      (pss_cons (ps_set (i := 2) sc_is_parting.nd rfl (Or.inl rfl) (pv 3))
      (pss_cons (ps_aug (i := 1) sc_is_parting.nd rfl (Or.inl rfl) (pv 3) ip_add)
      (pss_one (ps_if (pt_cmpR op_gt (pv 1) (pe_glob rfl T.c_GREATEST_WHOLE T.r_GREATEST_WHOLE) (nomark _))
        (pss_one (ps_ret pe_bl))
        pss_nil))))))
    (pss_one (ps_ret pe_bl)))))), ?_⟩
    refine q_when (et_not (et_B (ev_cb (ea_cons (ev_var rfl) (ea_cons ev_c ea_nil)) (rc_isiL hL)))) (fun hb => by cases hb) (fun _ H1 e1 => ?_)
    refine q_asg ev_c fun H2 e2 => ?_
    refine q_asg ev_c fun H3 e3 => ?_
    have e13 := (e1.trans e2).trans e3
    refine q_forLn (ev_var rfl) (ex_l e13 hL.sq) (fun i σ' H' => ∃ (ah wh : Int) (y : Option V), σ' = [some (.ref a), some (.int wh), some (.int ah), y] ∧ Ex H H' ∧ isPart ns = partB ah wh (ns.drop i))
      (fun H4 e4 => ⟨200, 0, none, rfl, e13.trans e4, rfl⟩) (fun i σ' H' _ hP => ?_) (fun i x σ' H' hx hP => ?_) (fun σ' H' hP => ?_)
    · obtain ⟨ah, wh, y, rfl, eH, _⟩ := hP
      exact ex_l eH hL.sq
    · obtain ⟨ah, wh, y, rfl, eH, hp⟩ := hP
      obtain ⟨z, hz, rfl⟩ := get_int hx
      rw [drop_one hz] at hp
      have hp' : isPart ns = if z < 1 ∨ ah < z then false else if 200 < wh + z then false else partB z (wh + z) (ns.drop (i + 1)) := hp
      refine q_when (b := decide (z < 1) || decide (ah < z)) (et_is (et_or (et_not (et_B (ev_call (ea_cons (ev_var rfl) ea_nil) spv_number_int))) fun _ => et_or (et_test (ev_rI0 (ev_var rfl) ev_c)) fun _ => et_test (ev_rI0 (ev_var rfl) (ev_var rfl))) rfl) (fun hb H4 e4 => ?_) (fun hb H4 e4 => ?_)
      · refine s_ret ev_c fun H5 e5 => ?_
        rw [Bool.or_eq_true, decide_eq_true_eq, decide_eq_true_eq] at hb
        rw [if_pos hb] at hp'
        have := q H5 (eH.trans (e4.trans e5))
        rw [hp'] at this
        exact this
      · rw [Bool.or_eq_false_iff, decide_eq_false_iff_not, decide_eq_false_iff_not] at hb
        rw [if_neg (by omega)] at hp'
        refine q_asg (ev_var rfl) fun H5 e5 => ?_
        refine q_aug rfl (ev_var rfl) fun H6 e6 => ?_
        refine s_when (b := decide (200 < wh + z)) (et_test (ev_rI0 (ev_var rfl) ev_c)) (fun hb H7 e7 => ?_) (fun hb H7 e7 => ?_)
        · refine s_ret ev_c fun H8 e8 => ?_
          rw [if_pos (of_decide_eq_true hb)] at hp'
          have := q H8 (eH.trans ((((e4.trans e5).trans e6).trans e7).trans e8))
          rw [hp'] at this
          exact this
        · rw [if_neg (of_decide_eq_false hb)] at hp'
          exact ⟨z, wh + z, _, rfl, eH.trans (((e4.trans e5).trans e6).trans e7), hp'⟩
    · obtain ⟨ah, wh, y, rfl, eH, hp⟩ := hP
      have hp' : isPart ns = true := by
        rw [hp, List.drop_of_length_le (by rw [List.length_map]; exact Nat.le_refl _)]
        rfl
      refine s_ret ev_c fun H5 e5 => ?_
      have := q H5 (eH.trans e5)
      rw [hp'] at this
      exact this
theorem spv_is_parting {a : Addr} {ns : List Int} {H : Hp} (hL : Ll H a ns) : SpV sp_is_parting [.ref a] H (.bl (isPart ns)) := fun H1 e _ q _ => ⟨a, ns, rfl, e _ _ hL, q⟩
def sp_check_parting : Sp := fun vs H Q _ => ∃ (a : Addr) (ns : List Int), vs = [.ref a] ∧ Ll H a ns ∧ IsP ns ∧ RetV .non H Q
theorem ok_check_parting (T : Tx K mg) : FnOk P w K mg base CX0 3 T.a_check_parting T.d_check_parting ["thing"] sp_check_parting := by
  refine T.F_check_parting.ok sc_check_parting (fun vs H Q E h => ?_) (fun cdv A outer s H vs Q E hr h => ?_)
  · obtain ⟨a, ns, rfl, _⟩ := h
    rfl
  · obtain ⟨a, ns, rfl, hL, hp, q⟩ := h
    refine ⟨_, (pss_one (ps_if (pt_not (pt_val (pe_call (ok_is_parting T) (hr.mono (by decide)) (by rfl) T.g_is_parting T.F_is_parting.kp T.b_is_parting .nil pass0 (pa_cons (pv 0) pa_nil))))
      (pss_one ps_never)
      pss_nil)), ?_⟩
    refine s_when (et_not (et_B (ev_call (ea_cons (ev_var rfl) ea_nil) (spv_is_parting hL)))) (fun hb => ?_) (fun _ H1 e1 => q H1 e1)
    rw [hp.is] at hb
    cases hb
theorem spv_check {a : Addr} {ns : List Int} {H : Hp} (hL : Ll H a ns) (hp : IsP ns) : SpV sp_check_parting [.ref a] H .non := fun H1 e _ q _ => ⟨a, ns, rfl, e _ _ hL, hp, q⟩
end
/-! ### a box moved: the row, its parts and its sum -/
/-- the row with the box moved, a 0 behind -/
def moved (ns : List Int) (i j : Nat) : List Int := let r := (ns ++ [0]).set i ((ns ++ [0]).getD i 0 - 1); r.set j (r.getD j 0 + 1)
theorem get_getD {l : List Int} {j : Nat} (h : j < l.length) : l[j]? = some (l.getD j 0) := by
  rw [List.getD, List.getElem?_eq_getElem h]
  rfl
theorem moved_len (ns : List Int) (i j : Nat) : (moved ns i j).length = ns.length + 1 := by
  unfold moved
  simp
theorem moved_get {ns : List Int} {i j : Nat} (hij : i < j) (hj : j ≤ ns.length) (k : Nat) : (moved ns i j).getD k 0 = (if k = i then (ns ++ [0]).getD k 0 - 1 else if k = j then (ns ++ [0]).getD k 0 + 1 else (ns ++ [0]).getD k 0) := by
  have hl : (ns ++ [0]).length = ns.length + 1 := by simp
  unfold moved
  simp only [List.getD_eq_getElem?_getD]
  rw [List.getElem?_set]
  by_cases h1 : j = k
  · subst h1
    rw [if_pos rfl, if_neg (by omega : ¬ j = i), if_pos rfl, if_pos (by rw [List.length_set]; omega)]
    simp only [Option.getD_some]
    rw [List.getElem?_set_ne (by omega)]
  · rw [if_neg h1, List.getElem?_set]
    by_cases h2 : i = k
    · subst h2
      rw [if_pos rfl, if_pos rfl, if_pos (by omega)]
      rfl
    · rw [if_neg h2, if_neg (by omega), if_neg (by omega)]
theorem front_get {ns : List Int} {k : Nat} (h : k < ns.length) : (ns ++ [0]).getD k 0 = ns[k] := by
  simp [List.getD, List.getElem?_append_left h, h]
theorem back_get {ns : List Int} : (ns ++ [0]).getD ns.length 0 = 0 := by simp [List.getD]
theorem sum_set_at : ∀ {l : List Int} {k : Nat} (z : Int), k < l.length → (l.set k z).sum = l.sum - l.getD k 0 + z
  | [], _, _, h => by simp at h
  | a :: r, 0, z, _ => by
    show (z :: r).sum = (a :: r).sum - a + z
    rw [List.sum_cons, List.sum_cons]
    omega
  | a :: r, k + 1, z, h => by
    have ih := sum_set_at (l := r) (k := k) z (by simpa using h)
    show (a :: r.set k z).sum = (a :: r).sum - r.getD k 0 + z
    rw [List.sum_cons, List.sum_cons, ih]
    omega
theorem moved_sum {ns : List Int} {i j : Nat} (hij : i < j) (hj : j ≤ ns.length) : (moved ns i j).sum = ns.sum := by
  have hl : (ns ++ [0]).length = ns.length + 1 := by simp
  unfold moved
  rw [sum_set_at _ (by rw [List.length_set]; omega), sum_set_at _ (by omega), sum_append]
  simp only [List.sum_cons, List.sum_nil]
  omega
theorem mem_getD {l : List Int} {x : Int} (h : x ∈ l) : ∃ k, k < l.length ∧ l.getD k 0 = x := by
  obtain ⟨k, hk, e⟩ := List.mem_iff_getElem.mp h
  exact ⟨k, hk, by simp [List.getD, hk, e]⟩
theorem getD_mem {l : List Int} {k : Nat} (h : k < l.length) : l.getD k 0 ∈ l := by
  have : l.getD k 0 = l[k] := by simp [List.getD, h]
  rw [this]
  exact List.getElem_mem h
/-! ### stairparts.order: _are_places, let_down -/
/-- a value of which it is known whether it is a whole number -/
def isI : V → Bool
  | .int _ => true
  | _ => false
def NumV (K : PySem.W.Frag) (H : Hp) (x : V) : Prop := ∃ (t : Value) (b1 b2 : Bool), (∀ H1, Ex H H1 → TyX K H1 x t) ∧ PySem.W.kitOne K t (.type "int") = some b1 ∧ PySem.W.kitOne K t (.type "bool") = some b2 ∧ (b1 && !b2) = isI x
theorem NumV.mono {K : PySem.W.Frag} {H H' : Hp} {x : V} (e : Ex H H') (h : NumV K H x) : NumV K H' x := by
  obtain ⟨t, b1, b2, h1, h2⟩ := h
  exact ⟨t, b1, b2, fun H1 e1 => h1 H1 (e.trans e1), h2⟩
theorem numV_int {K : PySem.W.Frag} {H : Hp} {i : Int} : NumV K H (.int i) := ⟨.type "int", true, false, fun _ _ => .base (.int _), kit_ty (by decide +kernel), kit_ty (by decide +kernel), rfl⟩
theorem numV_bl {K : PySem.W.Frag} {H : Hp} {b : Bool} : NumV K H (.bl b) := ⟨.type "bool", true, true, fun _ _ => .base (.bl _), kit_ty (by decide +kernel), kit_ty (by decide +kernel), rfl⟩
theorem numV_non {K : PySem.W.Frag} {H : Hp} : NumV K H .non := ⟨.type "NoneType", false, false, fun _ _ => .base .non, kit_ty (by decide +kernel), kit_ty (by decide +kernel), rfl⟩
theorem numV_str {K : PySem.W.Frag} {H : Hp} {x : Str} : NumV K H (.str x) := ⟨.type "str", false, false, fun _ _ => .base (.str _), kit_ty (by decide +kernel), kit_ty (by decide +kernel), rfl⟩
theorem numV_lst {K : PySem.W.Frag} {H : Hp} {a : Addr} {zs : List V} (h : H a = some (.lst zs)) : NumV K H (.ref a) := ⟨.type "list", false, false, fun _ e => .base (.lst (e _ _ h)), kit_ty (by decide +kernel), kit_ty (by decide +kernel), rfl⟩
/-- whether these are places of a list of n parts, from which and to which a box may be let down -/
def arePl (n : Nat) : V → V → Bool
  | .int i, .int j => decide (0 ≤ i) && (decide (i < j) && decide (j ≤ (n : Int)))
  | _, _ => false
theorem arePl_iff {n : Nat} {x y : V} : arePl n x y = true ↔ ∃ i j : Nat, x = .int (i : Int) ∧ y = .int (j : Int) ∧ i < j ∧ j ≤ n := by
  constructor
  · intro h
    cases x with
    | int i =>
      cases y with
      | int j =>
        have h' : (decide (0 ≤ i) && (decide (i < j) && decide (j ≤ (n : Int)))) = true := h
        simp only [Bool.and_eq_true, decide_eq_true_eq] at h'
        exact ⟨i.toNat, j.toNat, by rw [Int.toNat_of_nonneg h'.1], by rw [Int.toNat_of_nonneg (by omega)], by omega, by omega⟩
      | _ => cases h
    | _ => cases h
  · rintro ⟨i, j, rfl, rfl, h1, h2⟩
    show (decide (0 ≤ (i : Int)) && (decide ((i : Int) < (j : Int)) && decide ((j : Int) ≤ (n : Int)))) = true
    simp only [Bool.and_eq_true, decide_eq_true_eq]
    omega
theorem arePl_not {n : Nat} {x y : V} (h : isI x = false ∨ isI y = false) : arePl n x y = false := by
  cases x <;> cases y <;> first | rfl | (rcases h with h | h <;> cases h)
def cutz (r : List Int) : List Int := if r.getLastD 1 = 0 then r.dropLast else r
/-- what let_down tells: none, a refusal -/
def ldV (ns : List Int) : V → V → Option (List Int)
  | .int i, .int j => if arePl ns.length (.int i) (.int j) = true ∧ isPart (cutz (moved ns i.toNat j.toNat)) = true then some (cutz (moved ns i.toNat j.toNat)) else none
  | _, _ => none
theorem ldV_no {ns : List Int} {x y : V} (h : arePl ns.length x y = false) : ldV ns x y = none := by
  cases x with
  | int i =>
    cases y with
    | int j =>
      show (if arePl ns.length (.int i) (.int j) = true ∧ isPart (cutz (moved ns i.toNat j.toNat)) = true then some (cutz (moved ns i.toNat j.toNat)) else none) = none
      rw [h, if_neg (fun z => by cases z.1)]
    | _ => rfl
  | _ => rfl
theorem ldV_at {ns : List Int} {i j : Nat} (h : i < j ∧ j ≤ ns.length) : ldV ns (.int (i : Int)) (.int (j : Int)) = if isPart (cutz (moved ns i j)) = true then some (cutz (moved ns i j)) else none := by
  have h1 : arePl ns.length (.int (i : Int)) (.int (j : Int)) = true := arePl_iff.mpr ⟨i, j, rfl, rfl, h.1, h.2⟩
  show (if arePl ns.length (.int (i : Int)) (.int (j : Int)) = true ∧ isPart (cutz (moved ns (i : Int).toNat (j : Int).toNat)) = true then some (cutz (moved ns (i : Int).toNat (j : Int).toNat)) else none) = _
  rw [h1, Int.toNat_natCast, Int.toNat_natCast]
  by_cases c : isPart (cutz (moved ns i j)) = true
  · rw [if_pos ⟨rfl, c⟩, if_pos c]
  · rw [if_neg (fun z => c z.2), if_neg c]
theorem at_back (l : List Int) (z : Int) : atI ((l ++ [z]).map V.int) (-1) = some (.int z) := by
  rw [List.map_append]
  exact atI_last _ _
section
variable {P : Program} {w : World} {K : PySem.W.Frag} {mg : Str → Option Value} {base : Heap}
theorem spv_isnum {x : V} {H : Hp} (h : NumV K H x) : SpV (sp_is_number K) [x] H (.bl (isI x)) := fun H1 e Q q _ => by
  obtain ⟨t, b1, b2, h1, h2, h3, h4⟩ := h
  refine ⟨x, t, b1, b2, rfl, fun H2 e2 => h1 H2 (e.trans e2), h2, h3, ?_⟩
  rw [h4]
  exact q
def sp_are_places (K : PySem.W.Frag) : Sp := fun vs H Q _ => ∃ (a : Addr) (ns : List Int) (x y : V), vs = [.ref a, x, y] ∧ Ll H a ns ∧ NumV K H x ∧ NumV K H y ∧ RetV (.bl (arePl ns.length x y)) H Q
theorem ok_are_places (T : Tx K mg) : FnOk P w K mg base CX0 2 T.a_are_places T.d_are_places ["parting", "first", "second"] (sp_are_places K) := by
  refine T.F_are_places.ok sc_are_places (fun vs H Q E h => ?_) (fun cdv A outer s H vs Q E hr h => ?_)
  · obtain ⟨a, ns, x, y, rfl, _⟩ := h
    rfl
  · obtain ⟨a, ns, x, y, rfl, hL, hx, hy, q⟩ := h
    refine ⟨_, (pss_one (ps_ret (pe_and (pe_call (ok_is_number T) (hr.mono (by decide)) (by rfl) T.g_is_number T.F_is_number.kp T.b_is_number .nil pass0 (pa_cons (pv 1) pa_nil)) (pe_and (pe_call (ok_is_number T) (hr.mono (by decide)) (by rfl) T.g_is_number T.F_is_number.kp T.b_is_number .nil pass0 (pa_cons (pv 2) pa_nil)) (pe_one (pe_chain3 op_le op_lt op_le pe_int (pv 1) (pv 2) (pe_callB (lenK (K := K) rfl) (by rfl) T.n_len PySem.boot_len (pa_cons (pv 0) pa_nil)))))))), ?_⟩
    have e1 : arePl ns.length x y = (isI x && (isI y && arePl ns.length x y)) := by
      cases hx' : isI x with
      | false => rw [arePl_not (.inl hx')]; rfl
      | true =>
        cases hy' : isI y with
        | false => rw [arePl_not (.inr hy')]; rfl
        | true => rw [Bool.true_and, Bool.true_and]
    rw [e1] at q
    refine s_ret (ev_andV (ev_call (ea_cons (ev_var rfl) ea_nil) (spv_isnum hx)) fun ix => ev_andV (ev_call (ea_cons (ev_var rfl) ea_nil) (spv_isnum hy)) fun iy => ?_) fun H1 e => q H1 e
    cases x with
    | int i =>
      cases y with
      | int j =>
        exact ev_is (ev_chain3 ev_c (ev_var rfl) (ev_var rfl) (ev_cb (ea_cons (ev_var rfl) ea_nil) (rc_len hL.sq))) (by rw [List.length_map]; rfl)
      | _ => cases iy
    | _ => cases ix
theorem spv_are {a : Addr} {ns : List Int} {x y : V} {H : Hp} (hL : Ll H a ns) (hx : NumV K H x) (hy : NumV K H y) : SpV (sp_are_places K) [.ref a, x, y] H (.bl (arePl ns.length x y)) := fun H1 e _ q _ => ⟨a, ns, x, y, rfl, e _ _ hL, hx.mono e, hy.mono e, q⟩
def sp_let_down (K : PySem.W.Frag) (C : Addr) : Sp := fun vs H Q E => ∃ (a : Addr) (ns : List Int) (x y : V), vs = [.ref a, x, y] ∧ Ll H a ns ∧ IsP ns ∧ NumV K H x ∧ NumV K H y ∧
  (ldV ns x y = none → ∀ H', Ex H H' → E (.ref C) none H') ∧ ∀ r, ldV ns x y = some r → RetL (r.map V.int) H Q
theorem getLastD_cut {r : List Int} {n : Nat} (h : r.length = n + 1) : r[n]? = some (r.getLastD 1) := by
  have hne : r ≠ [] := fun z => by rw [z] at h; cases h
  rw [List.getLastD_eq_getLast?, List.getLast?_eq_getElem?, h, Nat.add_sub_cancel, List.getElem?_eq_getElem (by omega)]
  rfl
theorem ok_let_down (T : Tx K mg) : FnOk P w K mg base (L2.CX P w) 4 T.a_let_down T.d_let_down ["parting", "first", "second"] (sp_let_down K T.C_NoFit) := by
  refine T.F_let_down.okX sc_let_down (fun vs H Q E h => ?_) (fun cdv A outer s H vs Q E hr h => ?_)
  · obtain ⟨a, ns, x, y, rfl, _⟩ := h
    rfl
  · obtain ⟨a, ns, x, y, rfl, hL, hp, hx, hy, qn, qs⟩ := h
    refine ⟨_, (pss_cons (ps_expr (pe_call (ok_check_parting T) (hr.mono (by decide)) (by rfl) T.g_check_parting T.F_check_parting.kp T.b_check_parting .nil pass0 (pa_cons (pv 0) pa_nil)))
    (pss_cons (ps_if (pt_not (pt_val (pe_call (ok_are_places T) (hr.mono (by decide)) (by rfl) T.g_are_places T.F_are_places.kp T.b_are_places .nil pass0 (pa_cons (pv 0) (pa_cons (pv 1) (pa_cons (pv 2) pa_nil))))))
      (pss_one (ps_raise rfl (takes_of rfl rfl rfl rfl) (pmk_own PySem.F.excBase_ValueError T.x_NoFit T.g_NoFit T.k_NoFit (raises_own T.s_NoFit T.t_NoFit) rfl)))
      pss_nil)
    (pss_cons (ps_set (i := 3) sc_let_down.nd rfl (Or.inl rfl) (pe_lst (StX.pa_star (pv 0) (pa_cons pe_int pa_nil))))
    (pss_cons (ps_augL (K := K) rfl (pv 3) (pv 1) pe_int ip_sub)
    (pss_cons (ps_augL (K := K) rfl (pv 3) (pv 2) pe_int ip_add)
    (pss_cut (ps_if (pt_cmpR op_eq (pe_ix (ixlK (K := K) rfl) (pv 3) (pe_un un_neg pe_int) (fun _ _ => rfl)) pe_int (nomark _))
      (pss_one (ps_expr (pe_bm0 PySem.F.plainAttrs_list PySem.F.slot_list_pop PySem.F.type_list_pop mt_pop (pv 3))))
      pss_nil)
    (pss_cons (ps_if (pt_not (pt_val (pe_call (ok_is_parting T) (hr.mono (by decide)) (by rfl) T.g_is_parting T.F_is_parting.kp T.b_is_parting .nil pass0 (pa_cons (pv 3) pa_nil))))
      (pss_one (ps_raise rfl (takes_of rfl rfl rfl rfl) (pmk_own PySem.F.excBase_ValueError T.x_NoFit T.g_NoFit T.k_NoFit (raises_own T.s_NoFit T.t_NoFit) rfl)))
      pss_nil)
    (pss_one (ps_ret (pv 3)))))))))), ?_⟩
    have hl := hp.len
    refine q_drop (ev_call (ea_cons (ev_var rfl) ea_nil) (spv_check hL hp)) fun H1 e1 => ?_
    refine q_when (et_not (et_B (ev_call (ea_cons (ev_var rfl) (ea_cons (ev_var rfl) (ea_cons (ev_var rfl) ea_nil))) (spv_are (e1 _ _ hL) (hx.mono e1) (hy.mono e1))))) (fun hb H2 e2 => ?_) (fun hb H2 e2 => ?_)
    · show E (.ref T.C_NoFit) none H2
      exact qn (ldV_no (by simpa using hb)) H2 (e1.trans e2)
    · have e12 := e1.trans e2
      obtain ⟨i, j, rfl, rfl, hij, hj⟩ := arePl_iff.mp (show arePl ns.length x y = true by simpa using hb)
      rw [ldV_at ⟨hij, hj⟩] at qn qs
      -- parts = [*parting, 0]
      refine q_asgL (xs := (ns ++ [0]).map V.int) (el_is (el_lst (ea_star (ev_var rfl) (Ll.sq (e12 _ _ hL)) (ea_cons ev_c ea_nil)) (by rw [List.length_append, List.length_map]; show ns.length + 1 ≤ 100000; omega)) (by rw [List.map_append]; rfl)) fun p H3 np e3 hp3 => ?_
      have nH : H p = none := fresh_back e12 np
      have l1 : (ns ++ [0]).length = ns.length + 1 := by rw [List.length_append]; rfl
      have g1 : (ns ++ [0])[i]? = some ((ns ++ [0]).getD i 0) := get_getD (by omega)
      refine q_augL (ev_var rfl) (ev_var rfl) ev_c hp3 g1 fun H4 e4 => ?_
      have m4 : Ex H (upd H4 p (.lst (((ns ++ [0]).set i ((ns ++ [0]).getD i 0 - 1)).map V.int))) := ((e12.trans e3).trans e4).mut nH
      have g2 : ((ns ++ [0]).set i ((ns ++ [0]).getD i 0 - 1))[j]? = some (((ns ++ [0]).set i ((ns ++ [0]).getD i 0 - 1)).getD j 0) := get_getD (by rw [List.length_set]; omega)
      refine q_augL (ev_var rfl) (ev_var rfl) ev_c upd_same g2 fun H5 e5 => ?_
      generalize hr5 : ((ns ++ [0]).set i ((ns ++ [0]).getD i 0 - 1)).set j (((ns ++ [0]).set i ((ns ++ [0]).getD i 0 - 1)).getD j 0 + 1) = r
      have er : moved ns i j = r := hr5
      have lr : r.length = ns.length + 1 := by rw [← er]; exact moved_len ns i j
      rw [er] at qn qs
      have m5 : Ex H (upd H5 p (.lst (r.map V.int))) := (m4.trans e5).mut nH
      generalize hH6 : upd H5 p (.lst (r.map V.int)) = H6 at m5
      have hp6 : Ll H6 p r := by rw [← hH6]; exact upd_same
      have glast := getLastD_cut lr
      have gat : atI (r.map V.int) (-1) = some (.int (r.getLastD 1)) := by
        have hne : r ≠ [] := fun z => by rw [z] at lr; cases lr
        have e := List.dropLast_concat_getLast hne
        have e2 : r.getLastD 1 = r.getLast hne := by rw [List.getLastD_eq_getLast?, List.getLast?_eq_getLast hne]; rfl
        have key := at_back r.dropLast (r.getLast hne)
        rw [e] at key
        rw [e2]
        exact key
      refine q_cut (M := fun σ' H' => σ' = [some (.ref a), some (.int (i : Int)), some (.int (j : Int)), some (.ref p)] ∧ Ex H H' ∧ Ll H' p (cutz r)) (s_when (b := decide (V.int (r.getLastD 1) = V.int 0)) (et_test (ev_eq (ev_op (ev_var rfl) (ev_un ev_c ru_neg) (rv_ixL hp6.sq gat)) ev_c rfl)) (fun hz H7 e7 => ?_) (fun hz H7 e7 => ?_)) fun σ' H' hM => ?_
      · have hz0 : r.getLastD 1 = 0 := V.int.inj (of_decide_eq_true hz)
        refine s_pop (w := V.int 0) (ev_var rfl) (e7 _ _ hp6) (by rw [List.length_map, List.getElem?_map, lr, Nat.add_sub_cancel, glast, hz0]; rfl) fun H8 e8 => ⟨rfl, ((m5.trans e7).trans e8).mut nH, ?_⟩
        show upd H8 p _ p = _
        rw [upd_same, cutz, if_pos hz0, List.map_dropLast]
      · have hz0 : ¬ r.getLastD 1 = 0 := fun z => by rw [z] at hz; simp at hz
        refine ⟨rfl, m5.trans e7, ?_⟩
        show H7 p = _
        rw [cutz, if_neg hz0]
        exact e7 _ _ hp6
      · obtain ⟨rfl, m7, hp7⟩ := hM
        refine q_when (et_not (et_B (ev_call (ea_cons (ev_var rfl) ea_nil) (spv_is_parting hp7)))) (fun hb H8 e8 => ?_) (fun hb H8 e8 => ?_)
        · show E (.ref T.C_NoFit) none H8
          have hb' : isPart (cutz r) = false := by simpa using hb
          rw [hb'] at qn
          exact qn rfl H8 (m7.trans e8)
        · have hb' : isPart (cutz r) = true := by simpa using hb
          rw [hb'] at qs
          exact s_ret (ev_var rfl) fun H9 e9 => qs _ rfl p H9 nH ((m7.trans e8).trans e9) ((e8.trans e9) _ _ hp7)
end
/-! ### the law's own box let down -/
/-- some part is greater than the one ahead -/
def ascB (r : List Int) : Bool := ((List.range (r.length - 1)).map fun t => decide (r.getD t 0 < r.getD (t + 1) 0)).any id
def dueL (ns : List Int) (i j : Nat) : Option (List Int) := if i < j ∧ j ≤ ns.length then (if ascB (moved ns i j) = true then none else some ((moved ns i j).filter fun z => decide (0 < z))) else none
theorem ascB_false {r : List Int} : ascB r = false ↔ r.Pairwise (fun a b => b ≤ a) := by
  unfold ascB
  rw [List.any_eq_false]
  constructor
  · intro h
    have step : ∀ t, t + 1 < r.length → r.getD (t + 1) 0 ≤ r.getD t 0 := fun t ht => by
      have := h (decide (r.getD t 0 < r.getD (t + 1) 0)) (List.mem_map.mpr ⟨t, List.mem_range.mpr (by omega), rfl⟩)
      simp only [id, decide_eq_true_eq] at this
      omega
    have far : ∀ d i, i + d < r.length → r.getD (i + d) 0 ≤ r.getD i 0 := by
      intro d
      induction d with
      | zero => exact fun i _ => Int.le_refl _
      | succ d ih =>
        intro i hi
        have h1 := ih i (by omega)
        have h2 := step (i + d) (by omega)
        have e : i + (d + 1) = i + d + 1 := by omega
        rw [e]
        omega
    rw [List.pairwise_iff_getElem]
    intro i j hi hj hij
    have h1 := far (j - i) i (by omega)
    rw [show i + (j - i) = j by omega] at h1
    simpa [List.getD, hi, hj] using h1
  · intro h b hb
    obtain ⟨t, ht, rfl⟩ := List.mem_map.mp hb
    have ht := List.mem_range.mp ht
    have h1 := List.pairwise_iff_getElem.mp h t (t + 1) (by omega) (by omega) (by omega)
    have e1 : r.getD t 0 = r[t] := by simp [List.getD, show t < r.length by omega]
    have e2 : r.getD (t + 1) 0 = r[t + 1] := by simp [List.getD, show t + 1 < r.length by omega]
    simp only [id, decide_eq_true_eq]
    rw [e1, e2]
    omega
/-- where no part is greater than the one ahead, all but the last are from 1 on -/
theorem moved_pos {ns : List Int} {i j : Nat} (hp : IsP ns) (hij : i < j) (hj : j ≤ ns.length) (hd : (moved ns i j).Pairwise (fun a b => b ≤ a)) (k : Nat) (hk : k < ns.length) : 1 ≤ (moved ns i j).getD k 0 := by
  have hl := moved_len ns i j
  have h1 := hp.1 ns[k] (List.getElem_mem hk)
  have e := moved_get hij hj k
  rw [front_get hk] at e
  by_cases c : k = i
  · -- the part that became less: not 0, for a later one is greater than 0
    have ej := moved_get hij hj j
    rw [if_neg (by omega), if_pos rfl] at ej
    have nn : 0 ≤ (ns ++ [0]).getD j 0 := by
      by_cases hjl : j < ns.length
      · rw [front_get hjl]
        have := hp.1 ns[j] (List.getElem_mem hjl)
        omega
      · rw [show j = ns.length by omega, back_get]
        exact Int.le_refl _
    have hle := List.pairwise_iff_getElem.mp hd i j (by omega) (by omega) hij
    have e1 : (moved ns i j).getD i 0 = (moved ns i j)[i] := by simp [List.getD, show i < (moved ns i j).length by omega]
    have e2 : (moved ns i j).getD j 0 = (moved ns i j)[j] := by simp [List.getD, show j < (moved ns i j).length by omega]
    rw [c]
    omega
  · rw [if_neg c] at e
    split at e <;> omega
theorem cutz_filter {ns : List Int} {i j : Nat} (hp : IsP ns) (hij : i < j) (hj : j ≤ ns.length) (hd : (moved ns i j).Pairwise (fun a b => b ≤ a)) : (moved ns i j).filter (fun z => decide (0 < z)) = cutz (moved ns i j) ∧ IsP (cutz (moved ns i j)) := by
  have hl := moved_len ns i j
  have hne : moved ns i j ≠ [] := fun z => by rw [z] at hl; cases hl
  have e := List.dropLast_concat_getLast hne
  have e2 : (moved ns i j).getLastD 1 = (moved ns i j).getLast hne := by rw [List.getLastD_eq_getLast?, List.getLast?_eq_getLast hne]; rfl
  have ld : (moved ns i j).dropLast.length = ns.length := by rw [List.length_dropLast, hl, Nat.add_sub_cancel]
  have front : ∀ x ∈ (moved ns i j).dropLast, 1 ≤ x := fun x hx => by
    obtain ⟨k, hk, rfl⟩ := mem_getD hx
    have h1 := moved_pos hp hij hj hd k (by omega)
    have e3 : (moved ns i j).dropLast.getD k 0 = (moved ns i j).getD k 0 := by
      simp only [List.getD_eq_getElem?_getD]
      rw [List.getElem?_dropLast, if_pos (by omega)]
    rw [e3]
    exact h1
  have f1 : (moved ns i j).dropLast.filter (fun z => decide (0 < z)) = (moved ns i j).dropLast := List.filter_eq_self.mpr fun x hx => by
    have := front x hx
    simp
    omega
  have hs := moved_sum (ns := ns) hij hj
  have h3 := hp.2.2
  have lastnn : 0 ≤ (moved ns i j).getLast hne := by
    have eg : (moved ns i j).getLast hne = (moved ns i j).getD ns.length 0 := by
      rw [List.getLast_eq_getElem]
      simp [List.getD, hl]
    rw [eg, moved_get hij hj, if_neg (by omega), back_get]
    split <;> omega
  have es : (moved ns i j).dropLast.sum + (moved ns i j).getLast hne = ns.sum := by
    rw [← hs]
    have e' := congrArg List.sum e
    rw [sum_append] at e'
    simp only [List.sum_cons, List.sum_nil] at e'
    omega
  have hdrop : (moved ns i j).dropLast.Pairwise (fun a b => b ≤ a) := hd.sublist (List.dropLast_sublist _)
  unfold cutz
  rw [e2]
  by_cases c : (moved ns i j).getLast hne = 0
  · rw [if_pos c]
    refine ⟨?_, front, hdrop, by omega⟩
    have k := congrArg (List.filter fun z => decide (0 < z)) e
    rw [List.filter_append, f1, c] at k
    rw [← k]
    simp
  · rw [if_neg c]
    refine ⟨?_, fun x hx => ?_, hd, by rw [hs]; exact h3⟩
    · have k := congrArg (List.filter fun z => decide (0 < z)) e
      rw [List.filter_append, f1] at k
      rw [← k]
      have : List.filter (fun z => decide (0 < z)) [(moved ns i j).getLast hne] = [(moved ns i j).getLast hne] := List.filter_eq_self.mpr fun x hx => by
        rw [List.mem_singleton.mp hx]
        simp
        omega
      rw [this]
      exact e
    · rw [← e] at hx
      rcases List.mem_append.mp hx with hx | hx
      · exact front x hx
      · rw [List.mem_singleton.mp hx]
        omega
/-- the program's box let down is the law's -/
theorem due_ld {ns : List Int} {i j : Nat} (hp : IsP ns) : ldV ns (.int (i : Int)) (.int (j : Int)) = dueL ns i j := by
  unfold dueL
  by_cases c : i < j ∧ j ≤ ns.length
  · rw [if_pos c, ldV_at c]
    cases h : ascB (moved ns i j) with
    | true =>
      rw [if_pos rfl]
      refine if_neg fun z => ?_
      have hz := isPart_iff.mp z
      have : ¬ (moved ns i j).Pairwise (fun a b => b ≤ a) := fun w => by
        rw [ascB_false.mpr w] at h
        cases h
      apply this
      -- cutz descending, and the last one is 0 where it was cut
      unfold cutz at hz
      by_cases cz : (moved ns i j).getLastD 1 = 0
      · rw [if_pos cz] at hz
        have hl := moved_len ns i j
        have hne : moved ns i j ≠ [] := fun z => by rw [z] at hl; cases hl
        have e := List.dropLast_concat_getLast hne
        have e2 : (moved ns i j).getLastD 1 = (moved ns i j).getLast hne := by rw [List.getLastD_eq_getLast?, List.getLast?_eq_getLast hne]; rfl
        rw [← e, ← e2, cz]
        refine List.pairwise_append.mpr ⟨hz.2.1, List.pairwise_singleton _ _, fun x hx y hy => ?_⟩
        rw [List.mem_singleton.mp hy]
        have := hz.1 x hx
        omega
      · rw [if_neg cz] at hz
        exact hz.2.1
    | false =>
      obtain ⟨h1, h2⟩ := cutz_filter hp c.1 c.2 (ascB_false.mp h)
      rw [if_pos (isPart_iff.mpr h2), if_neg Bool.false_ne_true, h1]
  · rw [if_neg c]
    refine ldV_no ?_
    cases h : arePl ns.length (.int (i : Int)) (.int (j : Int)) with
    | false => rfl
    | true =>
      obtain ⟨i', j', h1, h2, h3, h4⟩ := arePl_iff.mp h
      have e1 := V.int.inj h1
      have e2 := V.int.inj h2
      exact absurd ⟨by omega, by omega⟩ c
/-! ### _law_is_row -/
section
variable {P : Program} {w : World} {K : PySem.W.Frag} {mg : Str → Option Value} {base : Heap}
def sp_law_is_row : Sp := fun vs H Q _ => ∃ (a b : Addr) (xs ys : List Int), vs = [.ref a, .ref b] ∧ Ll H a xs ∧ Ll H b ys ∧ xs.length ≤ 40000 ∧ RetV (.bl (decide (xs = ys))) H Q
theorem all_true (xs : List Int) : ((xs.map fun _ => true).all id) = true := by
  rw [List.all_eq_true]
  intro b hb
  obtain ⟨_, _, rfl⟩ := List.mem_map.mp hb
  rfl
theorem ok_law_is_row (T : Tx K mg) : FnOk P w K mg base CX0 1 T.a_law_is_row T.d_law_is_row ["_law_found", "_law_due_here"] sp_law_is_row := by
  refine T.F_law_is_row.ok sc_law_is_row (fun vs H Q E h => ?_) (fun cdv A outer s H vs Q E hr h => ?_)
  · obtain ⟨a, b, xs, ys, rfl, _⟩ := h
    rfl
  · obtain ⟨a, b, xs, ys, rfl, hx, hy, hz, q⟩ := h
    refine ⟨_, (pss_cons (ps_if (PW.pt (pw_or (pt_not (pt_val (pe_callB (isiK (K := K) rfl) (by rfl) T.n_isinstance (by decide +kernel) (pa_cons (pv 0) (pa_cons (pe_bltn (v := .ty "list") (u := .type "list") (by rfl) T.n_list (by decide +kernel) rfl) pa_nil))))) (pw_or1 (pt_cmpR (neK (K := K) rfl hr.units) (pv 0) (pv 1) (nomark _)))))
      (pss_one (ps_ret pe_bl))
      pss_nil)
    (pss_one (ps_ret (pe_callB (allK (K := K) rfl rfl) (by rfl) T.n_all (by decide +kernel) (pa_cons (pe_lc (own := [("_law_one", 2)]) (g := gName 2) (by rfl) sc_law_is_row.nd (pi_list (pv 0)) (blkOk_by (own := [("_law_one", 2)]) (N := ["_law_found", "_law_due_here", "_law_one"]) (sc := defScope s_law_is_row) (by decide +kernel)) (fun _ _ _ _ _ => (pg_name (i := 2) sc_law_is_row.nd rfl (Or.inl rfl))) (fun _ _ _ _ _ => pts_nil) (fun _ _ _ _ _ => (pe_and (pe_callB (isiK (K := K) rfl) (by rfl) T.n_isinstance (by decide +kernel) (pa_cons (pv 2) (pa_cons (pe_bltn (v := .ty "int") (u := .type "int") (by rfl) T.n_int (by decide +kernel) rfl) pa_nil))) (pe_one (pe_not (pe_callB (isiK (K := K) rfl) (by rfl) T.n_isinstance (by decide +kernel) (pa_cons (pv 2) (pa_cons (pe_bltn (v := .ty "bool") (u := .type "bool") (by rfl) T.n_bool (by decide +kernel) rfl) pa_nil)))))))) pa_nil))))), ?_⟩
    refine q_when (et_or (et_not (et_B (ev_cb (ea_cons (ev_var rfl) (ea_cons ev_c ea_nil)) (rc_isiL hx)))) fun _ => et_test (ev_op (ev_var rfl) (ev_var rfl) (rv_neL hx.sq hy.sq))) (fun hb H1 e1 => ?_) (fun hb H1 e1 => ?_)
    · refine s_ret ev_c fun H2 e2 => ?_
      have hn : decide (xs = ys) = false := by
        cases h : decide (xs = ys) with
        | false => rfl
        | true => rw [h] at hb; cases hb
      have := q H2 (e1.trans e2)
      rw [hn] at this
      exact this
    · have hn : decide (xs = ys) = true := by
        cases h : decide (xs = ys) with
        | true => rfl
        | false => rw [h] at hb; cases hb
      refine s_ret (ev_cbL (el_is (el_lcIA (fun _ => V.bl true) (ev_var rfl) (Ll.sq (e1 _ _ hx)) hz (fun _ => rfl) fun z H2 _ _ => ev_andV (ev_cb (ea_cons (ev_var rfl) (ea_cons ev_c ea_nil)) rc_isiInt) fun _ => ev_notV (ev_cb (ea_cons (ev_var rfl) (ea_cons ev_c ea_nil)) rc_isiBool))
        (show xs.map (fun _ => V.bl true) = (xs.map fun _ => true).map V.bl from (List.map_map).symm)) fun p H2 _ hp => rc_all (sq_of hp)) fun H2 e2 => ?_
      rw [all_true]
      have := q H2 (e1.trans e2)
      rw [hn] at this
      exact this
theorem spv_row {a b : Addr} {xs ys : List Int} {H : Hp} (hx : Ll H a xs) (hy : Ll H b ys) (hz : xs.length ≤ 40000) : SpV sp_law_is_row [.ref a, .ref b] H (.bl (decide (xs = ys))) := fun H1 e _ q _ => ⟨a, b, xs, ys, rfl, e _ _ hx, e _ _ hy, hz, q⟩
end
/-! ### _law_name -/
section
variable {P : Program} {w : World} {K : PySem.W.Frag} {mg : Str → Option Value} {base : Heap}
/-- the name of the refusal NoFit -/
def sp_law_name (C : Addr) : Sp := fun vs H Q _ => ∃ e : Addr, vs = [.ref e] ∧ H e = some (ErrO (.ref C) e) ∧ RetV (.str "fit") H Q
theorem ok_law_name (T : Tx K mg) : FnOk P w K mg base CX0 1 T.a_law_name T.d_law_name ["_law_error"] (sp_law_name T.C_NoFit) := by
  refine T.F_law_name.ok sc_law_name (fun vs H Q E h => ?_) (fun cdv A outer s H vs Q E hr h => ?_)
  · obtain ⟨e, rfl, _⟩ := h
    rfl
  · obtain ⟨e, rfl, he, q⟩ := h
    refine ⟨_, (pss_cons (ps_set (i := 1) sc_law_name.nd rfl (Or.inl rfl) (pe_lst (pa_cons (pe_callB (isxK (K := K) rfl) (by rfl) T.n_isinstance (by decide +kernel) (pa_cons (pv 0) (pa_cons (pe_glob (v := .ref T.C_NoParting) rfl T.g_NoParting rfl) pa_nil))) (pa_cons (pe_callB (isxK (K := K) rfl) (by rfl) T.n_isinstance (by decide +kernel) (pa_cons (pv 0) (pa_cons (pe_glob (v := .ref T.C_NoFit) rfl T.g_NoFit rfl) pa_nil))) (pa_cons (pe_callB (isxK (K := K) rfl) (by rfl) T.n_isinstance (by decide +kernel) (pa_cons (pv 0) (pa_cons (pe_glob (v := .ref T.C_NoNumber) rfl T.g_NoNumber rfl) pa_nil))) pa_nil)))))
    (pss_cons (ps_if (PW.pt (pw_or (pt_cmpR op_ne (pe_bm PySem.F.plainAttrs_list PySem.F.slot_list_count PySem.F.type_list_count (mt_countB (K := K) rfl) (pv 1) (pa_cons pe_bl pa_nil)) pe_int (nomark _)) (pw_or1 (pt_not (pt_val (pe_callB (isxK (K := K) rfl) (by rfl) T.n_isinstance (by decide +kernel) (pa_cons (pv 0) (pa_cons (pe_bltn (v := .ty "ValueError") (u := .type "ValueError") (by rfl) T.n_ValueError (by decide +kernel) rfl) pa_nil))))))))
      (pss_one (ps_ret pe_str))
      pss_nil)
    (pss_one (ps_ret (pe_ix (ixlK (K := K) rfl) (pe_lst (pa_cons pe_str (pa_cons pe_str (pa_cons pe_str pa_nil)))) (pe_bm PySem.F.plainAttrs_list PySem.F.slot_list_index PySem.F.type_list_index mt_index (pv 1) (pa_cons pe_bl pa_nil)) (fun _ _ => rfl)))))), ?_⟩
    refine q_asgL (xs := [false, true, false].map V.bl) (el_lst (ea_cons (ev_cb (ea_cons (ev_var rfl) (ea_cons ev_c ea_nil)) (rc_isx he T.e_NoFit (.own _) T.q_NoFit_NoParting)) (ea_cons (ev_cb (ea_cons (ev_var rfl) (ea_cons ev_c ea_nil)) (rc_isx he T.e_NoFit (.own _) T.q_NoFit_NoFit)) (ea_cons (ev_cb (ea_cons (ev_var rfl) (ea_cons ev_c ea_nil)) (rc_isx he T.e_NoFit (.own _) T.q_NoFit_NoNumber)) ea_nil))) (by decide)) fun p H1 np e1 hp => ?_
    refine q_when (et_or (et_test (ev_ne (ev_countB (ev_var rfl) (sq_of hp) (ea_cons ev_c ea_nil)) ev_c rfl)) fun _ => et_not (et_B (ev_cb (ea_cons (ev_var rfl) (ea_cons ev_c ea_nil)) (rc_isx (e1 _ _ he) T.e_NoFit (.ty _) T.q_NoFit_ValueError)))) (fun hb => absurd hb (by decide)) (fun _ H2 e2 => ?_)
    refine s_ret (ev_ixN (i := 1) (el_lst (ea_cons ev_c (ea_cons ev_c (ea_cons ev_c ea_nil))) (by decide)) (fun H3 e3 => ev_indexB (n := 1) (ev_var rfl) (sq_of (e3 _ _ (e2 _ _ hp))) (ea_cons ev_c ea_nil) rfl (fun m c hm hc => ?_)) rfl) fun H3 e3 => q H3 ((e1.trans e2).trans e3)
    have : m = 0 := by omega
    subst this
    cases hc
    exact Bool.false_ne_true
theorem spv_name {e C : Addr} {H : Hp} (he : H e = some (ErrO (.ref C) e)) : SpV (sp_law_name C) [.ref e] H (.str "fit") := fun H1 ex _ q _ => ⟨e, rfl, ex _ _ he, q⟩
/-- two written texts against what was told -/
theorem rv_neTT {t u : Addr} {H : Hp} {a b : Str} (h1 : H t = some (.tup [.str a, .str b])) (h2 : H u = some (.tup [.str a, .str b])) (ha : PyData.strOk a = true) (hb : PyData.strOk b = true) : RV (rNeD K) (.ref t) (.ref u) H (.bl false) := fun H1 e Q q => by
  have sh : SeqAt.shaped (.tuple [.str a, .str b]) = true := by
    unfold SeqAt.shaped
    simp [PyData.canLay0, PyData.canLayAll0, PyData.depth, PyData.depthAll, ha, hb]
  have eq1 : PyData.eqv (.tuple [.str a, .str b]) (.tuple [.str a, .str b]) = true := by simp [PyData.eqv, PyData.eqvAll]
  refine ⟨.tuple [.str a, .str b], .tuple [.str a, .str b], .tup (st_of (e _ _ h1)) (.cons (.str a) (.cons (.str b) .nil)), .tup (st_of (e _ _ h2)) (.cons (.str a) (.cons (.str b) .nil)), sh, sh, ?_⟩
  rw [eq1]
  exact q H1 (Ex.refl H1)
end
/-! ### the law's helpers: _law_due, _law_name, _law_told -/
section
variable {P : Program} {w : World} {K : PySem.W.Frag} {mg : Str → Option Value} {base : Heap}
def sp_law_due : Sp := fun vs H Q _ => ∃ (a : Addr) (ns : List Int) (i j : Nat), vs = [.ref a, .int (i : Int), .int (j : Int)] ∧ Ll H a ns ∧ ns.length ≤ 200 ∧ (dueL ns i j = none → RetV .non H Q) ∧ ∀ r, dueL ns i j = some r → RetL (r.map V.int) H Q
theorem ok_law_due (T : Tx K mg) : FnOk P w K mg base CX0 1 T.a_law_due T.d_law_due ["_law_parting", "_law_first", "_law_second"] sp_law_due := by
  refine T.F_law_due.ok sc_law_due (fun vs H Q E h => ?_) (fun cdv A outer s H vs Q E hr h => ?_)
  · obtain ⟨a, ns, i, j, rfl, _⟩ := h
    rfl
  · obtain ⟨a, ns, i, j, rfl, hL, hl, qn, qs⟩ := h
    refine ⟨_, (pss_cons (ps_if (pt_not (pt_chain op_lt op_le (pv 1) (pv 2) (pe_callB (lenK (K := K) rfl) (by rfl) T.n_len PySem.boot_len (pa_cons (pv 0) pa_nil))))
      (pss_one (ps_ret pe_non))
      pss_nil)
    (pss_cons (ps_set (i := 3) sc_law_due.nd rfl (Or.inr rfl) (pe_op op_cat (pv 0) (pe_lst (pa_cons pe_int pa_nil))))
    (pss_cons (ps_asg (pe_op op_sub (pe_ix (ixlK (K := K) rfl) (pv 3) (pv 1) (fun _ _ => rfl)) pe_int) (pg_sub (pv 3) (pv 1) set_list))
    (pss_cons (ps_asg (pe_op op_add (pe_ix (ixlK (K := K) rfl) (pv 3) (pv 2) (fun _ _ => rfl)) pe_int) (pg_sub (pv 3) (pv 2) set_list))
    (pss_cons (ps_if (pt_val (pe_callB (anyK (K := K) rfl rfl) (by rfl) T.n_any (by decide +kernel) (pa_cons (pe_lc (own := [("_law_k", 5)]) (g := gName 5) (by rfl) sc_law_due.nd (pi_range2 (by rfl) T.n_range (pa_cons pe_int (pa_cons (pe_callB (lenK (K := K) rfl) (by rfl) T.n_len PySem.boot_len (pa_cons (pv 3) pa_nil)) pa_nil))) (blkOk_by (own := [("_law_k", 5)]) (N := ["_law_parting", "_law_first", "_law_second", "_law_row", "_law_part", "_law_k"]) (sc := defScope s_law_due) (by decide +kernel)) (fun _ _ _ _ _ => (pg_name (i := 5) sc_law_due.nd rfl (Or.inl rfl))) (fun _ _ _ _ _ => pts_nil) (fun _ _ _ _ _ => (pe_cmpR op_gt (pe_ix (ixlK (K := K) rfl) (pv 3) (pv 5) (fun _ _ => rfl)) (pe_ix (ixlK (K := K) rfl) (pv 3) (pe_op op_sub (pv 5) pe_int) (fun _ _ => rfl)) (nomark _)))) pa_nil)))
      (pss_one (ps_ret pe_non))
      pss_nil)
    (pss_one (ps_ret (pe_lc (own := [("_law_part", 4)]) (g := gName 4) (by rfl) sc_law_due.nd (pi_list (pv 3)) (blkOk_by (own := [("_law_part", 4)]) (N := ["_law_parting", "_law_first", "_law_second", "_law_row", "_law_part", "_law_k"]) (sc := defScope s_law_due) (by decide +kernel)) (fun _ _ _ _ _ => (pg_name (i := 4) sc_law_due.nd rfl (Or.inl rfl))) (fun _ _ _ _ _ => pts_one (pt_cmpR op_gt (pv 4) pe_int (nomark _))) (fun _ _ _ _ _ => (pv 4)))))))))), ?_⟩
    have eln : ((ns.map V.int).length : Int) = (ns.length : Int) := by rw [List.length_map]
    refine q_when (et_not (et_test (ev_chain2 (ev_var rfl) (ev_var rfl) (ev_cb (ea_cons (ev_var rfl) ea_nil) (rc_len hL.sq))))) (fun hb H1 e1 => ?_) (fun hb H1 e1 => ?_)
    · refine s_ret ev_c fun H2 e2 => qn ?_ H2 (e1.trans e2)
      unfold dueL
      refine if_neg fun c => ?_
      rw [eln, decide_eq_true (show (i : Int) < (j : Int) by omega), decide_eq_true (show (j : Int) ≤ (ns.length : Int) by omega)] at hb
      cases hb
    · rw [eln] at hb
      have hb' : (decide ((i : Int) < (j : Int)) && decide ((j : Int) ≤ (ns.length : Int))) = true := by simpa using hb
      rw [Bool.and_eq_true, decide_eq_true_eq, decide_eq_true_eq] at hb'
      have hij : i < j := by omega
      have hj : j ≤ ns.length := by omega
      unfold dueL at qn qs
      rw [if_pos ⟨hij, hj⟩] at qn qs
      -- row = parting + [0]
      refine q_asgL (xs := (ns ++ [0]).map V.int) (el_is (el_catR (ev_var rfl) (el_lst (ea_cons ev_c ea_nil) (by show 1 ≤ 100000; decide)) (e1 _ _ hL) (by rw [List.length_map]; show ns.length + 1 ≤ 100000; omega)) (by rw [List.map_append]; rfl)) fun p H2 np e2 hp2 => ?_
      have nH : H p = none := fresh_back e1 np
      have l1 : (ns ++ [0]).length = ns.length + 1 := by rw [List.length_append]; rfl
      refine q_setL hp2 (ev_rI0 (ev_ixJ (ev_var rfl) (ev_var rfl) (Ll.sq hp2) (by omega)) ev_c) (ev_var rfl) (ev_var rfl) (by rw [List.length_map]; omega) fun H3 e3 => ?_
      have m3 := ((e1.trans e2).trans e3).mut (o := .lst (((ns ++ [0]).map V.int).set i (.int ((ns ++ [0]).getD i 0 - 1)))) nH
      have hp3 : Ll (upd H3 p (.lst (((ns ++ [0]).map V.int).set i (.int ((ns ++ [0]).getD i 0 - 1))))) p ((ns ++ [0]).set i ((ns ++ [0]).getD i 0 - 1)) := by
        show upd H3 p _ p = _
        rw [upd_same, List.map_set]
      refine q_setL hp3 (ev_rI0 (ev_ixJ (ev_var rfl) (ev_var rfl) (Ll.sq hp3) (by rw [List.length_set]; omega)) ev_c) (ev_var rfl) (ev_var rfl) (by rw [List.length_map, List.length_set]; omega) fun H4 e4 => ?_
      generalize hX : upd H4 p (.lst ((((ns ++ [0]).set i ((ns ++ [0]).getD i 0 - 1)).map V.int).set j (.int (((ns ++ [0]).set i ((ns ++ [0]).getD i 0 - 1)).getD j 0 + 1)))) = HX
      have mX : Ex H HX := by
        rw [← hX]
        exact (m3.trans e4).mut nH
      have hpX : Ll HX p (moved ns i j) := by
        rw [← hX]
        show upd H4 p _ p = _
        rw [upd_same]
        unfold moved
        simp only [List.map_set]
      have lm := moved_len ns i j
      generalize moved ns i j = r at qn qs hpX lm
      have elr : ((r.map V.int).length : Int) = (r.length : Int) := by rw [List.length_map]
      refine q_when (b := ascB r) (et_B (ev_is (ev_cbL (el_is (el_lcR2A (fun t => V.bl (decide (r.getD t 0 < r.getD (t + 1) 0))) (n := (r.length : Int)) (ea_cons ev_c (ea_cons (ev_is (ev_cb (ea_cons (ev_var rfl) ea_nil) (rc_len hpX.sq)) (by rw [elr])) ea_nil)) ⟨by decide, by decide, by omega, by omega⟩ (fun _ => rfl) fun t H5 e5 ht =>
          ev_is (ev_rI0 (ev_ixI (ev_var rfl) (ev_var rfl) (Ll.sq (e5 _ _ hpX)) (by omega) (by omega)) (ev_ixI (ev_var rfl) (ev_rI0 (ev_var rfl) ev_c) (Ll.sq (e5 _ _ hpX)) (by omega) (by omega))) (by
            rw [show (1 + (t : Int)).toNat = t + 1 by omega, show (1 + (t : Int) - 1).toNat = t by omega]))
          (show _ = ((List.range (r.length - 1)).map fun t => decide (r.getD t 0 < r.getD (t + 1) 0)).map V.bl by rw [show ((r.length : Int) - 1).toNat = r.length - 1 by omega, List.map_map]; rfl)) fun o H5 _ ho => rc_any (sq_of ho)) rfl)) (fun hb H5 e5 => ?_) (fun hb H5 e5 => ?_)
      · rw [if_pos hb] at qn
        exact s_ret ev_c fun H6 e6 => qn rfl H6 ((mX.trans e5).trans e6)
      · rw [if_neg (by rw [hb]; exact Bool.false_ne_true)] at qs
        refine s_retL (el_lcI (fun z => decide (0 < z)) V.int (ev_var rfl) (Ll.sq (e5 _ _ hpX)) (by omega) (fun _ => rfl) (fun z H6 _ _ => et_test (ev_rI0 (ev_var rfl) ev_c)) fun z H6 _ _ _ => ev_var rfl) fun o H6 no e6 h6 => ?_
        exact qs _ rfl o H6 (fresh_back (mX.trans e5) no) ((mX.trans e5).trans e6) h6
def sp_law_told (K : PySem.W.Frag) : Sp := fun vs H Q _ => ∃ (a : Addr) (ns : List Int) (x y : V), vs = [.ref a, x, y] ∧ Ll H a ns ∧ IsP ns ∧ NumV K H x ∧ NumV K H y ∧ (ldV ns x y = none → RetU [.str "refused", .str "fit"] H Q) ∧
  ∀ r, ldV ns x y = some r → ∀ p t H2, H p = none → H t = none → Ex H H2 → Ll H2 p r → H2 t = some (.tup [.str "told", .ref p]) → Q (.ref t) H2
theorem ok_law_told (T : Tx K mg) : FnOk P w K mg base CX0 5 T.a_law_told T.d_law_told ["_law_parting", "_law_first", "_law_second"] (sp_law_told K) := by
  refine T.F_law_told.ok sc_law_told (fun vs H Q E h => ?_) (fun cdv A outer s H vs Q E hr h => ?_)
  · obtain ⟨a, ns, x, y, rfl, _⟩ := h
    rfl
  · obtain ⟨a, ns, x, y, rfl, hL, hp, hx, hy, qn, qs⟩ := h
    refine ⟨_, (pss_cons (ps_set (i := 3) sc_law_told.nd rfl (Or.inl rfl) pe_non)
    (pss_cons (ps_set (i := 4) sc_law_told.nd rfl (Or.inl rfl) pe_non)
    (pss_cons (ps_try_keep (tb := (fun W => tAsg (tCallS (sp_let_down K T.C_NoFit) (WE W) (tCons (tVar 0) (tCons (tVar 1) (tCons (tVar 2) tNil)))) (gName 4))) (Wout := fun _ _ _ _ => False) (i := 5) (j := 3) rfl rfl rfl sc_law_told.nd rfl rfl rfl rfl ⟨rfl, by decide, Or.inl T.g_PartError⟩ takes0
      (fun W pn xe tk _ => (pss_one (ps_set (i := 4) sc_law_told.nd rfl (Or.inl rfl) (pe_callS (ok_let_down T) (hr.mono (by decide)) (by rfl) T.g_let_down T.F_let_down.kp T.b_let_down (fun σ => passAt tk σ) (by exact (pa_cons (pv 0) (pa_cons (pv 1) (pa_cons (pv 2) pa_nil)))))))))
    (pss_one (ps_ret (pe_ifExp (pt_cmpR op_isN (pv 3) pe_non (nomark _)) (pe_tup (pa_cons pe_str (pa_cons (pv 4) pa_nil))) (pe_tup (pa_cons pe_str (pa_cons (pe_call (ok_law_name T) (hr.mono (by decide)) (by rfl) T.g_law_name T.F_law_name.kp T.b_law_name .nil pass0 (pa_cons (pv 3) pa_nil)) pa_nil))))))))), ?_⟩
    refine q_asg ev_c fun H1 e1 => ?_
    refine q_asg ev_c fun H2 e2 => ?_
    have e12 := e1.trans e2
    refine ⟨.ref a, rfl, x, rfl, y, rfl, a, ns, x, y, rfl, e12 _ _ hL, hp, hx.mono e12, hy.mono e12, fun hn H3 e3 => ⟨true, T.m_NoFit_PartError, fun _ => ⟨rfl, fun e he => ?_⟩, fun z => by cases z⟩, fun r hr p H3 np e3 hp3 => ?_⟩
    · -- refused
      have e4 : Ex H (upd H3 e (ErrO (.ref T.C_NoFit) e)) := (e12.trans e3).trans (Ex.new he)
      refine s_retU (eu_if (et_test (ev_isN (ev_var rfl))) (fun z => by cases z) fun _ => eu_tup (ea_cons ev_c (ea_cons (ev_call (ea_cons (ev_var rfl) ea_nil) (spv_name upd_same)) ea_nil)) (by show 2 ≤ 100000; decide)) fun t H4 nt e5 ht => qn hn t H4 (fresh_back e4 nt) (e4.trans e5) ht
    · refine s_retU (eu_if (et_test (ev_isN (ev_var rfl))) (fun _ => eu_tup (ea_cons ev_c (ea_cons (ev_var rfl) ea_nil)) (by show 2 ≤ 100000; decide)) fun z => by cases z) fun t H4 nt e5 ht => ?_
      exact qs r hr p t H4 (fresh_back e12 np) (fresh_back (e12.trans e3) nt) ((e12.trans e3).trans e5) (e5 _ _ hp3) ht
end
/-! ### the law -/
section
variable {P : Program} {w : World} {K : PySem.W.Frag} {mg : Str → Option Value} {base : Heap}
theorem spv_due {a : Addr} {ns : List Int} {i j : Nat} {H : Hp} (hL : Ll H a ns) (hl : ns.length ≤ 200) (hn : dueL ns i j = none) : SpV sp_law_due [.ref a, .int (i : Int), .int (j : Int)] H .non := fun H1 e _ q _ => ⟨a, ns, i, j, rfl, e _ _ hL, hl, fun _ => q, fun r hr => by rw [hn] at hr; cases hr⟩
theorem spl_due {a : Addr} {ns r : List Int} {i j : Nat} {H : Hp} (hL : Ll H a ns) (hl : ns.length ≤ 200) (hr : dueL ns i j = some r) : SpL sp_law_due [.ref a, .int (i : Int), .int (j : Int)] H (r.map V.int) := fun H1 e _ q _ => ⟨a, ns, i, j, rfl, e _ _ hL, hl, (fun hn => by rw [hr] at hn; cases hn), fun r' hr' => by
  rw [hr] at hr'
  cases hr'
  exact q⟩
theorem spu_told {a : Addr} {ns : List Int} {x y : V} {H : Hp} (hL : Ll H a ns) (hp : IsP ns) (hx : NumV K H x) (hy : NumV K H y) (hn : ldV ns x y = none) : SpU (sp_law_told K) [.ref a, x, y] H [.str "refused", .str "fit"] := fun H1 e _ q _ =>
  ⟨a, ns, x, y, rfl, e _ _ hL, hp, hx.mono e, hy.mono e, fun _ => q, fun r hr => by rw [hn] at hr; cases hr⟩
theorem evP_told {a : Addr} {ns r : List Int} {x y : V} {σ : L2.St} {H : Hp} {ta : TA} {E : XK} (h : EvA ta σ H [.ref a, x, y]) (hL : Ll H a ns) (hp : IsP ns) (hx : NumV K H x) (hy : NumV K H y) (hr : ldV ns x y = some r) :
    EvP (tCall (sp_law_told K) [] E ta) σ H (fun v H1 => ∃ p t : Addr, v = .ref t ∧ H p = none ∧ H t = none ∧ Ll H1 p r ∧ H1 t = some (.tup [.str "told", .ref p])) :=
  evP_call h fun H1 e Q q E => ⟨a, ns, x, y, rfl, e _ _ hL, hp, hx.mono e, hy.mono e, (fun hn => by rw [hr] at hn; cases hn), fun r' hr' p t H2 np nt e2 hpp ht => by
    rw [hr] at hr'
    cases hr'
    exact q _ _ e2 ⟨p, t, rfl, fresh_back e np, fresh_back e nt, hpp, ht⟩⟩
/-- one of the odd places -/
def Odd (x : V) : Prop := isI x = false ∨ x = .int (-1) ∨ x = .int (10 ^ 20)
theorem odd_no {ns : List Int} {x y : V} (hp : IsP ns) (h : Odd x ∨ (x = .int 0 ∧ Odd y)) (hy : ∀ z, y = .int z → z ≤ ns.length ∨ Odd y) : ldV ns x y = none := by
  refine ldV_no ?_
  cases hb : arePl ns.length x y with
  | false => rfl
  | true =>
    exfalso
    have hl := hp.len
    obtain ⟨i, j, rfl, rfl, h1, h2⟩ := arePl_iff.mp hb
    rcases h with h | ⟨_, h⟩
    · rcases h with h | h | h
      · cases h
      · have := V.int.inj h
        omega
      · have := V.int.inj h
        omega
    · rcases h with h | h | h
      · cases h
      · have := V.int.inj h
        omega
      · have := V.int.inj h
        omega
def sp_law (K : PySem.W.Frag) : Sp := fun vs H Q _ => ∃ (a : Addr) (ns : List Int), vs = [.ref a] ∧ SqL K H a (ns.map V.int) ∧ ns.length ≤ 63 ∧ ∀ H', Q (.bl true) H'
theorem ok_law (T : Tx K mg) : FnOk P w K mg base CX0 6 T.a_law T.d_law ["_law_script"] (sp_law K) := by
  refine T.F_law.ok sc_law (fun vs H Q E h => ?_) (fun cdv A outer s H vs Q E hr h => ?_)
  · obtain ⟨a, ns, rfl, _⟩ := h
    rfl
  · obtain ⟨a, ns, rfl, hS, hlen, q⟩ := h
    refine ⟨_, (pss_cons (ps_set (i := 1) sc_law.nd rfl (Or.inl rfl) (pe_call (ok_law_parting_by T) (hr.mono (by decide)) (by rfl) T.g_law_parting_by T.F_law_parting_by.kp T.b_law_parting_by .nil pass0 (pa_cons (pv 0) (pa_cons pe_int pa_nil))))
    (pss_cons (ps_set (i := 2) sc_law.nd rfl (Or.inl rfl) (pe_callTy (listK (K := K) rfl) (by rfl) T.n_list (by decide +kernel) (pa_cons (pv 1) pa_nil)))
    (pss_cons (ps_set (i := 3) sc_law.nd rfl (Or.inr rfl) (pe_callB (lenK (K := K) rfl) (by rfl) T.n_len PySem.boot_len (pa_cons (pv 1) pa_nil)))
    (pss_cons (ps_setLc (i := 4) (own := [("_law_k", 10)]) (g := gName 10) (by rfl) sc_law.nd rfl rfl (sw_true rfl rfl rfl (by decide +kernel)) (pi_range1 rfl T.n_range (pa_cons (pe_op op_add (pv 3) pe_int) pa_nil)) (blkOk_by (own := [("_law_k", 10)]) (N := ["_law_script", "_law_parting", "_law_handed", "_law_many", "_law_places", "_law_first", "_law_second", "_law_due_here", "_law_told_here", "_law_odd", "_law_k"]) (sc := defScope s_law) (by decide +kernel)) (fun _ _ _ _ _ => (pg_name (i := 10) sc_law.nd rfl (Or.inl rfl))) (fun _ _ _ _ _ => pts_one (PW.pt (pw_or (pt_cmpR op_lt (pv 10) pe_int (nomark _)) (pw_or1 (pt_cmpR op_gt (pv 10) (pe_op op_sub (pv 3) pe_int) (nomark _)))))) (fun _ _ _ _ _ => (pv 10)))
    (pss_cons (ps_for PassesOwn.never rfl (pi_list (pv 4)) (pg_name (i := 5) sc_law.nd rfl (Or.inl rfl))
      (pss_one (ps_for PassesOwn.never rfl (pi_list (pv 4)) (pg_name (i := 6) sc_law.nd rfl (Or.inl rfl))
        (pss_cons (ps_set (i := 7) sc_law.nd rfl (Or.inl rfl) (pe_call (ok_law_due T) (hr.mono (by decide)) (by rfl) T.g_law_due T.F_law_due.kp T.b_law_due .nil pass0 (pa_cons (pv 1) (pa_cons (pv 5) (pa_cons (pv 6) pa_nil)))))
        (pss_cons (ps_set (i := 8) sc_law.nd rfl (Or.inl rfl) (pe_call (ok_law_told T) (hr.mono (by decide)) (by rfl) T.g_law_told T.F_law_told.kp T.b_law_told .nil pass0 (pa_cons (pv 2) (pa_cons (pv 5) (pa_cons (pv 6) pa_nil)))))
        (pss_cons (ps_if (pt_cmpR op_isN (pv 7) pe_non (nomark _))
          (pss_one (ps_if (pt_cmpR (neK (K := K) rfl hr.units) (pv 8) (pe_tup (pa_cons pe_str (pa_cons pe_str pa_nil))) (nomark _))
            (pss_one (ps_ret pe_bl))
            pss_nil))
          (pss_one (ps_if (PW.pt (pw_or (pt_cmpR op_ne (pe_ix (ixtK (K := K) rfl) (pv 8) pe_int (fun _ _ => rfl)) pe_str (nomark _)) (pw_or1 (pt_not (pt_val (pe_call (ok_law_is_row T) (hr.mono (by decide)) (by rfl) T.g_law_is_row T.F_law_is_row.kp T.b_law_is_row .nil pass0 (pa_cons (pe_ix (ixtK (K := K) rfl) (pv 8) pe_int (fun _ _ => rfl)) (pa_cons (pv 7) pa_nil))))))))
            (pss_one (ps_ret pe_bl))
            (pss_one (ps_expr (pe_bm PySem.F.plainAttrs_list PySem.F.slot_list_append PySem.F.type_list_append mt_append (pe_ix (ixtK (K := K) rfl) (pv 8) pe_int (fun _ _ => rfl)) (pa_cons pe_int pa_nil)))))))
        (pss_one (ps_if (pt_cmpR (neK (K := K) rfl hr.units) (pv 2) (pv 1) (nomark _))
          (pss_one (ps_ret pe_bl))
          pss_nil))))))))
    (pss_cons (ps_set (i := 9) sc_law.nd rfl (Or.inl rfl) (pe_ix (ixlK (K := K) rfl) (pe_lst (pa_cons (pe_un un_neg pe_int) (pa_cons pe_bl (pa_cons pe_non (pa_cons pe_str (pa_cons (pe_lst (pa_cons pe_int pa_nil)) (pa_cons (pe_op op_pow pe_int pe_int) pa_nil))))))) (pe_op op_mod (pe_call (ok_law_number T) (hr.mono (by decide)) (by rfl) T.g_law_number T.F_law_number.kp T.b_law_number .nil pass0 (pa_cons (pv 0) (pa_cons pe_int pa_nil))) pe_int) (fun _ _ => rfl)))
    (pss_cons (ps_if (PW.pt (pw_or (pt_cmpR (neK (K := K) rfl hr.units) (pe_call (ok_law_told T) (hr.mono (by decide)) (by rfl) T.g_law_told T.F_law_told.kp T.b_law_told .nil pass0 (pa_cons (pv 2) (pa_cons (pv 9) (pa_cons (pv 3) pa_nil)))) (pe_tup (pa_cons pe_str (pa_cons pe_str pa_nil))) (nomark _)) (pw_or1 (pt_cmpR (neK (K := K) rfl hr.units) (pe_call (ok_law_told T) (hr.mono (by decide)) (by rfl) T.g_law_told T.F_law_told.kp T.b_law_told .nil pass0 (pa_cons (pv 2) (pa_cons pe_int (pa_cons (pv 9) pa_nil)))) (pe_tup (pa_cons pe_str (pa_cons pe_str pa_nil))) (nomark _)))))
      (pss_one (ps_ret pe_bl))
      pss_nil)
    (pss_one (ps_ret (pe_cmpR (eqK (K := K) rfl hr.units) (pv 2) (pv 1) (nomark _))))))))))), ?_⟩
    refine q_asgP (evP_parting (ea_cons (ev_var rfl) (ea_cons ev_c ea_nil)) hS hlen (by decide) (by decide)) fun v H1 e1 hv => ?_
    obtain ⟨p, ys, rfl, np, hp, ip⟩ := hv
    have ly := ip.len
    refine q_asgL (el_cb (ea_cons (ev_var rfl) ea_nil) (rcl_list hp.sq)) fun h H2 nh e2 hh => ?_
    have hp2 := e2 _ _ hp
    have ely : ((ys.map V.int).length : Int) = (ys.length : Int) := by rw [List.length_map]
    refine q_asg (ev_is (ev_cb (ea_cons (ev_var rfl) ea_nil) (rc_len (Ll.sq hp2))) (by rw [ely])) fun H3 e3 => ?_
    have hp3 := e3 _ _ hp2
    have hh3 := e3 _ _ hh
    refine q_asgL (el_lcR1 (fun k => decide ((k : Int) < 9) || decide ((ys.length : Int) - 3 < (k : Int))) (fun k => V.int (k : Int)) (ea_cons (ev_rI0 (ev_var rfl) ev_c) ea_nil) ⟨by omega, by omega⟩ (fun _ => rfl)
      (fun k H4 _ _ => et_or (et_test (ev_rI0 (ev_var rfl) ev_c)) fun _ => et_test (ev_rI0 (ev_var rfl) (ev_rI0 (ev_var rfl) ev_c))) (fun k H4 _ _ _ => ev_var rfl)) fun l H4 nl e4 hl4 => ?_
    have hp4 := e4 _ _ hp3
    have hh4 := e4 _ _ hh3
    have item : ∀ i x, (given ((ys.length : Int) + 2).toNat (fun k => decide ((k : Int) < 9) || decide ((ys.length : Int) - 3 < (k : Int))) (fun k => V.int (k : Int)))[i]? = some x → ∃ k : Nat, x = V.int (k : Int) := fun i x hx => by
      have hm := List.mem_of_getElem? hx
      unfold given at hm
      obtain ⟨k, _, e⟩ := List.mem_map.mp hm
      exact ⟨k, e.symm⟩
    refine q_forLn (ev_var rfl) (sq_of hl4) (fun i σ' H' => ∃ y5 y6 y7 y8 : Option V, σ' = [some (.ref a), some (.ref p), some (.ref h), some (.int (ys.length : Int)), some (.ref l), y5, y6, y7, y8, none, none] ∧ Ex H4 H')
      (fun H5 e5 => ⟨none, none, none, none, rfl, e5⟩) (fun i σ' H' _ hP => ?_) (fun i x σ' H' hx hP => ?_) (fun σ' H' hP => ?_)
    · obtain ⟨_, _, _, _, _, eH⟩ := hP
      exact sq_of (eH _ _ hl4)
    · obtain ⟨y5, y6, y7, y8, rfl, eH⟩ := hP
      obtain ⟨f, rfl⟩ := item i x hx
      refine s_forLn (ev_var rfl) (sq_of (eH _ _ hl4)) (fun i σ' H' => ∃ y6 y7 y8 : Option V, σ' = [some (V.ref a), some (.ref p), some (.ref h), some (.int (ys.length : Int)), some (.ref l), some (.int (f : Int)), y6, y7, y8, none, none] ∧ Ex H4 H')
        (fun H5 e5 => ⟨y6, y7, y8, rfl, eH.trans e5⟩) (fun i σ' H' _ hP => ?_) (fun i x σ' H' hx hP => ?_) (fun σ' H' hP => ?_)
      · obtain ⟨_, _, _, _, eH⟩ := hP
        exact sq_of (eH _ _ hl4)
      · obtain ⟨y6, y7, y8, rfl, eH⟩ := hP
        obtain ⟨g, rfl⟩ := item i x hx
        have hpH := eH _ _ hp4
        have hhH := eH _ _ hh4
        have hd := due_ld (i := f) (j := g) ip
        cases hdue : dueL ys f g with
        | none =>
          rw [hdue] at hd
          refine q_asg (ev_call (ea_cons (ev_var rfl) (ea_cons (ev_var rfl) (ea_cons (ev_var rfl) ea_nil))) (spv_due hpH ly hdue)) fun H5 e5 => ?_
          refine q_asgU (eu_call (ea_cons (ev_var rfl) (ea_cons (ev_var rfl) (ea_cons (ev_var rfl) ea_nil))) (spu_told (e5 _ _ hhH) ip numV_int numV_int hd)) fun t H6 nt e6 ht => ?_
          refine q_else (et_test (ev_isN (ev_var rfl))) (fun _ H7 e7 => ?_) (fun z => by cases z)
          refine s_when (et_test (ev_opU (ev_var rfl) (eu_tup (ea_cons ev_c (ea_cons ev_c ea_nil)) (by decide)) fun u H8 hu e8 => rv_neTT (e8 _ _ (e7 _ _ ht)) hu (by decide +kernel) (by decide +kernel))) (fun z => by cases z) (fun _ H8 e8 => ?_)
          have e58 := ((e5.trans e6).trans e7).trans e8
          refine s_when (et_test (ev_op (ev_var rfl) (ev_var rfl) (rv_neL (Ll.sq (e58 _ _ hhH)) (Ll.sq (e58 _ _ hpH))))) (fun hb => by simp at hb) (fun _ H9 e9 => ?_)
          exact ⟨_, _, _, rfl, eH.trans (e58.trans e9)⟩
        | some r =>
          rw [hdue] at hd
          have ir : IsP r := by
            unfold ldV at hd
            simp only at hd
            split at hd
            · rename_i c
              cases hd
              exact isPart_iff.mp c.2
            · cases hd
          have lr := ir.len
          refine q_asgL (el_call (ea_cons (ev_var rfl) (ea_cons (ev_var rfl) (ea_cons (ev_var rfl) ea_nil))) (spl_due hpH ly hdue)) fun d H5 nd e5 hd5 => ?_
          refine q_asgP (evP_told (ea_cons (ev_var rfl) (ea_cons (ev_var rfl) (ea_cons (ev_var rfl) ea_nil))) (e5 _ _ hhH) ip numV_int numV_int hd) fun v H6 e6 hv => ?_
          obtain ⟨o, t, rfl, no, nt, ho, ht⟩ := hv
          refine q_else (et_test (ev_isN (ev_var rfl))) (fun z => by cases z) (fun _ H7 e7 => ?_)
          refine s_if (et_or (et_test (ev_ne (ev_ixT (n := 0) (ev_var rfl) ev_c (e7 _ _ ht) rfl) ev_c rfl)) fun _ => et_not (et_B (ev_call (ea_cons (ev_ixT (n := 1) (ev_var rfl) ev_c (e7 _ _ ht) rfl) (ea_cons (ev_var rfl) ea_nil)) (spv_row (e7 _ _ ho) (e7 _ _ (e6 _ _ hd5)) (by omega))))) (fun hb => by simp at hb) (fun _ H8 e8 => ?_)
          refine s_app ((e7.trans e8) _ _ ho) (ev_ixT (n := 1) (ev_var rfl) ev_c ((e7.trans e8) _ _ ht) rfl) ev_c (by rw [List.length_map]; omega) fun H9 e9 => ?_
          have no4 : H4 o = none := fresh_back (eH.trans e5) no
          have m9 : Ex H4 (upd H9 o (.lst (r.map V.int ++ [V.int 1]))) := ((eH.trans e5).trans (((e6.trans e7).trans e8).trans e9)).mut no4
          refine s_when (et_test (ev_op (ev_var rfl) (ev_var rfl) (rv_neL (Ll.sq (m9 _ _ hh4)) (Ll.sq (m9 _ _ hp4))))) (fun hb => by simp at hb) (fun _ H10 e10 => ?_)
          exact ⟨_, _, _, rfl, m9.trans e10⟩
      · obtain ⟨y6, y7, y8, rfl, eH⟩ := hP
        exact ⟨_, _, _, _, rfl, eH⟩
    · obtain ⟨y5, y6, y7, y8, rfl, eH⟩ := hP
      have hpH := eH _ _ hp4
      have hhH := eH _ _ hh4
      have hSH := ex_l (((((e1.trans e2).trans e3).trans e4)).trans eH) hS
      have n0 := numb_nn ns 1
      have i0 : 0 ≤ numb ns 1 % 6 := by omega
      have i1 : numb ns 1 % 6 < 6 := by omega
      generalize hi : numb ns 1 % 6 = i at i0 i1
      have odds : EvP (tOp (rIxL K) (tLst (tCons (tUn (rU fun i => .int (-i)) (tC (.int 1))) (tCons (tC (.bl true)) (tCons (tC .non) (tCons (tC (.str "0")) (tCons (tLst (tCons (tC (.int 0)) tNil)) (tCons (tOp (rI CPow fun i j => .int (i ^ j.toNat)) (tC (.int 10)) (tC (.int 20))) tNil)))))))
          (tOp (rI (fun _ j => 0 < j) fun i j => .int (i % j)) (tCall (sp_law_number K) [] E0 (tCons (tVar 0) (tCons (tC (.int 1)) tNil))) (tC (.int 6)))) [some (.ref a), some (.ref p), some (.ref h), some (.int (ys.length : Int)), some (.ref l), y5, y6, y7, y8, none, none] H' (fun v H1 => NumV K H1 v ∧ Odd v) := by
        refine evP_ixP (i := i) (ep_lst (eap_cons (ev_un ev_c ru_neg) (eap_cons ev_c (eap_cons ev_c (eap_cons ev_c (eap_consL (el_lst (ea_cons ev_c ea_nil) (by show 1 ≤ 100000; decide)) (eap_cons (ev_rI ev_c ev_c ⟨by decide, by decide, by decide⟩) eap_nil)))))) (mono_cons (mono_cons (mono_cons (mono_cons (mono_consL (mono_cons mono_nil)))))) ?_)
          (fun v H1 e1 _ => ev_is (ev_rI (ev_call (ea_cons (ev_var rfl) (ea_cons ev_c ea_nil)) (spv_number (ex_l e1 hSH) (by decide) (by decide))) ev_c (by decide)) (by rw [hi])) (fun v H1 H2 e h => ⟨h.1.mono e, h.2⟩) ?_
        · rintro vs H1 ⟨_, rfl, _, rfl, _, rfl, _, rfl, _, _, rfl, _, _, _, rfl, rfl⟩
          show 6 ≤ 100000
          decide
        · rintro v H1 e1 ⟨o, vs, rfl, _, ho, ⟨_, rfl, _, rfl, _, rfl, _, rfl, b, _, rfl, _, hb, _, rfl, rfl⟩⟩
          have c6 : i = 0 ∨ i = 1 ∨ i = 2 ∨ i = 3 ∨ i = 4 ∨ i = 5 := by omega
          rcases c6 with rfl | rfl | rfl | rfl | rfl | rfl
          · exact ⟨o, _, _, rfl, ho, rfl, numV_int, .inr (.inl rfl)⟩
          · exact ⟨o, _, _, rfl, ho, rfl, numV_bl, .inl rfl⟩
          · exact ⟨o, _, _, rfl, ho, rfl, numV_non, .inl rfl⟩
          · exact ⟨o, _, _, rfl, ho, rfl, numV_str, .inl rfl⟩
          · exact ⟨o, _, _, rfl, ho, rfl, numV_lst hb, .inl rfl⟩
          · exact ⟨o, _, _, rfl, ho, rfl, numV_int, .inr (.inr rfl)⟩
      refine q_asgP odds fun v H5 e5 hv => ?_
      obtain ⟨nv, od⟩ := hv
      refine q_when (et_or (et_test (ev_opUU (eu_call (ea_cons (ev_var rfl) (ea_cons (ev_var rfl) (ea_cons (ev_var rfl) ea_nil))) (spu_told (e5 _ _ hhH) ip nv numV_int (odd_no ip (.inl od) fun z hz => .inl (by have := V.int.inj hz; omega)))) (eu_tup (ea_cons ev_c (ea_cons ev_c ea_nil)) (by decide)) fun t u H6 ht hu e6 => rv_neTT ht hu (by decide +kernel) (by decide +kernel))) fun _ =>
        et_test (ev_opUU (eu_call (ea_cons (ev_var rfl) (ea_cons ev_c (ea_cons (ev_var rfl) ea_nil))) (spu_told (e5 _ _ hhH) ip numV_int nv (odd_no ip (.inr ⟨rfl, od⟩) fun z hz => .inr od))) (eu_tup (ea_cons ev_c (ea_cons ev_c ea_nil)) (by decide)) fun t u H6 ht hu e6 => rv_neTT ht hu (by decide +kernel) (by decide +kernel))) (fun hb => by cases hb) (fun _ H6 e6 => ?_)
      refine s_ret (ev_op (ev_var rfl) (ev_var rfl) (rv_eqL (Ll.sq ((e5.trans e6) _ _ hhH)) (Ll.sq ((e5.trans e6) _ _ hpH)))) fun H7 e7 => ?_
      rw [decide_eq_true rfl]
      exact q _
end
theorem all_mk {l : PySem.W.OpenLaw} {w : World} {K : PySem.W.Frag} {h : Heap} {mg : Str → Option Value} {fa : Addr} (X : K.In h) (G : h.Ns mainGlobals mg) (hfa : mg "law" = some (.ref fa))
    {f1 : Addr} {od1 an1 : Option Addr} {sl1 : Array (Option Value)} {oc1 kV1 dc1 pm1 cd1 ct1 : Value}
    {f2 : Addr} {od2 an2 : Option Addr} {sl2 : Array (Option Value)} {oc2 kV2 dc2 pm2 cd2 ct2 : Value}
    {f3 : Addr} {od3 an3 : Option Addr} {sl3 : Array (Option Value)} {oc3 kV3 dc3 pm3 cd3 ct3 : Value}
    {f4 : Addr} {od4 an4 : Option Addr} {sl4 : Array (Option Value)} {oc4 kV4 dc4 pm4 cd4 ct4 : Value}
    {f5 : Addr} {od5 an5 : Option Addr} {sl5 : Array (Option Value)} {oc5 kV5 dc5 pm5 cd5 ct5 : Value}
    {f6 : Addr} {od6 an6 : Option Addr} {sl6 : Array (Option Value)} {oc6 kV6 dc6 pm6 cd6 ct6 : Value}
    {f7 : Addr} {od7 an7 : Option Addr} {sl7 : Array (Option Value)} {oc7 kV7 dc7 pm7 cd7 ct7 : Value}
    {f8 : Addr} {od8 an8 : Option Addr} {sl8 : Array (Option Value)} {oc8 kV8 dc8 pm8 cd8 ct8 : Value}
    {f9 : Addr} {od9 an9 : Option Addr} {sl9 : Array (Option Value)} {oc9 kV9 dc9 pm9 cd9 ct9 : Value}
    {f10 : Addr} {od10 an10 : Option Addr} {sl10 : Array (Option Value)} {oc10 kV10 dc10 pm10 cd10 ct10 : Value}
    {f11 : Addr} {od11 an11 : Option Addr} {sl11 : Array (Option Value)} {oc11 kV11 dc11 pm11 cd11 ct11 : Value}
    {f12 : Addr} {od12 an12 : Option Addr} {sl12 : Array (Option Value)} {oc12 kV12 dc12 pm12 cd12 ct12 : Value}
    {f13 : Addr} {od13 an13 : Option Addr} {sl13 : Array (Option Value)} {oc13 kV13 dc13 pm13 cd13 ct13 : Value}
    {t_GREATEST_WHOLE : Tok}
    {C_NoFit : Addr}
    {C_NoNumber : Addr}
    {C_NoParting : Addr}
    {C_PartError : Addr}
    (a1 : PySem.W.nsIn K mainGlobals "is_number" = some (some (.ref f1)))
    (l1 : K.lookup f1 = some ⟨oc1, od1, .func (PySem.W.fnOf "is_number" "is_number" (defArgs s_is_number) (defBody s_is_number) (defScope s_is_number) .none kV1 dc1 pm1 an1 cd1 ct1), sl1⟩)
    (c1 : PySem.W.codeIn K cd1 "is_number" = true) (k1 : PySem.W.keepIn K (.ref f1) = true)
    (a2 : PySem.W.nsIn K mainGlobals "is_parting" = some (some (.ref f2)))
    (l2 : K.lookup f2 = some ⟨oc2, od2, .func (PySem.W.fnOf "is_parting" "is_parting" (defArgs s_is_parting) (defBody s_is_parting) (defScope s_is_parting) .none kV2 dc2 pm2 an2 cd2 ct2), sl2⟩)
    (c2 : PySem.W.codeIn K cd2 "is_parting" = true) (k2 : PySem.W.keepIn K (.ref f2) = true)
    (a3 : PySem.W.nsIn K mainGlobals "check_parting" = some (some (.ref f3)))
    (l3 : K.lookup f3 = some ⟨oc3, od3, .func (PySem.W.fnOf "check_parting" "check_parting" (defArgs s_check_parting) (defBody s_check_parting) (defScope s_check_parting) .none kV3 dc3 pm3 an3 cd3 ct3), sl3⟩)
    (c3 : PySem.W.codeIn K cd3 "check_parting" = true) (k3 : PySem.W.keepIn K (.ref f3) = true)
    (a4 : PySem.W.nsIn K mainGlobals "let_down" = some (some (.ref f4)))
    (l4 : K.lookup f4 = some ⟨oc4, od4, .func (PySem.W.fnOf "let_down" "let_down" (defArgs s_let_down) (defBody s_let_down) (defScope s_let_down) .none kV4 dc4 pm4 an4 cd4 ct4), sl4⟩)
    (c4 : PySem.W.codeIn K cd4 "let_down" = true) (k4 : PySem.W.keepIn K (.ref f4) = true)
    (a5 : PySem.W.nsIn K mainGlobals "_are_places" = some (some (.ref f5)))
    (l5 : K.lookup f5 = some ⟨oc5, od5, .func (PySem.W.fnOf "_are_places" "_are_places" (defArgs s_are_places) (defBody s_are_places) (defScope s_are_places) .none kV5 dc5 pm5 an5 cd5 ct5), sl5⟩)
    (c5 : PySem.W.codeIn K cd5 "_are_places" = true) (k5 : PySem.W.keepIn K (.ref f5) = true)
    (a6 : PySem.W.nsIn K mainGlobals "_law_mixed" = some (some (.ref f6)))
    (l6 : K.lookup f6 = some ⟨oc6, od6, .func (PySem.W.fnOf "_law_mixed" "_law_mixed" (defArgs s_law_mixed) (defBody s_law_mixed) (defScope s_law_mixed) .none kV6 dc6 pm6 an6 cd6 ct6), sl6⟩)
    (c6 : PySem.W.codeIn K cd6 "_law_mixed" = true) (k6 : PySem.W.keepIn K (.ref f6) = true)
    (a7 : PySem.W.nsIn K mainGlobals "_law_number" = some (some (.ref f7)))
    (l7 : K.lookup f7 = some ⟨oc7, od7, .func (PySem.W.fnOf "_law_number" "_law_number" (defArgs s_law_number) (defBody s_law_number) (defScope s_law_number) .none kV7 dc7 pm7 an7 cd7 ct7), sl7⟩)
    (c7 : PySem.W.codeIn K cd7 "_law_number" = true) (k7 : PySem.W.keepIn K (.ref f7) = true)
    (a8 : PySem.W.nsIn K mainGlobals "_law_parting_by" = some (some (.ref f8)))
    (l8 : K.lookup f8 = some ⟨oc8, od8, .func (PySem.W.fnOf "_law_parting_by" "_law_parting_by" (defArgs s_law_parting_by) (defBody s_law_parting_by) (defScope s_law_parting_by) .none kV8 dc8 pm8 an8 cd8 ct8), sl8⟩)
    (c8 : PySem.W.codeIn K cd8 "_law_parting_by" = true) (k8 : PySem.W.keepIn K (.ref f8) = true)
    (a9 : PySem.W.nsIn K mainGlobals "_law_is_row" = some (some (.ref f9)))
    (l9 : K.lookup f9 = some ⟨oc9, od9, .func (PySem.W.fnOf "_law_is_row" "_law_is_row" (defArgs s_law_is_row) (defBody s_law_is_row) (defScope s_law_is_row) .none kV9 dc9 pm9 an9 cd9 ct9), sl9⟩)
    (c9 : PySem.W.codeIn K cd9 "_law_is_row" = true) (k9 : PySem.W.keepIn K (.ref f9) = true)
    (a10 : PySem.W.nsIn K mainGlobals "_law_name" = some (some (.ref f10)))
    (l10 : K.lookup f10 = some ⟨oc10, od10, .func (PySem.W.fnOf "_law_name" "_law_name" (defArgs s_law_name) (defBody s_law_name) (defScope s_law_name) .none kV10 dc10 pm10 an10 cd10 ct10), sl10⟩)
    (c10 : PySem.W.codeIn K cd10 "_law_name" = true) (k10 : PySem.W.keepIn K (.ref f10) = true)
    (a11 : PySem.W.nsIn K mainGlobals "_law_due" = some (some (.ref f11)))
    (l11 : K.lookup f11 = some ⟨oc11, od11, .func (PySem.W.fnOf "_law_due" "_law_due" (defArgs s_law_due) (defBody s_law_due) (defScope s_law_due) .none kV11 dc11 pm11 an11 cd11 ct11), sl11⟩)
    (c11 : PySem.W.codeIn K cd11 "_law_due" = true) (k11 : PySem.W.keepIn K (.ref f11) = true)
    (a12 : PySem.W.nsIn K mainGlobals "_law_told" = some (some (.ref f12)))
    (l12 : K.lookup f12 = some ⟨oc12, od12, .func (PySem.W.fnOf "_law_told" "_law_told" (defArgs s_law_told) (defBody s_law_told) (defScope s_law_told) .none kV12 dc12 pm12 an12 cd12 ct12), sl12⟩)
    (c12 : PySem.W.codeIn K cd12 "_law_told" = true) (k12 : PySem.W.keepIn K (.ref f12) = true)
    (a13 : PySem.W.nsIn K mainGlobals "law" = some (some (.ref f13)))
    (l13 : K.lookup f13 = some ⟨oc13, od13, .func (PySem.W.fnOf "law" "law" (defArgs s_law) (defBody s_law) (defScope s_law) .none kV13 dc13 pm13 an13 cd13 ct13), sl13⟩)
    (c13 : PySem.W.codeIn K cd13 "law" = true) (k13 : PySem.W.keepIn K (.ref f13) = true)
    (z_ValueError : PySem.W.nsIn K mainGlobals "ValueError" = some none)
    (z_all : PySem.W.nsIn K mainGlobals "all" = some none)
    (z_any : PySem.W.nsIn K mainGlobals "any" = some none)
    (z_bool : PySem.W.nsIn K mainGlobals "bool" = some none)
    (z_int : PySem.W.nsIn K mainGlobals "int" = some none)
    (z_isinstance : PySem.W.nsIn K mainGlobals "isinstance" = some none)
    (z_len : PySem.W.nsIn K mainGlobals "len" = some none)
    (z_list : PySem.W.nsIn K mainGlobals "list" = some none)
    (z_min : PySem.W.nsIn K mainGlobals "min" = some none)
    (z_range : PySem.W.nsIn K mainGlobals "range" = some none)
    (z_sorted : PySem.W.nsIn K mainGlobals "sorted" = some none)
    (z_sum : PySem.W.nsIn K mainGlobals "sum" = some none)
    (v_GREATEST_WHOLE : PySem.W.nsIn K mainGlobals "GREATEST_WHOLE" = some (some (.int 200 t_GREATEST_WHOLE)))
    (g_NoFit : PySem.W.nsIn K mainGlobals "NoFit" = some (some (.ref C_NoFit)))
    (g_NoNumber : PySem.W.nsIn K mainGlobals "NoNumber" = some (some (.ref C_NoNumber)))
    (g_NoParting : PySem.W.nsIn K mainGlobals "NoParting" = some (some (.ref C_NoParting)))
    (g_PartError : PySem.W.nsIn K mainGlobals "PartError" = some (some (.ref C_PartError)))
    (x_NoFit : PySem.W.excIn K C_NoFit [.type "ValueError", .type "Exception", .type "BaseException", .type "object"] "ValueError.__new__" = true)
    (k_NoFit : PySem.W.keepIn K (.ref C_NoFit) = true)
    (s_NoFit : PySem.W.subIn K (.ref C_NoFit) (.type "BaseException") = some true)
    (t_NoFit : PySem.W.typeIn K (.ref C_NoFit) = some (.type "type"))
    (ehg_NoFit : PySem.W.findIn K (.ref C_NoFit) "__getattribute__" = some (some (.builtin "BaseException.__getattribute__")))
    (ehk_NoFit : PySem.W.findIn K (.ref C_NoFit) "__getattr__" = some none)
    (ehd_NoFit : PySem.W.hasDictIn K C_NoFit = true)
    (eha_NoFit : PySem.W.findIn K (.ref C_NoFit) "__class__" = some (some (.builtin "object.__class__")))
    (ehm_NoFit : PySem.W.mroIn K C_NoFit (.type "object") = some true)
    (e_hn : PySem.W.specialIn K (.builtin "object.__class__") "__get__" = some (some (.builtin "getset_descriptor.__get__")))
    (e_ht : PySem.W.takesIn K (.builtin "object.__class__") = some true)
    (ns_PartError : PySem.W.subIn K (.ref C_PartError) (.type "BaseException") = some true)
    (nd_PartError : PySem.W.hasDictIn K C_PartError = true)
    (nt_PartError : PySem.W.typeIn K (.ref C_PartError) = some (.type "type"))
    (ns_NoParting : PySem.W.subIn K (.ref C_NoParting) (.type "BaseException") = some true)
    (nd_NoParting : PySem.W.hasDictIn K C_NoParting = true)
    (nt_NoParting : PySem.W.typeIn K (.ref C_NoParting) = some (.type "type"))
    (ns_NoNumber : PySem.W.subIn K (.ref C_NoNumber) (.type "BaseException") = some true)
    (nd_NoNumber : PySem.W.hasDictIn K C_NoNumber = true)
    (nt_NoNumber : PySem.W.typeIn K (.ref C_NoNumber) = some (.type "type"))
    (m_NoFit_PartError : PySem.W.subIn K (.ref C_NoFit) (.ref C_PartError) = some true)
    (q_NoFit_NoParting : PySem.W.subIn K (.ref C_NoFit) (.ref C_NoParting) = some false)
    (u_NoFit_NoParting : (Value.ref C_NoFit == Value.ref C_NoParting) = false)
    (q_NoFit_NoNumber : PySem.W.subIn K (.ref C_NoFit) (.ref C_NoNumber) = some false)
    (u_NoFit_NoNumber : (Value.ref C_NoFit == Value.ref C_NoNumber) = false)
    (q_NoFit_ValueError : PySem.W.subIn K (.ref C_NoFit) (.type "ValueError") = some true)
    : ∃ fd : FuncData, (∀ (s : Shared) (v : Value), BindsTo s fd ⟨[v], []⟩ [("_law_script", v)]) ∧ ∀ base : Heap, K.In base → base.Ns mainGlobals mg → FnOk l.prog w K mg base CX0 6 fa fd ["_law_script"] (sp_law K) := by
  have e := hfa.symm.trans (PySem.W.mg_of X G a13)
  cases e
  have F1 := fun_mk (st := s_is_number) l1 c1 k1
  have b1 := F1.binds (ps := ["thing"]) fun _ _ _ _ _ _ us hl => match us, hl with | [_], _ => rfl
  have F2 := fun_mk (st := s_is_parting) l2 c2 k2
  have b2 := F2.binds (ps := ["thing"]) fun _ _ _ _ _ _ us hl => match us, hl with | [_], _ => rfl
  have F3 := fun_mk (st := s_check_parting) l3 c3 k3
  have b3 := F3.binds (ps := ["thing"]) fun _ _ _ _ _ _ us hl => match us, hl with | [_], _ => rfl
  have F4 := fun_mk (st := s_let_down) l4 c4 k4
  have b4 := F4.binds (ps := ["parting", "first", "second"]) fun _ _ _ _ _ _ us hl => match us, hl with | [_, _, _], _ => rfl
  have F5 := fun_mk (st := s_are_places) l5 c5 k5
  have b5 := F5.binds (ps := ["parting", "first", "second"]) fun _ _ _ _ _ _ us hl => match us, hl with | [_, _, _], _ => rfl
  have F6 := fun_mk (st := s_law_mixed) l6 c6 k6
  have b6 := F6.binds (ps := ["_law_number_here", "_law_k"]) fun _ _ _ _ _ _ us hl => match us, hl with | [_, _], _ => rfl
  have F7 := fun_mk (st := s_law_number) l7 c7 k7
  have b7 := F7.binds (ps := ["_law_script", "_law_k"]) fun _ _ _ _ _ _ us hl => match us, hl with | [_, _], _ => rfl
  have F8 := fun_mk (st := s_law_parting_by) l8 c8 k8
  have b8 := F8.binds (ps := ["_law_script", "_law_first"]) fun _ _ _ _ _ _ us hl => match us, hl with | [_, _], _ => rfl
  have F9 := fun_mk (st := s_law_is_row) l9 c9 k9
  have b9 := F9.binds (ps := ["_law_found", "_law_due_here"]) fun _ _ _ _ _ _ us hl => match us, hl with | [_, _], _ => rfl
  have F10 := fun_mk (st := s_law_name) l10 c10 k10
  have b10 := F10.binds (ps := ["_law_error"]) fun _ _ _ _ _ _ us hl => match us, hl with | [_], _ => rfl
  have F11 := fun_mk (st := s_law_due) l11 c11 k11
  have b11 := F11.binds (ps := ["_law_parting", "_law_first", "_law_second"]) fun _ _ _ _ _ _ us hl => match us, hl with | [_, _, _], _ => rfl
  have F12 := fun_mk (st := s_law_told) l12 c12 k12
  have b12 := F12.binds (ps := ["_law_parting", "_law_first", "_law_second"]) fun _ _ _ _ _ _ us hl => match us, hl with | [_, _, _], _ => rfl
  have F13 := fun_mk (st := s_law) l13 c13 k13
  have b13 := F13.binds (ps := ["_law_script"]) fun _ _ _ _ _ _ us hl => match us, hl with | [_], _ => rfl
  let T : Tx K mg := { a_is_number := f1, d_is_number := _, F_is_number := F1, b_is_number := b1, g_is_number := PySem.W.mg_of X G a1, a_is_parting := f2, d_is_parting := _, F_is_parting := F2, b_is_parting := b2, g_is_parting := PySem.W.mg_of X G a2, a_check_parting := f3, d_check_parting := _, F_check_parting := F3, b_check_parting := b3, g_check_parting := PySem.W.mg_of X G a3, a_let_down := f4, d_let_down := _, F_let_down := F4, b_let_down := b4, g_let_down := PySem.W.mg_of X G a4, a_are_places := f5, d_are_places := _, F_are_places := F5, b_are_places := b5, g_are_places := PySem.W.mg_of X G a5, a_law_mixed := f6, d_law_mixed := _, F_law_mixed := F6, b_law_mixed := b6, g_law_mixed := PySem.W.mg_of X G a6, a_law_number := f7, d_law_number := _, F_law_number := F7, b_law_number := b7, g_law_number := PySem.W.mg_of X G a7, a_law_parting_by := f8, d_law_parting_by := _, F_law_parting_by := F8, b_law_parting_by := b8, g_law_parting_by := PySem.W.mg_of X G a8, a_law_is_row := f9, d_law_is_row := _, F_law_is_row := F9, b_law_is_row := b9, g_law_is_row := PySem.W.mg_of X G a9, a_law_name := f10, d_law_name := _, F_law_name := F10, b_law_name := b10, g_law_name := PySem.W.mg_of X G a10, a_law_due := f11, d_law_due := _, F_law_due := F11, b_law_due := b11, g_law_due := PySem.W.mg_of X G a11, a_law_told := f12, d_law_told := _, F_law_told := F12, b_law_told := b12, g_law_told := PySem.W.mg_of X G a12, a_law := fa, d_law := _, F_law := F13, b_law := b13, g_law := PySem.W.mg_of X G a13, n_ValueError := PySem.W.mg_none_of X G z_ValueError, n_all := PySem.W.mg_none_of X G z_all, n_any := PySem.W.mg_none_of X G z_any, n_bool := PySem.W.mg_none_of X G z_bool, n_int := PySem.W.mg_none_of X G z_int, n_isinstance := PySem.W.mg_none_of X G z_isinstance, n_len := PySem.W.mg_none_of X G z_len, n_list := PySem.W.mg_none_of X G z_list, n_min := PySem.W.mg_none_of X G z_min, n_range := PySem.W.mg_none_of X G z_range, n_sorted := PySem.W.mg_none_of X G z_sorted, n_sum := PySem.W.mg_none_of X G z_sum, u_GREATEST_WHOLE := _, c_GREATEST_WHOLE := PySem.W.mg_of X G v_GREATEST_WHOLE, r_GREATEST_WHOLE := ⟨_, rfl⟩, C_NoFit := C_NoFit, g_NoFit := PySem.W.mg_of X G g_NoFit, C_NoNumber := C_NoNumber, g_NoNumber := PySem.W.mg_of X G g_NoNumber, C_NoParting := C_NoParting, g_NoParting := PySem.W.mg_of X G g_NoParting, C_PartError := C_PartError, g_PartError := PySem.W.mg_of X G g_PartError, x_NoFit := x_NoFit, k_NoFit := k_NoFit, s_NoFit := s_NoFit, t_NoFit := t_NoFit, e_NoFit := ⟨ehg_NoFit, ehk_NoFit, s_NoFit, ehd_NoFit, eha_NoFit, e_hn, e_ht, ehm_NoFit⟩, m_NoFit_PartError := PySem.W.exm_ref ns_PartError nd_PartError nt_PartError m_NoFit_PartError, q_NoFit_NoParting := kit_own u_NoFit_NoParting nd_NoParting nt_NoParting q_NoFit_NoParting, q_NoFit_NoFit := kit_same, q_NoFit_NoNumber := kit_own u_NoFit_NoNumber nd_NoNumber nt_NoNumber q_NoFit_NoNumber, q_NoFit_ValueError := kit_built (by decide +kernel) q_NoFit_ValueError }
  exact ⟨PySem.W.fnOf "law" "law" (defArgs s_law) (defBody s_law) (defScope s_law) .none kV13 dc13 pm13 an13 cd13 ct13, fun s v => .of_eq rfl, fun base _ _ => ok_law T⟩
end K4
open PySem PySem.W PyProof.Rows
set_option maxHeartbeats 0 in
theorem PySem.Challenge.cw_stairparts_k04_boxes_let_down_holds : PySem.Challenge.rw_stairparts_k04_boxes_let_down.Holds := by
  w_on; o_law; k_head; (case hw => w_witness2)
  k_fill
  refine L2.walk_of (l := PySem.Challenge.rw_stairparts_k04_boxes_let_down) (n := 63) (k := 6) (x := "_law_script") (CX := fun _ => L2.CX0) (sp := fun w => K4.sp_law _) rfl (by decide) rfl ⟨rfl, by decide, by decide⟩ (fun w h Y => PySem.W.kIn_of Y) ?F (fun _ _ a ns hl _ hS => ⟨a, ns, rfl, hS, hl, fun _ => rfl⟩) (fun _ _ _ _ _ h => h)
  case F =>
    intro w mg fa h KX G hmg
    refine' K4.all_mk KX G hmg ?a1 ?l1 ?c1 ?k1 ?a2 ?l2 ?c2 ?k2 ?a3 ?l3 ?c3 ?k3 ?a4 ?l4 ?c4 ?k4 ?a5 ?l5 ?c5 ?k5 ?a6 ?l6 ?c6 ?k6 ?a7 ?l7 ?c7 ?k7 ?a8 ?l8 ?c8 ?k8 ?a9 ?l9 ?c9 ?k9 ?a10 ?l10 ?c10 ?k10 ?a11 ?l11 ?c11 ?k11 ?a12 ?l12 ?c12 ?k12 ?a13 ?l13 ?c13 ?k13 ?z_ValueError ?z_all ?z_any ?z_bool ?z_int ?z_isinstance ?z_len ?z_list ?z_min ?z_range ?z_sorted ?z_sum ?v_GREATEST_WHOLE ?g_NoFit ?g_NoNumber ?g_NoParting ?g_PartError ?x_NoFit ?k_NoFit ?s_NoFit ?t_NoFit ?ehg_NoFit ?ehk_NoFit ?ehd_NoFit ?eha_NoFit ?ehm_NoFit ?e_hn ?e_ht ?ns_PartError ?nd_PartError ?nt_PartError ?ns_NoParting ?nd_NoParting ?nt_NoParting ?ns_NoNumber ?nd_NoNumber ?nt_NoNumber ?m_NoFit_PartError ?q_NoFit_NoParting ?u_NoFit_NoParting ?q_NoFit_NoNumber ?u_NoFit_NoNumber ?q_NoFit_ValueError
    (case a1 => k_is); (case l1 => k_is); (case c1 => k_is); (case k1 => k_is)
    (case a2 => k_is); (case l2 => k_is); (case c2 => k_is); (case k2 => k_is)
    (case a3 => k_is); (case l3 => k_is); (case c3 => k_is); (case k3 => k_is)
    (case a4 => k_is); (case l4 => k_is); (case c4 => k_is); (case k4 => k_is)
    (case a5 => k_is); (case l5 => k_is); (case c5 => k_is); (case k5 => k_is)
    (case a6 => k_is); (case l6 => k_is); (case c6 => k_is); (case k6 => k_is)
    (case a7 => k_is); (case l7 => k_is); (case c7 => k_is); (case k7 => k_is)
    (case a8 => k_is); (case l8 => k_is); (case c8 => k_is); (case k8 => k_is)
    (case a9 => k_is); (case l9 => k_is); (case c9 => k_is); (case k9 => k_is)
    (case a10 => k_is); (case l10 => k_is); (case c10 => k_is); (case k10 => k_is)
    (case a11 => k_is); (case l11 => k_is); (case c11 => k_is); (case k11 => k_is)
    (case a12 => k_is); (case l12 => k_is); (case c12 => k_is); (case k12 => k_is)
    (case a13 => k_is); (case l13 => k_is); (case c13 => k_is); (case k13 => k_is)
    (case z_ValueError => k_is); (case z_all => k_is); (case z_any => k_is); (case z_bool => k_is)
    (case z_int => k_is); (case z_isinstance => k_is); (case z_len => k_is); (case z_list => k_is)
    (case z_min => k_is); (case z_range => k_is); (case z_sorted => k_is); (case z_sum => k_is)
    (case v_GREATEST_WHOLE => k_is); (case g_NoFit => k_is); (case g_NoNumber => k_is); (case g_NoParting => k_is)
    (case g_PartError => k_is); (case x_NoFit => k_exc); (case k_NoFit => k_is); (case s_NoFit => k_is)
    (case t_NoFit => k_is); (case ehg_NoFit => k_is); (case ehk_NoFit => k_is); (case ehd_NoFit => k_is)
    (case eha_NoFit => k_is); (case ehm_NoFit => k_is); (case e_hn => k_is); (case e_ht => k_is)
    (case ns_PartError => k_is); (case nd_PartError => k_is); (case nt_PartError => k_is); (case ns_NoParting => k_is)
    (case nd_NoParting => k_is); (case nt_NoParting => k_is); (case ns_NoNumber => k_is); (case nd_NoNumber => k_is)
    (case nt_NoNumber => k_is); (case m_NoFit_PartError => first | rfl | k_is); (case q_NoFit_NoParting => k_is); (case u_NoFit_NoParting => first | rfl | decide +kernel)
    (case q_NoFit_NoNumber => k_is); (case u_NoFit_NoNumber => first | rfl | decide +kernel); (case q_NoFit_ValueError => k_is)
