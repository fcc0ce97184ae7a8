import PyProof.Rows.All
import Wide.All
import OpenK.AllK
import Wide.FinOn
import KE.DatumOrd
import KE.KEqSeq
import HandS.Base
import HandS.Call
import HandS.List
import HandS.Comp
import HandS.Iter
import HandS.Ends
import HandS.Words
import HandS.SortKw
import HandS.SortInts
import HandS.IsInst
import HandS.Style
import HandS.Evl
import HandS.Star
import HandS.SetFor
import HandS.Exc
import HandS.ExcOwn
import HandS.ExcValue
import HandS.ExcIs
import HandS.TryOnly
import HandS.WordsExc
import PyProof.Rows.CountFlat
import PySem.Challenge.RW_stairparts_k02_turned
set_option Elab.async false
set_option linter.all false
set_option maxRecDepth 100000
set_option maxHeartbeats 2000000
namespace XP
open PySem PySem.Spec PyProof.Rows L2
/-! ### max(xs, default=d) over a list of whole numbers -/
theorem fold_max (x : Int) : ∀ xs : List Int, (xs.foldl (fun a y => if decide (a < y) = true then y else a) x ∈ x :: xs) ∧ ∀ y ∈ x :: xs, y ≤ xs.foldl (fun a y => if decide (a < y) = true then y else a) x := by
  intro xs
  induction xs generalizing x with
  | nil => exact ⟨List.mem_cons_self, fun y hy => by simp at hy; simp [hy]⟩
  | cons z r ih =>
    rw [List.foldl_cons]
    by_cases c : x < z
    · rw [if_pos (decide_eq_true c)]
      obtain ⟨h1, h2⟩ := ih z
      refine ⟨List.mem_cons_of_mem _ h1, fun y hy => ?_⟩
      rcases List.mem_cons.mp hy with e | hy
      · have := h2 z List.mem_cons_self
        omega
      · exact h2 y hy
    · rw [if_neg (by simpa using c)]
      obtain ⟨h1, h2⟩ := ih x
      refine ⟨?_, fun y hy => ?_⟩
      · rcases List.mem_cons.mp h1 with e | h
        · rw [e]; exact List.mem_cons_self
        · exact List.mem_cons_of_mem _ (List.mem_cons_of_mem _ h)
      · rcases List.mem_cons.mp hy with e | hy
        · rw [e]; exact h2 x List.mem_cons_self
        · rcases List.mem_cons.mp hy with e | hy
          · have := h2 x List.mem_cons_self
            omega
          · exact h2 y (List.mem_cons_of_mem _ hy)
theorem readsAll_ints (h : Heap) : ∀ {vs : List Value} {ns : List Int}, IntsAre vs ns → ReadsAll h vs (ns.map (PySem.W.Datum.toD (α := Int))) []
  | _, _, .nil => .nil
  | _, _, .cons n t r => by
    rw [List.map_cons]
    exact ReadsAll.cons (as := []) (bs := []) (.int n t) (readsAll_ints h r)
def rMaxD (K : PySem.W.Frag) : List V → List V → Hp → VK → Prop := fun vs zs H Q => ∃ (a : Addr) (ns : List Int) (d : Int), vs = [V.ref a] ∧ zs = [.int d] ∧ SqL K H a (ns.map V.int) ∧
  (ns = [] → Q (.int d) H) ∧ ∀ m, m ∈ ns → (∀ y, y ∈ ns → y ≤ m) → Q (.int m) H
theorem cr_maxD {X : Cx} (hc : X.calm = true) (hu : X.A.units + 2 < cLine) : CallRK X (.builtin "max") [Str.ofString "default"] (rMaxD X.K) := by
  intro pins s σ H vs zs us ws Q I r rz h
  obtain ⟨a, ns, d, rfl, rfl, hs, q0, q⟩ := h
  obtain ⟨its, rv, hl, _⟩ := I.list hs
  rw [Vals.ref1 r]
  obtain ⟨w1, rfl, t1, rfl⟩ := vals1 rz
  refine PySem.W.max_list_datum_default (α := Int) (I.ok.hd hc) hl.isList ⟨[], readsAll_ints _ rv.ints⟩ (by show X.A.units + 1 + 0 < cLine; omega) (fun e h' tk hk => ⟨.int d, H, I.kept hk, ⟨_, rfl⟩, q0 e⟩) fun y ys i v h' tk e hi hd hk => ?_
  obtain ⟨as, hr⟩ := hd
  obtain ⟨g1, g2⟩ := fold_max y ys
  have hr' : Reads h' v (.int (ys.foldl (fun a y => if decide (a < y) = true then y else a) y)) as := hr
  cases hr' with
  | int _ t => exact ⟨.int _, H, I.kept hk, ⟨_, rfl⟩, q _ (by rw [e]; exact g1) (by rw [e]; exact g2)⟩
end XP
/-! ## Short words over the hand layer: what evaluates to what -/
open PySem in
theorem L2.Room.two {k : Nat} {A : PySem.Around} (r : L2.Room k A) : A.units + 2 < cLine := by
  have := r.un
  omega
namespace XP
open PySem PySem.Spec PyProof.Rows L2
/-! ### the rules that name the written part K, by a K of one's own (within comprehensions) -/
section
variable {X : Cx} {K : PySem.W.Frag}
theorem isiK (h : X.K = K) : CallR X (.builtin "isinstance") (rIsi K) := h ▸ call_isi
def rLenK (K : PySem.W.Frag) : List V → Hp → VK → Prop := fun xs H Q => ∃ p ys, xs = [.ref p] ∧ (SqL K H p ys ∨ SqT K H p ys) ∧ Q (.int ys.length) H
theorem lenK (h : X.K = K) : CallR X (.builtin "len") (rLenK K) := h ▸ call_len_seq
theorem sumK (h : X.K = K) (hc : X.calm = true) : CallR X (.builtin "sum") (rSum K) := h ▸ cr_sum hc
theorem maxK (h : X.K = K) (hc : X.calm = true) : CallR X (.builtin "max") (rMax K) := h ▸ cr_max hc
theorem minK (h : X.K = K) (hc : X.calm = true) : CallR X (.builtin "min") (rMin K) := h ▸ cr_min hc
theorem allK (h : X.K = K) (hc : X.calm = true) : CallR X (.builtin "all") (rAll K) := h ▸ cr_all hc
theorem anyK (h : X.K = K) (hc : X.calm = true) : CallR X (.builtin "any") (rAny K) := h ▸ cr_any hc
theorem sortedK (h : X.K = K) : CallR X (.builtin "sorted") (rSortedI K) := h ▸ cr_sortedI
def rListK (K : PySem.W.Frag) : List V → Hp → VK → Prop := fun xs H Q => ∃ p ys, xs = [.ref p] ∧ (SqL K H p ys ∨ SqT K H p ys) ∧ ∀ l, H l = none → Q (.ref l) (upd H l (.lst ys))
theorem listK (h : X.K = K) : CallR X (.type "list") (rListK K) := h ▸ call_list_of
theorem ixlK (h : X.K = K) : IxR X (rIxL K) := h ▸ ix_list
theorem ixtK (h : X.K = K) : IxR X (rIxT K) := h ▸ ix_tup
theorem eqK (h : X.K = K) (hu : X.A.units + 64 < cLine) : OpR X (compareOp .Eq) (rEqD K) := h ▸ op_eqD hu
theorem neK (h : X.K = K) (hu : X.A.units + 64 < cLine) : OpR X (compareOp .NotEq) (rNeD K) := h ▸ op_neD hu
theorem inK (h : X.K = K) : OpR X (compareOp .In) (rIn K false) := h ▸ op_in_seq
theorem notInK (h : X.K = K) : OpR X (compareOp .NotIn) (rIn K true) := h ▸ op_notIn_seq
theorem sllK (h : X.K = K) : SlR X (rSlL K) := h ▸ sl_list
theorem maxDK (h : X.K = K) (hc : X.calm = true) (hu : X.A.units + 2 < cLine) : CallRK X (.builtin "max") [Str.ofString "default"] (rMaxD K) := h ▸ cr_maxD hc hu
end
end XP
namespace XP
open PySem PySem.Spec PyProof.Rows L2 Evl
/-- a list of whole numbers stands at a -/
abbrev Ll (H : Hp) (a : Addr) (ns : List Int) : Prop := H a = some (.lst (ns.map V.int))
theorem Ll.sq {K : PySem.W.Frag} {H : Hp} {a : Addr} {ns : List Int} (h : Ll H a ns) : SqL K H a (ns.map V.int) := .inl (.inl h)
theorem map_int_inj : ∀ {xs ys : List Int}, xs.map V.int = ys.map V.int → xs = ys
  | [], [], _ => rfl
  | [], _ :: _, h => by simp at h
  | _ :: _, [], h => by simp at h
  | x :: xs, y :: ys, h => by
    rw [List.map_cons, List.map_cons] at h
    injection h with h1 h2
    injection h1 with h1
    rw [h1, map_int_inj h2]
theorem get_int {ns : List Int} {i : Nat} {v : V} (h : (ns.map V.int)[i]? = some v) : ∃ z, ns[i]? = some z ∧ v = .int z := by
  rw [List.getElem?_map] at h
  cases e : ns[i]? with
  | none => rw [e] at h; cases h
  | some z => rw [e] at h; cases h; exact ⟨z, rfl, rfl⟩
theorem take_one {α : Type} {l : List α} {i : Nat} {x : α} (h : l[i]? = some x) : l.take (i + 1) = l.take i ++ [x] := by
  rw [List.take_add_one, h]
  rfl
theorem drop_one {α : Type} {l : List α} {i : Nat} {x : α} (h : l[i]? = some x) : l.drop i = x :: l.drop (i + 1) := by
  obtain ⟨hi, e⟩ := List.getElem?_eq_some_iff.mp h
  rw [List.drop_eq_getElem_cons hi, e]
theorem lt_of_get {α : Type} {l : List α} {i : Nat} {x : α} (h : l[i]? = some x) : i < l.length := (List.getElem?_eq_some_iff.mp h).1
/-! data -/
theorem dpall_ints {K : PySem.W.Frag} {H : Hp} : ∀ ns : List Int, DpAll K H (ns.map V.int) (ns.map PyData.int)
  | [] => .nil
  | n :: r => .cons (.int n) (dpall_ints r)
theorem dp_ints {K : PySem.W.Frag} {H : Hp} {a : Addr} {ns : List Int} (h : SqL K H a (ns.map V.int)) : Dp K H (.ref a) (.list (ns.map PyData.int)) := .lst h (dpall_ints ns)
theorem eqvAll_ints : ∀ xs ys : List Int, PyData.eqvAll (xs.map PyData.int) (ys.map PyData.int) = decide (xs = ys)
  | [], [] => by simp [PyData.eqvAll]
  | [], _ :: _ => by simp [PyData.eqvAll]
  | _ :: _, [] => by simp [PyData.eqvAll]
  | x :: xs, y :: ys => by
    show (PyData.eqv (.int x) (.int y) && PyData.eqvAll (xs.map PyData.int) (ys.map PyData.int)) = _
    rw [eqvAll_ints xs ys]
    rw [Bool.eq_iff_iff]
    simp [PyData.eqv]
theorem eqv_ints (xs ys : List Int) : PyData.eqv (.list (xs.map PyData.int)) (.list (ys.map PyData.int)) = decide (xs = ys) := by
  simp only [PyData.eqv]
  exact eqvAll_ints xs ys
theorem shaped_ints (ns : List Int) : SeqAt.shaped (.list (ns.map PyData.int)) = true := PySem.W.ke_shaped_ints ns
section
variable {K : PySem.W.Frag} {σ : L2.St} {H H' : Hp} {ta tb te tx : TE} {t u : TT} {x y z v : V} {r : R2} {a b p : Addr} {xs ys : List Int} {i j : Int}
/-! operators -/
theorem ev_rI0 {g : Int → Int → V} (ha : Ev ta σ H (.int i)) (hb : Ev tb σ H (.int j)) : Ev (tOp (rI0 g) ta tb) σ H (g i j) := ev_op ha hb rv_I0
theorem ev_rI {C : Int → Int → Prop} {g : Int → Int → V} (ha : Ev ta σ H (.int i)) (hb : Ev tb σ H (.int j)) (hc : C i j) : Ev (tOp (rI C g) ta tb) σ H (g i j) := ev_op ha hb (rv_I hc)
theorem ev_eq (ha : Ev ta σ H x) (hb : Ev tb σ H y) (h : scal x y = true) : Ev (tOp rEq ta tb) σ H (.bl (decide (x = y))) := ev_op ha hb (rv_eq h)
theorem ev_ne (ha : Ev ta σ H x) (hb : Ev tb σ H y) (h : scal x y = true) : Ev (tOp rNe ta tb) σ H (.bl (!decide (x = y))) := ev_op ha hb (rv_ne h)
theorem rv_eqL (h1 : SqL K H a (xs.map V.int)) (h2 : SqL K H b (ys.map V.int)) : RV (rEqD K) (.ref a) (.ref b) H (.bl (decide (xs = ys))) := fun H1 e Q q =>
  ⟨_, _, dp_ints (ex_l e h1), dp_ints (ex_l e h2), shaped_ints xs, shaped_ints ys, by rw [eqv_ints]; exact q H1 (Ex.refl H1)⟩
theorem rv_neL (h1 : SqL K H a (xs.map V.int)) (h2 : SqL K H b (ys.map V.int)) : RV (rNeD K) (.ref a) (.ref b) H (.bl (!decide (xs = ys))) := fun H1 e Q q =>
  ⟨_, _, dp_ints (ex_l e h1), dp_ints (ex_l e h2), shaped_ints xs, shaped_ints ys, by rw [eqv_ints]; exact q H1 (Ex.refl H1)⟩
/-- is None, is True -/
theorem ev_isN (ha : Ev ta σ H x) : Ev (tOp (fun x y H Q => y = .non ∧ Q (.bl (decide (x = .non))) H) ta (tC .non)) σ H (.bl (decide (x = .non))) := ev_op ha ev_c fun H1 _ _ q => ⟨rfl, q H1 (Ex.refl H1)⟩
theorem ev_notN (ha : Ev ta σ H x) : Ev (tOp (fun x y H Q => y = .non ∧ Q (.bl (!decide (x = .non))) H) ta (tC .non)) σ H (.bl (!decide (x = .non))) := ev_op ha ev_c fun H1 _ _ q => ⟨rfl, q H1 (Ex.refl H1)⟩
theorem ev_isB {c d : Bool} (ha : Ev ta σ H (.bl c)) (hb : Ev tb σ H (.bl d)) : Ev (tOp rIsB ta tb) σ H (.bl (decide (c = d))) := ev_op ha hb fun H1 _ _ q => ⟨c, d, rfl, rfl, q H1 (Ex.refl H1)⟩
theorem ev_notB {c d : Bool} (ha : Ev ta σ H (.bl c)) (hb : Ev tb σ H (.bl d)) : Ev (tOp rNotB ta tb) σ H (.bl (!decide (c = d))) := ev_op ha hb fun H1 _ _ q => ⟨c, d, rfl, rfl, q H1 (Ex.refl H1)⟩
/-! calls of built-ins, by values -/
theorem rc_isi {c : V} {t u : Value} {k : Bool} (hc : ClsV c u) (ht : ∀ H1, Ex H H1 → TyX K H1 x t) (hk : PySem.W.kitOne K t u = some k) : RC (rIsi K) [x, c] H (.bl k) := fun H1 e _ q =>
  ⟨x, c, t, u, k, rfl, hc, ht H1 e, hk, q H1 (Ex.refl H1)⟩
theorem rc_isiL {zs : List V} (h : H a = some (.lst zs)) : RC (rIsi K) [.ref a, .ty "list"] H (.bl true) := rc_isi (.ty _) (fun H1 e => .base (.lst (e a _ h))) (kit_ty (by decide +kernel))
theorem rc_isiInt : RC (rIsi K) [.int i, .ty "int"] H (.bl true) := rc_isi (.ty _) (fun _ _ => .base (.int _)) (kit_ty (by decide +kernel))
theorem rc_isiBool : RC (rIsi K) [.int i, .ty "bool"] H (.bl false) := rc_isi (.ty _) (fun _ _ => .base (.int _)) (kit_ty (by decide +kernel))
theorem rc_len {zs : List V} (h : SqL K H a zs) : RC (rLenK K) [.ref a] H (.int (zs.length : Int)) := fun H1 e _ q =>
  ⟨a, zs, rfl, .inl (ex_l e h), q H1 (Ex.refl H1)⟩
theorem rc_sum (h : SqL K H a (xs.map V.int)) : RC (rSum K) [.ref a] H (.int xs.sum) := fun H1 e _ q => ⟨a, xs, rfl, ex_l e h, q H1 (Ex.refl H1)⟩
theorem rc_all {bs : List Bool} (h : SqL K H a (bs.map V.bl)) : RC (rAll K) [.ref a] H (.bl (bs.all id)) := fun H1 e _ q => ⟨a, bs, rfl, ex_l e h, q H1 (Ex.refl H1)⟩
theorem rc_any {bs : List Bool} (h : SqL K H a (bs.map V.bl)) : RC (rAny K) [.ref a] H (.bl (bs.any id)) := fun H1 e _ q => ⟨a, bs, rfl, ex_l e h, q H1 (Ex.refl H1)⟩
theorem rc_min2 : RC (fun xs H Q => ∃ i j, xs = [.int i, .int j] ∧ Q (.int (if j < i then j else i)) H) [.int i, .int j] H (.int (if j < i then j else i)) := fun H1 _ _ q => ⟨i, j, rfl, q H1 (Ex.refl H1)⟩
theorem rc_max2 : RC (fun xs H Q => ∃ i j, xs = [.int i, .int j] ∧ Q (.int (if j > i then j else i)) H) [.int i, .int j] H (.int (if j > i then j else i)) := fun H1 _ _ q => ⟨i, j, rfl, q H1 (Ex.refl H1)⟩
/-- a call whose only argument is a new list -/
theorem ev_cbL {r : List V → Hp → VK → Prop} {zs : List V} (h : EvL ta σ H zs) (hr : ∀ p H1, Ex H H1 → H1 p = some (.lst zs) → RC r [.ref p] H1 z) : Ev (tCB r (tCons ta tNil)) σ H z := fun H1 e Q q =>
  h H1 e _ fun p H2 _ e2 hp => hr p H2 (e.trans e2) hp H2 (Ex.refl H2) Q fun H3 e3 => q H3 (e2.trans e3)
/-- list(xs): a new list -/
theorem rcl_list {zs : List V} (h : SqL K H a zs) : RCL (rListK K) [.ref a] H zs := fun H1 e _ q =>
  ⟨a, zs, rfl, .inl (ex_l e h), fun l hl => q l _ hl (Ex.new hl) upd_same⟩
/-- a value of which P is known: what a call may hand back -/
def EvP (te : TE) (σ : L2.St) (H : Hp) (P : V → Hp → Prop) : Prop := ∀ H1, Ex H H1 → ∀ Q : VK, (∀ v H2, Ex H1 H2 → P v H2 → Q v H2) → te σ H1 Q
theorem q_asgP {i : Nat} {D : Ends} {tz : TS} {P : V → Hp → Prop} (h : EvP te σ H P) (k : ∀ v H1, Ex H H1 → P v H1 → tz D (σ.set i (some v)) H1) : tSeq (tAsg te (gName i)) tz D σ H := h H (Ex.refl H) _ fun v H1 e p => k v H1 e p
theorem EvP.of (h : Ev te σ H v) : EvP te σ H (fun w _ => w = v) := fun H1 e Q q => h H1 e Q fun H2 e2 => q v H2 e2 rfl
theorem evP_call {sp : Sp} {dvs vs : List V} {E : XK} {ta : TA} {P : V → Hp → Prop} (h : EvA ta σ H vs) (hs : ∀ H1, Ex H H1 → ∀ Q : VK, (∀ v H2, Ex H1 H2 → P v H2 → Q v H2) → ∀ E : XK, sp (vs ++ dvs) H1 Q E) : EvP (tCall sp dvs E ta) σ H P := fun H1 e Q q =>
  h H1 e _ fun H2 e2 => hs H2 (e.trans e2) Q (fun v H3 e3 p => q v H3 (e2.trans e3) p) E
/-- xs + ys of lists that stand in H -/
theorem el_cat {l m : Addr} {zs ws : List V} (ha : Ev ta σ H (.ref l)) (hb : Ev tb σ H (.ref m)) (h1 : H l = some (.lst zs)) (h2 : H m = some (.lst ws)) (hz : zs.length + ws.length ≤ 100000) : EvL (tOp rCat ta tb) σ H (zs ++ ws) := fun H1 e Q q =>
  ha H1 e _ fun H2 e2 => hb H2 (e.trans e2) _ fun H3 e3 => ⟨l, m, zs, ws, rfl, rfl, (((e.trans e2).trans e3) l _ h1), (((e.trans e2).trans e3) m _ h2), sz_of hz, fun p hp => q p _ (fresh_back (e2.trans e3) hp) ((e2.trans e3).trans (Ex.new hp)) upd_same⟩
/-- [..] + ys -/
theorem el_catN {m : Addr} {zs ws : List V} (ha : EvL ta σ H zs) (hb : Ev tb σ H (.ref m)) (h2 : H m = some (.lst ws)) (hz : zs.length + ws.length ≤ 100000) : EvL (tOp rCat ta tb) σ H (zs ++ ws) := fun H1 e Q q =>
  ha H1 e _ fun l H2 hl e2 h1 => hb H2 (e.trans e2) _ fun H3 e3 => ⟨l, m, zs, ws, rfl, rfl, e3 l _ h1, (((e.trans e2).trans e3) m _ h2), sz_of hz, fun p hp => q p _ (fresh_back (e2.trans e3) hp) ((e2.trans e3).trans (Ex.new hp)) upd_same⟩
/-- xs + [..] -/
theorem el_catR {l : Addr} {zs ws : List V} (ha : Ev ta σ H (.ref l)) (hb : EvL tb σ H ws) (h1 : H l = some (.lst zs)) (hz : zs.length + ws.length ≤ 100000) : EvL (tOp rCat ta tb) σ H (zs ++ ws) := fun H1 e Q q =>
  ha H1 e _ fun H2 e2 => hb H2 (e.trans e2) _ fun m H3 hm e3 h2 => ⟨l, m, zs, ws, rfl, rfl, (((e.trans e2).trans e3) l _ h1), h2, sz_of hz, fun p hp => q p _ (fresh_back (e2.trans e3) hp) ((e2.trans e3).trans (Ex.new hp)) upd_same⟩
/-- [..] + [..], slices and the like -/
theorem el_catNN {zs ws : List V} (ha : EvL ta σ H zs) (hb : EvL tb σ H ws) (hz : zs.length + ws.length ≤ 100000) : EvL (tOp rCat ta tb) σ H (zs ++ ws) := fun H1 e Q q =>
  ha H1 e _ fun l H2 hl e2 h1 => hb H2 (e.trans e2) _ fun m H3 hm e3 h2 => ⟨l, m, zs, ws, rfl, rfl, e3 l _ h1, h2, sz_of hz, fun p hp => q p _ (fresh_back (e2.trans e3) hp) ((e2.trans e3).trans (Ex.new hp)) upd_same⟩
/-- [..] * k -/
theorem el_rep {zs : List V} {k : Int} (ha : EvL ta σ H zs) (hb : Ev tb σ H (.int k)) (h0 : 0 ≤ k ∧ k ≤ 100000) (hz : zs.length * k.toNat ≤ 100000) : EvL (tOp rRep ta tb) σ H (List.replicate k.toNat zs).flatten := fun H1 e Q q =>
  ha H1 e _ fun l H2 hl e2 h1 => hb H2 (e.trans e2) _ fun H3 e3 => ⟨l, k, zs, rfl, rfl, e3 l _ h1, by omega, by omega, sz_of hz, fun p hp => q p _ (fresh_back (e2.trans e3) hp) ((e2.trans e3).trans (Ex.new hp)) upd_same⟩
theorem EvP.mono {P : V → Hp → Prop} (e : Ex H H') (h : EvP te σ H P) : EvP te σ H' P := fun H1 a Q q => h H1 (e.trans a) Q q
end
end XP
namespace XP
open PySem PySem.Spec PyProof.Rows L2 Evl
/-! ### comprehensions -/
theorem given_getD {ns : List Int} (p : Int → Bool) (g : Int → V) : given ns.length (fun i => p (ns.getD i 0)) (fun i => g (ns.getD i 0)) = (ns.filter p).map g := by
  unfold given
  have key : ∀ (ns : List Int), (List.range ns.length).map (fun i => ns.getD i 0) = ns := by
    intro ns
    refine List.ext_getElem (by simp) fun i h1 h2 => ?_
    rw [List.getElem_map, List.getElem_range]
    simp [List.getD, h2]
  have e2 : ((List.range ns.length).filter fun i => p (ns.getD i 0)).map (fun i => ns.getD i 0) = ns.filter p := by
    have := List.filter_map (f := fun i => ns.getD i 0) (p := p) (l := List.range ns.length)
    rw [key ns] at this
    exact this.symm
  rw [← e2, List.map_map]
  rfl
theorem given_all (n : Nat) (v : Nat → V) : given n (fun _ => true) v = (List.range n).map v := by
  unfold given
  rw [List.filter_eq_self.mpr fun _ _ => rfl]
section
variable {K : PySem.W.Frag} {σ : L2.St} {H H' : Hp} {ta tb te tx : TE} {t u : TT} {x y z v : V} {r : R2} {a b p : Addr} {xs ys : List Int} {i j : Int} {D : Ends} {tz : TS}
theorem et_yes : EvT tYes σ H true := fun H1 _ _ q => q H1 (Ex.refl H1)
theorem el_is {zs ws : List V} (h : EvL te σ H zs) (e : zs = ws) : EvL te σ H ws := by
  rw [← e]
  exact h
theorem el_lcI {tl : TE} {k : Nat} {vs : List Nat} {ns : List Int} (p : Int → Bool) (g : Int → V) (h : Ev tl σ H (.ref a)) (hx : SqL K H a (ns.map V.int)) (hz : ns.length ≤ 40000) (hw : ∀ x, wipe ((wipe σ vs).set k (some x)) vs = wipe σ vs)
    (ht : ∀ (z : Int) H1, Ex H H1 → z ∈ ns → EvT t ((wipe σ vs).set k (some (.int z))) H1 (p z)) (he : ∀ (z : Int) H1, Ex H H1 → z ∈ ns → p z = true → Ev te ((wipe σ vs).set k (some (.int z))) H1 (g z)) :
    EvL (tLc (iList K tl) (gName k) t te vs) σ H ((ns.filter p).map g) := by
  refine el_is (el_lcL (fun i => p (ns.getD i 0)) (fun i => g (ns.getD i 0)) h hx (by rw [List.length_map]; exact hz) hw (fun i x H1 e1 hi => ?_) (fun i x H1 e1 hi hp => ?_)) (by rw [List.length_map]; exact given_getD p g)
  · obtain ⟨z, e, rfl⟩ := get_int hi
    have ez : ns.getD i 0 = z := by simp [List.getD, e]
    rw [ez]
    exact ht z H1 e1 (List.mem_of_getElem? e)
  · obtain ⟨z, e, rfl⟩ := get_int hi
    have ez : ns.getD i 0 = z := by simp [List.getD, e]
    rw [ez] at hp ⊢
    exact he z H1 e1 (List.mem_of_getElem? e) hp
theorem el_lcIA {tl : TE} {k : Nat} {vs : List Nat} {ns : List Int} (g : Int → V) (h : Ev tl σ H (.ref a)) (hx : SqL K H a (ns.map V.int)) (hz : ns.length ≤ 40000) (hw : ∀ x, wipe ((wipe σ vs).set k (some x)) vs = wipe σ vs)
    (he : ∀ (z : Int) H1, Ex H H1 → z ∈ ns → Ev te ((wipe σ vs).set k (some (.int z))) H1 (g z)) :
    EvL (tLc (iList K tl) (gName k) tYes te vs) σ H (ns.map g) := by
  refine el_is (el_lcI (fun _ => true) g h hx hz hw (fun _ _ _ _ => et_yes) fun z H1 e1 hm _ => he z H1 e1 hm) ?_
  rw [List.filter_eq_self.mpr fun _ _ => rfl]
theorem el_lcRA {tr : TA} {k : Nat} {vs : List Nat} {n : Int} (g : Nat → V) (h : EvA tr σ H [.int n]) (hn : 0 ≤ n ∧ n ≤ 40000) (hw : ∀ x, wipe ((wipe σ vs).set k (some x)) vs = wipe σ vs)
    (he : ∀ (i : Nat) H1, Ex H H1 → (i : Int) < n → Ev te ((wipe σ vs).set k (some (.int (i : Int)))) H1 (g i)) :
    EvL (tLc (iRng1 tr) (gName k) tYes te vs) σ H ((List.range n.toNat).map g) :=
  el_is (el_lcR1 (fun _ => true) g h hn hw (fun _ _ _ _ => et_yes) fun i H1 e1 hi _ => he i H1 e1 hi) (given_all _ _)
/-! ### calls of built-ins, further -/
theorem rc_maxOf {m : Int} (h : SqL K H a (xs.map V.int)) (h0 : 0 < xs.length) (hm : ∀ k, k ∈ xs → (∀ y, y ∈ xs → y ≤ k) → k = m) : RC (rMax K) [.ref a] H (.int m) := fun H1 e _ q =>
  ⟨a, xs, rfl, ex_l e h, h0, fun k h1 h2 => by rw [hm k h1 h2]; exact q H1 (Ex.refl H1)⟩
theorem rc_minOf {m : Int} (h : SqL K H a (xs.map V.int)) (h0 : 0 < xs.length) (hm : ∀ k, k ∈ xs → (∀ y, y ∈ xs → k ≤ y) → k = m) : RC (rMin K) [.ref a] H (.int m) := fun H1 e _ q =>
  ⟨a, xs, rfl, ex_l e h, h0, fun k h1 h2 => by rw [hm k h1 h2]; exact q H1 (Ex.refl H1)⟩
theorem ev_maxD {m d : Int} {t1 t2 : TA} (h1 : EvA t1 σ H [.ref a]) (h2 : EvA t2 σ H [.int d]) (h : SqL K H a (xs.map V.int)) (h0 : xs = [] → d = m) (hm : ∀ k, k ∈ xs → (∀ y, y ∈ xs → y ≤ k) → k = m) :
    Ev (tCKw (rMaxD K) t1 t2) σ H (.int m) := fun H1 e Q q => h1 H1 e _ fun H2 e2 => h2 H2 (e.trans e2) _ fun H3 e3 =>
  ⟨a, xs, d, rfl, rfl, ex_l ((e.trans e2).trans e3) h, fun z => by rw [h0 z]; exact q H3 (e2.trans e3), fun k k1 k2 => by rw [hm k k1 k2]; exact q H3 (e2.trans e3)⟩
/-! ### xs[i] of a written list -/
theorem ev_ixN {zs : List V} (ha : EvL ta σ H zs) (hb : ∀ H1, Ex H H1 → Ev tb σ H1 (.int i)) (hv : atI zs i = some v) : Ev (tOp (rIxL K) ta tb) σ H v := ev_opL1 ha hb fun p H1 hp _ => rv_ixL (sq_of hp) hv
theorem ev_ixI (ha : Ev ta σ H (.ref a)) (hb : Ev tb σ H (.int i)) (h : SqL K H a (xs.map V.int)) (h0 : 0 ≤ i) (h1 : i < xs.length) : Ev (tOp (rIxL K) ta tb) σ H (.int (xs.getD i.toNat 0)) := by
  refine ev_op ha hb (rv_ixL h ?_)
  have hi : i.toNat < xs.length := by omega
  obtain ⟨j, rfl⟩ := Int.eq_ofNat_of_zero_le h0
  have hj : j < xs.length := by omega
  refine atI_nat ?_
  rw [List.getElem?_map, List.getElem?_eq_getElem hj]
  simp [List.getD, hj]
theorem ev_ixJ {j : Nat} (ha : Ev ta σ H (.ref a)) (hb : Ev tb σ H (.int (j : Int))) (h : SqL K H a (xs.map V.int)) (hj : j < xs.length) : Ev (tOp (rIxL K) ta tb) σ H (.int (xs.getD j 0)) := ev_ixI (i := (j : Int)) ha hb h (by omega) (by omega)
/-! ### statements that change a list -/
theorem q_rev {l : Addr} {zs : List V} (ha : Ev ta σ H (.ref l)) (hl : H l = some (.lst zs)) (k : ∀ H1, Ex H H1 → tz D σ (upd H1 l (.lst zs.reverse))) : tSeq (tDrop (tBM0 K "list" rReverse ta)) tz D σ H :=
  ha H (Ex.refl H) _ fun H1 e1 => ⟨.inl ⟨rfl, zs, sq_of (e1 l _ hl)⟩, l, zs, rfl, rfl, e1 l _ hl, k H1 e1⟩
theorem q_clear {l : Addr} {zs : List V} (ha : Ev ta σ H (.ref l)) (hl : H l = some (.lst zs)) (k : ∀ H1, Ex H H1 → tz D σ (upd H1 l (.lst []))) : tSeq (tDrop (tBM0 K "list" rClear ta)) tz D σ H :=
  ha H (Ex.refl H) _ fun H1 e1 => ⟨.inl ⟨rfl, zs, sq_of (e1 l _ hl)⟩, l, zs, rfl, rfl, e1 l _ hl, k H1 e1⟩
/-- sorted(xs) as a value: some rising arrangement, new -/
theorem evP_sorted {tr : TA} (h : EvA tr σ H [.ref a]) (hx : SqL K H a (xs.map V.int)) : EvP (tCB (rSortedI K) tr) σ H (fun v H1 => ∃ (p : Addr) (ys : List Int), v = .ref p ∧ H p = none ∧ ys.Perm xs ∧ ys.Pairwise (· ≤ ·) ∧ Ll H1 p ys) := fun H1 e Q q =>
  h H1 e _ fun H2 e2 => ⟨a, xs, rfl, ex_l (e.trans e2) hx, fun ys p hp ho hn => q _ _ (e2.trans (Ex.new hn)) ⟨p, ys, rfl, fresh_back (e.trans e2) hn, hp, ho, upd_same⟩⟩
/-! ### displays of new lists; calls of new lists; a choice as a statement -/
theorem ep_lst3 {t1 t2 t3 : TE} {z1 z2 z3 : List V} (h1 : EvL t1 σ H z1) (h2 : EvL t2 σ H z2) (h3 : EvL t3 σ H z3) : EvP (tLst (tCons t1 (tCons t2 (tCons t3 tNil)))) σ H (fun v H' => ∃ p p1 p2 p3 : Addr, v = .ref p ∧ H' p = some (.lst [.ref p1, .ref p2, .ref p3]) ∧
    (H p1 = none ∧ H' p1 = some (.lst z1)) ∧ (H p2 = none ∧ H' p2 = some (.lst z2)) ∧ (H p3 = none ∧ H' p3 = some (.lst z3))) := fun H1 e Q q =>
  h1 H1 e _ fun p1 H2 n1 e2 k1 => h2 H2 (e.trans e2) _ fun p2 H3 n2 e3 k2 => h3 H3 ((e.trans e2).trans e3) _ fun p3 H4 n3 e4 k3 => ⟨sz_of (by show 3 ≤ 100000; decide), fun p hp => q _ _ (((e2.trans e3).trans e4).trans (Ex.new hp))
    ⟨p, p1, p2, p3, rfl, upd_same, ⟨fresh_back e n1, Ex.new hp _ _ (e4 _ _ (e3 _ _ k1))⟩, ⟨fresh_back (e.trans e2) n2, Ex.new hp _ _ (e4 _ _ k2)⟩, ⟨fresh_back ((e.trans e2).trans e3) n3, Ex.new hp _ _ k3⟩⟩⟩
theorem evP_ixP {P R : V → Hp → Prop} (h : EvP ta σ H P) (hb : ∀ v H1, Ex H H1 → P v H1 → Ev tb σ H1 (.int i)) (hR : ∀ v H1 H2, Ex H1 H2 → R v H1 → R v H2)
    (hr : ∀ v H1, Ex H H1 → P v H1 → ∃ p zs w, v = .ref p ∧ H1 p = some (.lst zs) ∧ atI zs i = some w ∧ R w H1) : EvP (tOp (rIxL K) ta tb) σ H R := fun H1 e Q q =>
  h H1 e _ fun v H2 e2 p2 => by
    obtain ⟨p, zs, w, rfl, hz, hw, r1⟩ := hr v H2 (e.trans e2) p2
    exact hb _ H2 (e.trans e2) p2 H2 (Ex.refl H2) _ fun H3 e3 => ⟨p, zs, i, w, rfl, rfl, sq_of (e3 _ _ hz), hw, q w H3 (e2.trans e3) (hR _ _ _ e3 r1)⟩
theorem ev_callL {sp : Sp} {E : XK} {zs : List V} (h : EvL te σ H zs) (hb : ∀ H1, Ex H H1 → Ev tb σ H1 y) (hs : ∀ p H1, Ex H H1 → H1 p = some (.lst zs) → SpV sp [.ref p, y] H1 z) : Ev (tCall sp [] E (tCons te (tCons tb tNil))) σ H z := fun H1 e Q q =>
  h H1 e _ fun p H2 _ e2 hp => hb H2 (e.trans e2) H2 (Ex.refl H2) _ fun H3 e3 => hs p H3 ((e.trans e2).trans e3) (e3 _ _ hp) H3 (Ex.refl H3) Q (fun H4 e4 => q H4 ((e2.trans e3).trans e4)) E
theorem ev_callLL {sp : Sp} {E : XK} {zs ws : List V} (h : EvL te σ H zs) (hb : ∀ H1, Ex H H1 → EvL tb σ H1 ws) (hs : ∀ p q H1, Ex H H1 → H1 p = some (.lst zs) → H1 q = some (.lst ws) → SpV sp [.ref p, .ref q] H1 z) : Ev (tCall sp [] E (tCons te (tCons tb tNil))) σ H z := fun H1 e Q q =>
  h H1 e _ fun p H2 _ e2 hp => hb H2 (e.trans e2) H2 (Ex.refl H2) _ fun p2 H3 _ e3 hp2 => hs p p2 H3 ((e.trans e2).trans e3) (e3 _ _ hp) hp2 H3 (Ex.refl H3) Q (fun H4 e4 => q H4 ((e2.trans e3).trans e4)) E
theorem s_asgP {i : Nat} {P : V → Hp → Prop} (h : EvP te σ H P) (k : ∀ v H1, Ex H H1 → P v H1 → D.nx (σ.set i (some v)) H1) : tAsg te (gName i) D σ H := h H (Ex.refl H) _ fun v H1 e p => k v H1 e p
theorem s_dropIf {c : Bool} (h : EvT t σ H c) (h1 : c = true → ∀ H1, Ex H H1 → tDrop ta D σ H1) (h2 : c = false → ∀ H1, Ex H H1 → tDrop tb D σ H1) : tDrop (tIf t ta tb) D σ H := h H (Ex.refl H) _ fun H1 e => by
  cases c with
  | true => exact h1 rfl H1 e
  | false => exact h2 rfl H1 e
theorem s_pop {l : Addr} {zs : List V} {w : V} (ha : Ev ta σ H (.ref l)) (hl : H l = some (.lst zs)) (hw : zs[zs.length - 1]? = some w) (k : ∀ H1, Ex H H1 → D.nx σ (upd H1 l (.lst zs.dropLast))) : tDrop (tBM0 K "list" rPop ta) D σ H :=
  ha H (Ex.refl H) _ fun H1 e1 => ⟨.inl ⟨rfl, zs, sq_of (e1 l _ hl)⟩, l, zs, w, rfl, rfl, e1 l _ hl, hw, k H1 e1⟩
end
end XP
namespace K2
open PySem PySem.Spec PyProof.Rows L2 Evl XP
def topS (i : Nat) : Stmt := PySem.Challenge.pw_stairparts_k02_turned.main.body.getD i (.Pass ⟨0, 0, 0, 0⟩)
/-- slots: 0 thing -/
abbrev s_is_number : Stmt := topS 5
theorem sc_is_number : FnScope ["thing"] ["thing"] (defScope s_is_number) := ⟨rfl, rfl, rfl, by decide +kernel, rfl, by decide +kernel, by decide +kernel⟩
/-- slots: 0 thing, 1 whole, 2 ahead, 3 part -/
abbrev s_is_parting : Stmt := topS 6
theorem sc_is_parting : FnScope ["thing", "whole", "ahead", "part"] ["thing"] (defScope s_is_parting) := ⟨rfl, rfl, rfl, by decide +kernel, rfl, by decide +kernel, by decide +kernel⟩
/-- slots: 0 thing -/
abbrev s_check_parting : Stmt := topS 7
theorem sc_check_parting : FnScope ["thing"] ["thing"] (defScope s_check_parting) := ⟨rfl, rfl, rfl, by decide +kernel, rfl, by decide +kernel, by decide +kernel⟩
/-- slots: 0 parting (cell), 1 column -/
abbrev s_turned : Stmt := topS 8
theorem sc_turned : FnScope ["parting", "column"] ["parting"] (defScope s_turned) := ⟨rfl, rfl, rfl, by decide +kernel, rfl, by decide +kernel, by decide +kernel⟩
/-- slots: 0 parting, 1 column (cell), 2 part -/
abbrev s_column_height : Stmt := topS 9
theorem sc_column_height : FnScope ["parting", "column", "part"] ["parting", "column"] (defScope s_column_height) := ⟨rfl, rfl, rfl, by decide +kernel, rfl, by decide +kernel, by decide +kernel⟩
/-- slots: 0 _law_number_here, 1 _law_k -/
abbrev s_law_mixed : Stmt := topS 11
theorem sc_law_mixed : FnScope ["_law_number_here", "_law_k"] ["_law_number_here", "_law_k"] (defScope s_law_mixed) := ⟨rfl, rfl, rfl, by decide +kernel, rfl, by decide +kernel, by decide +kernel⟩
/-- slots: 0 _law_script, 1 _law_k -/
abbrev s_law_number : Stmt := topS 12
theorem sc_law_number : FnScope ["_law_script", "_law_k"] ["_law_script", "_law_k"] (defScope s_law_number) := ⟨rfl, rfl, rfl, by decide +kernel, rfl, by decide +kernel, by decide +kernel⟩
/-- slots: 0 _law_script, 1 _law_first, 2 _law_number_here, 3 _law_most, 4 _law_many, 5 _law_found, 6 _law_k, 7 _law_part -/
abbrev s_law_parting_by : Stmt := topS 13
theorem sc_law_parting_by : FnScope ["_law_script", "_law_first", "_law_number_here", "_law_most", "_law_many", "_law_found", "_law_k", "_law_part"] ["_law_script", "_law_first"] (defScope s_law_parting_by) := ⟨rfl, rfl, rfl, by decide +kernel, rfl, by decide +kernel, by decide +kernel⟩
/-- slots: 0 _law_parting, 1 _law_found, 2 _law_at (cell), 3 _law_part -/
abbrev s_law_turned : Stmt := topS 14
theorem sc_law_turned : FnScope ["_law_parting", "_law_found", "_law_at", "_law_part"] ["_law_parting"] (defScope s_law_turned) := ⟨rfl, rfl, rfl, by decide +kernel, rfl, by decide +kernel, by decide +kernel⟩
/-- slots: 0 _law_found, 1 _law_due, 2 _law_one -/
abbrev s_law_is_row : Stmt := topS 15
theorem sc_law_is_row : FnScope ["_law_found", "_law_due", "_law_one"] ["_law_found", "_law_due"] (defScope s_law_is_row) := ⟨rfl, rfl, rfl, by decide +kernel, rfl, by decide +kernel, by decide +kernel⟩
/-- slots: 0 _law_script, 1 _law_parting, 2 _law_handed, 3 _law_due, 4 _law_found, 5 _law_back, 6 _law_kept -/
abbrev s_law : Stmt := topS 16
theorem sc_law : FnScope ["_law_script", "_law_parting", "_law_handed", "_law_due", "_law_found", "_law_back", "_law_kept"] ["_law_script"] (defScope s_law) := ⟨rfl, rfl, rfl, by decide +kernel, rfl, by decide +kernel, by decide +kernel⟩
structure Tx (K : PySem.W.Frag) (mg : Str → Option Value) where
  a_is_number : Addr
  d_is_number : FuncData
  F_is_number : Fun K "is_number" "is_number" s_is_number a_is_number d_is_number
  b_is_number : Binds K d_is_number ["thing"] []
  g_is_number : mg "is_number" = some (.ref a_is_number)
  a_is_parting : Addr
  d_is_parting : FuncData
  F_is_parting : Fun K "is_parting" "is_parting" s_is_parting a_is_parting d_is_parting
  b_is_parting : Binds K d_is_parting ["thing"] []
  g_is_parting : mg "is_parting" = some (.ref a_is_parting)
  a_check_parting : Addr
  d_check_parting : FuncData
  F_check_parting : Fun K "check_parting" "check_parting" s_check_parting a_check_parting d_check_parting
  b_check_parting : Binds K d_check_parting ["thing"] []
  g_check_parting : mg "check_parting" = some (.ref a_check_parting)
  a_turned : Addr
  d_turned : FuncData
  F_turned : Fun K "turned" "turned" s_turned a_turned d_turned
  b_turned : Binds K d_turned ["parting"] []
  g_turned : mg "turned" = some (.ref a_turned)
  a_column_height : Addr
  d_column_height : FuncData
  F_column_height : Fun K "_column_height" "_column_height" s_column_height a_column_height d_column_height
  b_column_height : Binds K d_column_height ["parting", "column"] []
  g_column_height : mg "_column_height" = some (.ref a_column_height)
  a_law_mixed : Addr
  d_law_mixed : FuncData
  F_law_mixed : Fun K "_law_mixed" "_law_mixed" s_law_mixed a_law_mixed d_law_mixed
  b_law_mixed : Binds K d_law_mixed ["_law_number_here", "_law_k"] []
  g_law_mixed : mg "_law_mixed" = some (.ref a_law_mixed)
  a_law_number : Addr
  d_law_number : FuncData
  F_law_number : Fun K "_law_number" "_law_number" s_law_number a_law_number d_law_number
  b_law_number : Binds K d_law_number ["_law_script", "_law_k"] []
  g_law_number : mg "_law_number" = some (.ref a_law_number)
  a_law_parting_by : Addr
  d_law_parting_by : FuncData
  F_law_parting_by : Fun K "_law_parting_by" "_law_parting_by" s_law_parting_by a_law_parting_by d_law_parting_by
  b_law_parting_by : Binds K d_law_parting_by ["_law_script", "_law_first"] []
  g_law_parting_by : mg "_law_parting_by" = some (.ref a_law_parting_by)
  a_law_turned : Addr
  d_law_turned : FuncData
  F_law_turned : Fun K "_law_turned" "_law_turned" s_law_turned a_law_turned d_law_turned
  b_law_turned : Binds K d_law_turned ["_law_parting"] []
  g_law_turned : mg "_law_turned" = some (.ref a_law_turned)
  a_law_is_row : Addr
  d_law_is_row : FuncData
  F_law_is_row : Fun K "_law_is_row" "_law_is_row" s_law_is_row a_law_is_row d_law_is_row
  b_law_is_row : Binds K d_law_is_row ["_law_found", "_law_due"] []
  g_law_is_row : mg "_law_is_row" = some (.ref a_law_is_row)
  a_law : Addr
  d_law : FuncData
  F_law : Fun K "law" "law" s_law a_law d_law
  b_law : Binds K d_law ["_law_script"] []
  g_law : mg "law" = some (.ref a_law)
  n_all : mg "all" = none
  n_bool : mg "bool" = none
  n_int : mg "int" = none
  n_isinstance : mg "isinstance" = none
  n_len : mg "len" = none
  n_list : mg "list" = none
  n_max : mg "max" = none
  n_min : mg "min" = none
  n_range : mg "range" = none
  n_sorted : mg "sorted" = none
  n_sum : mg "sum" = none
  u_GREATEST_WHOLE : Value
  c_GREATEST_WHOLE : mg "GREATEST_WHOLE" = some u_GREATEST_WHOLE
  r_GREATEST_WHOLE : RelV (.int 200) u_GREATEST_WHOLE
/-! ### the draws: _law_mixed, _law_number, _law_parting_by -/
def mixed (n k : Int) : Int := ((n % 2147483647 + 7919 * k * k + 31 * k) * 48271 % 2147483647) * (69621 + 2 * k) % 2147483629
theorem mixed_nn (n k : Int) : 0 ≤ mixed n k := Int.emod_nonneg _ (by decide)
theorem mixed_lt (n k : Int) : mixed n k < 2147483629 := Int.emod_lt_of_pos _ (by decide)
def numb (ns : List Int) (k : Int) : Int := if ns = [] then mixed 17 k else mixed (ns.getD (k % (ns.length : Int)).toNat 0) k
theorem numb_nn (ns : List Int) (k : Int) : 0 ≤ numb ns k := by
  unfold numb
  split
  · exact mixed_nn _ _
  · exact mixed_nn _ _
theorem numb_lt (ns : List Int) (k : Int) : numb ns k < 2147483629 := by
  unfold numb
  split
  · exact mixed_lt _ _
  · exact mixed_lt _ _
/-- what a parting is -/
def IsP (p : List Int) : Prop := (∀ x ∈ p, 1 ≤ x) ∧ p.Pairwise (fun a b => b ≤ a) ∧ p.sum ≤ 200
theorem sum_nn : ∀ {p : List Int}, (∀ x ∈ p, 0 ≤ x) → 0 ≤ p.sum
  | [], _ => Int.le_refl _
  | x :: r, h => by
    have h1 := h x List.mem_cons_self
    have h2 := sum_nn (p := r) fun y hy => h y (List.mem_cons_of_mem _ hy)
    rw [List.sum_cons]
    omega
theorem len_le_sum : ∀ {p : List Int}, (∀ x ∈ p, 1 ≤ x) → (p.length : Int) ≤ p.sum
  | [], _ => Int.le_refl _
  | x :: r, h => by
    have h1 := h x List.mem_cons_self
    have h2 := len_le_sum (p := r) fun y hy => h y (List.mem_cons_of_mem _ hy)
    rw [List.sum_cons, List.length_cons]
    omega
theorem IsP.len {p : List Int} (h : IsP p) : p.length ≤ 200 := by
  have h1 := len_le_sum h.1
  have h2 := h.2.2
  omega
theorem le_sum : ∀ {p : List Int}, (∀ x ∈ p, 0 ≤ x) → ∀ x ∈ p, x ≤ p.sum
  | [], _, x, hx => by cases hx
  | y :: r, h, x, hx => by
    have h1 := h y List.mem_cons_self
    have h2 := sum_nn (p := r) fun z hz => h z (List.mem_cons_of_mem _ hz)
    rw [List.sum_cons]
    rcases List.mem_cons.mp hx with e | hx
    · omega
    · have h3 := le_sum (p := r) (fun z hz => h z (List.mem_cons_of_mem _ hz)) x hx
      omega
theorem sum_append (a b : List Int) : (a ++ b).sum = a.sum + b.sum := List.sum_append
theorem sum_perm {a b : List Int} (h : a.Perm b) : a.sum = b.sum := by
  induction h with
  | nil => rfl
  | cons x _ ih => rw [List.sum_cons, List.sum_cons, ih]
  | swap x y l => rw [List.sum_cons, List.sum_cons, List.sum_cons, List.sum_cons]; omega
  | trans _ _ ih1 ih2 => exact ih1.trans ih2
theorem desc_reverse {l : List Int} (h : l.Pairwise (· ≤ ·)) : l.reverse.Pairwise (fun a b => b ≤ a) := List.pairwise_reverse.mpr h
section
variable {P : Program} {w : World} {K : PySem.W.Frag} {mg : Str → Option Value} {base : Heap}
def sp_law_mixed : Sp := fun vs H Q _ => ∃ n k : Int, vs = [.int n, .int k] ∧ 0 ≤ k ∧ k ≤ 100000 ∧ RetV (.int (mixed n k)) H Q
theorem ok_law_mixed (T : Tx K mg) : FnOk P w K mg base CX0 1 T.a_law_mixed T.d_law_mixed ["_law_number_here", "_law_k"] sp_law_mixed := by
  refine T.F_law_mixed.ok sc_law_mixed (fun vs H Q E h => ?_) (fun cdv A outer s H vs Q E hr h => ?_)
  · obtain ⟨n, k, rfl, _⟩ := h
    rfl
  · obtain ⟨n, k, rfl, k0, k1, q⟩ := h
    refine ⟨_, (pss_cons (ps_set (i := 0) sc_law_mixed.nd rfl (Or.inl rfl) (pe_op op_mod (pe_op op_mul (pe_op op_add (pe_op op_add (pe_op op_mod (pv 0) pe_int) (pe_op op_mul (pe_op op_mul pe_int (pv 1)) (pv 1))) (pe_op op_mul pe_int (pv 1))) pe_int) pe_int))
    (pss_one (ps_ret (pe_op op_mod (pe_op op_mul (pv 0) (pe_op op_add pe_int (pe_op op_mul pe_int (pv 1)))) pe_int)))), ?_⟩
    refine q_asg (ev_rI (ev_rI (ev_rI0 (ev_rI0 (ev_rI (ev_var rfl) ev_c (by decide)) (ev_rI (ev_rI ev_c (ev_var rfl) (.inl (by decide))) (ev_var rfl) (.inr (by omega)))) (ev_rI ev_c (ev_var rfl) (.inl (by decide)))) ev_c (.inr (by decide))) ev_c (by decide)) fun H1 e1 => ?_
    refine s_ret (ev_rI (ev_rI (ev_var rfl) (ev_rI0 ev_c (ev_rI ev_c (ev_var rfl) (.inl (by decide)))) (.inr (by omega))) ev_c (by decide)) fun H2 e2 => ?_
    exact q H2 (e1.trans e2)
theorem spv_mixed {n k : Int} {H : Hp} (k0 : 0 ≤ k) (k1 : k ≤ 100000) : SpV sp_law_mixed [.int n, .int k] H (.int (mixed n k)) := fun H1 _ _ q _ => ⟨n, k, rfl, k0, k1, q⟩
def sp_law_number (K : PySem.W.Frag) : Sp := fun vs H Q _ => ∃ (a : Addr) (ns : List Int) (k : Int), vs = [.ref a, .int k] ∧ SqL K H a (ns.map V.int) ∧ 0 ≤ k ∧ k ≤ 100000 ∧ RetV (.int (numb ns k)) H Q
theorem ok_law_number (T : Tx K mg) : FnOk P w K mg base CX0 2 T.a_law_number T.d_law_number ["_law_script", "_law_k"] (sp_law_number K) := by
  refine T.F_law_number.ok sc_law_number (fun vs H Q E h => ?_) (fun cdv A outer s H vs Q E hr h => ?_)
  · obtain ⟨a, ns, k, rfl, _⟩ := h
    rfl
  · obtain ⟨a, ns, k, rfl, hS, k0, k1, q⟩ := h
    refine ⟨_, (pss_cons (ps_if (pt_cmpR (eqK (K := K) rfl hr.units) (pv 0) (pe_lst pa_nil) (nomark _))
      (pss_one (ps_ret (pe_call (ok_law_mixed T) (hr.mono (by decide)) (by rfl) T.g_law_mixed T.F_law_mixed.kp T.b_law_mixed .nil pass0 (pa_cons pe_int (pa_cons (pv 1) pa_nil)))))
      pss_nil)
    (pss_one (ps_ret (pe_call (ok_law_mixed T) (hr.mono (by decide)) (by rfl) T.g_law_mixed T.F_law_mixed.kp T.b_law_mixed .nil pass0 (pa_cons (pe_ix (ixlK (K := K) rfl) (pv 0) (pe_op op_mod (pv 1) (pe_callB (lenK (K := K) rfl) (by rfl) T.n_len PySem.boot_len (pa_cons (pv 0) pa_nil))) (fun _ _ => rfl)) (pa_cons (pv 1) pa_nil)))))), ?_⟩
    refine q_when (b := decide (ns = [])) (et_test (ev_opL (ev_var rfl) (el_lst (vs := []) ea_nil (by decide)) fun p H1 hp e1 => rv_eqL (ys := []) (ex_l e1 hS) (sq_of hp))) (fun hb H1 e1 => ?_) (fun hb H1 e1 => ?_)
    · have hn : ns = [] := of_decide_eq_true hb
      refine s_ret (ev_call (ea_cons ev_c (ea_cons (ev_var rfl) ea_nil)) (spv_mixed k0 k1)) fun H2 e2 => ?_
      have := q H2 (e1.trans e2)
      unfold numb at this
      rw [if_pos hn] at this
      exact this
    · have hn : ns ≠ [] := of_decide_eq_false hb
      have hl : 0 < ns.length := List.length_pos_iff.mpr hn
      have h1 : 0 ≤ k % (ns.length : Int) := Int.emod_nonneg _ (by omega)
      have h2 : k % (ns.length : Int) < ns.length := Int.emod_lt_of_pos _ (by omega)
      have el : ((ns.map V.int).length : Int) = (ns.length : Int) := by rw [List.length_map]
      refine s_ret (ev_call (ea_cons (ev_ixI (ev_var rfl) (ev_is (ev_rI (ev_var rfl) (ev_cb (ea_cons (ev_var rfl) ea_nil) (rc_len (ex_l e1 hS))) (by rw [el]; omega)) (by rw [el])) (ex_l e1 hS) h1 h2) (ea_cons (ev_var rfl) ea_nil)) (spv_mixed k0 k1)) fun H2 e2 => ?_
      have := q H2 (e1.trans e2)
      unfold numb at this
      rw [if_neg hn] at this
      exact this
theorem spv_number {a : Addr} {ns : List Int} {k : Int} {H : Hp} (hS : SqL K H a (ns.map V.int)) (k0 : 0 ≤ k) (k1 : k ≤ 100000) : SpV (sp_law_number K) [.ref a, .int k] H (.int (numb ns k)) := fun H1 e _ q _ => ⟨a, ns, k, rfl, ex_l e hS, k0, k1, q⟩
/-- one of a few written numbers -/
theorem at_few {zs : List Int} {i : Int} (h0 : 0 ≤ i) (h1 : i < zs.length) (lo hi : Int) (hz : ∀ z ∈ zs, lo ≤ z ∧ z ≤ hi) : ∃ z, atI (zs.map V.int) i = some (.int z) ∧ lo ≤ z ∧ z ≤ hi := by
  obtain ⟨j, rfl⟩ := Int.eq_ofNat_of_zero_le h0
  have hj : j < zs.length := by omega
  refine ⟨zs[j], atI_nat ?_, hz _ (List.getElem_mem hj)⟩
  rw [List.getElem?_map, List.getElem?_eq_getElem hj]
  rfl
/-- a list of whole numbers, new, of which P is known -/
def RetLP (P : List Int → Prop) (H : Hp) (Q : VK) : Prop := ∀ (p : Addr) (ys : List Int) (H2 : Hp), H p = none → Ex H H2 → Ll H2 p ys → P ys → Q (.ref p) H2
def sp_law_parting_by (K : PySem.W.Frag) : Sp := fun vs H Q _ => ∃ (a : Addr) (ns : List Int) (k : Int), vs = [.ref a, .int k] ∧ SqL K H a (ns.map V.int) ∧ ns.length ≤ 63 ∧ 0 ≤ k ∧ k ≤ 1000 ∧ RetLP IsP H Q
theorem ok_law_parting_by (T : Tx K mg) : FnOk P w K mg base CX0 3 T.a_law_parting_by T.d_law_parting_by ["_law_script", "_law_first"] (sp_law_parting_by K) := by
  refine T.F_law_parting_by.ok sc_law_parting_by (fun vs H Q E h => ?_) (fun cdv A outer s H vs Q E hr h => ?_)
  · obtain ⟨a, ns, k, rfl, _⟩ := h
    rfl
  · obtain ⟨a, ns, k, rfl, hS, hlen, k0, k1, q⟩ := h
    refine ⟨_, (pss_cons (ps_set (i := 2) sc_law_parting_by.nd rfl (Or.inl rfl) (pe_call (ok_law_number T) (hr.mono (by decide)) (by rfl) T.g_law_number T.F_law_number.kp T.b_law_number .nil pass0 (pa_cons (pv 0) (pa_cons (pv 1) pa_nil))))
    (pss_cons (ps_set (i := 3) sc_law_parting_by.nd rfl (Or.inl rfl) (pe_ix (ixlK (K := K) rfl) (pe_lst (pa_cons pe_int (pa_cons pe_int (pa_cons pe_int (pa_cons pe_int (pa_cons pe_int (pa_cons pe_int pa_nil))))))) (pe_op op_mod (pv 2) pe_int) (fun _ _ => rfl)))
    (pss_cons (ps_set (i := 4) sc_law_parting_by.nd rfl (Or.inl rfl) (pe_ix (ixlK (K := K) rfl) (pe_lst (pa_cons (pe_callB (lenK (K := K) rfl) (by rfl) T.n_len PySem.boot_len (pa_cons (pv 0) pa_nil)) (pa_cons pe_int (pa_cons pe_int (pa_cons pe_int pa_nil))))) (pe_op op_mod (pe_op op_fdiv (pv 2) pe_int) pe_int) (fun _ _ => rfl)))
    (pss_cons (ps_set (i := 5) sc_law_parting_by.nd rfl (Or.inl rfl) (pe_lst pa_nil))
    (pss_cons (ps_for PassesOwn.never rfl (pi_range1 rfl T.n_range (pa_cons (pe_callB (call_min2 rfl) (by rfl) T.n_min (by decide +kernel) (pa_cons (pv 4) (pa_cons pe_int pa_nil))) pa_nil)) (pg_name (i := 6) sc_law_parting_by.nd rfl (Or.inl rfl))
      (pss_cons (ps_set (i := 7) sc_law_parting_by.nd rfl (Or.inl rfl) (pe_op op_add pe_int (pe_op op_mod (pe_call (ok_law_number T) (hr.mono (by decide)) (by rfl) T.g_law_number T.F_law_number.kp T.b_law_number .nil pass0 (pa_cons (pv 0) (pa_cons (pe_op op_add (pe_op op_add (pv 1) pe_int) (pv 6)) pa_nil))) (pv 3))))
      (pss_one (ps_if (pt_cmpR op_le (pe_op op_add (pe_callB (sumK (K := K) rfl rfl) (by rfl) T.n_sum (by decide +kernel) (pa_cons (pv 5) pa_nil)) (pv 7)) pe_int (nomark _))
        (pss_one (ps_expr (pe_bm PySem.F.plainAttrs_list PySem.F.slot_list_append PySem.F.type_list_append mt_append (pv 5) (pa_cons (pv 7) pa_nil))))
        pss_nil))))
    (pss_cons (ps_set (i := 5) sc_law_parting_by.nd rfl (Or.inl rfl) (pe_callB (sortedK (K := K) rfl) (by rfl) T.n_sorted (by decide +kernel) (pa_cons (pv 5) pa_nil)))
    (pss_cons (ps_expr (pe_bm0 PySem.F.plainAttrs_list PySem.F.slot_list_reverse PySem.F.type_list_reverse mt_reverse (pv 5)))
    (pss_one (ps_ret (pv 5)))))))))), ?_⟩
    refine q_asg (ev_call (ea_cons (ev_var rfl) (ea_cons (ev_var rfl) ea_nil)) (spv_number hS k0 (by omega))) fun H1 e1 => ?_
    have n0 := numb_nn ns k
    generalize numb ns k = m at n0 ⊢
    obtain ⟨c, hc, c1, c2⟩ := at_few (zs := [2, 4, 7, 12, 30, 90]) (i := m % 6) (by omega) (by show m % 6 < 6; omega) 2 90 (by decide)
    refine q_asg (ev_ixN (el_lst (ea_cons ev_c (ea_cons ev_c (ea_cons ev_c (ea_cons ev_c (ea_cons ev_c (ea_cons ev_c ea_nil)))))) (by decide)) (fun H2 _ => ev_rI (ev_var rfl) ev_c (by decide)) hc) fun H2 e2 => ?_
    obtain ⟨l, hl, l1, l2⟩ := at_few (zs := [(ns.length : Int), 3, 6, 40]) (i := m / 6 % 4) (by omega) (by show m / 6 % 4 < 4; omega) 0 63 (by
      intro z hz
      simp only [List.mem_cons, List.not_mem_nil, or_false] at hz
      omega)
    have el : ((ns.map V.int).length : Int) = (ns.length : Int) := by rw [List.length_map]
    refine q_asg (ev_ixN (el_lst (ea_cons (ev_is (ev_cb (ea_cons (ev_var rfl) ea_nil) (rc_len (ex_l (e1.trans e2) hS))) (by rw [el])) (ea_cons ev_c (ea_cons ev_c (ea_cons ev_c ea_nil)))) (by show 4 ≤ 100000; decide)) (fun H2 _ => ev_rI (ev_rI (ev_var rfl) ev_c ⟨by decide, by decide⟩) ev_c (by decide)) hl) fun H3 e3 => ?_
    refine q_asgL (xs := []) (el_lst ea_nil (by decide)) fun p H4 np e4 hp => ?_
    have e14 : Ex H H4 := ((e1.trans e2).trans e3).trans e4
    have npH : H p = none := fresh_back ((e1.trans e2).trans e3) np
    have hm : (if (60 : Int) < l then (60 : Int) else l) ≤ 60 := by split <;> omega
    have hm0 : 0 ≤ (if (60 : Int) < l then (60 : Int) else l) := by split <;> omega
    refine q_forR1 (ea_cons (ev_cb (ea_cons (ev_var rfl) (ea_cons ev_c ea_nil)) rc_min2) ea_nil) ⟨hm0, by omega⟩
      (fun i σ' H' => ∃ (fs : List Int) (y1 y2 : Option V), σ' = [some (.ref a), some (.int k), some (.int m), some (.int c), some (.int l), some (.ref p), y1, y2] ∧ Ex H H' ∧ Ll H' p fs ∧ (∀ x ∈ fs, 1 ≤ x) ∧ fs.sum ≤ 200)
      (fun H5 e5 => ⟨[], none, none, rfl, e14.trans e5, e5 _ _ hp, (fun x hx => by cases hx), by decide⟩) (fun i σ' H' hi hP => ?_) (fun σ' H' hP => ?_)
    · obtain ⟨fs, y1, y2, rfl, eH, hf, f1, f2⟩ := hP
      have hS' := ex_l eH hS
      have b0 := numb_nn ns (k + 1 + (i : Int))
      refine q_asg (ev_rI0 ev_c (ev_rI (ev_call (ea_cons (ev_var rfl) (ea_cons (ev_rI0 (ev_rI0 (ev_var rfl) ev_c) (ev_var rfl)) ea_nil)) (spv_number hS' (by omega) (by omega))) (ev_var rfl) (by omega))) fun H5 e5 => ?_
      have d0 : 0 ≤ numb ns (k + 1 + (i : Int)) % c := Int.emod_nonneg _ (by omega)
      generalize hd : numb ns (k + 1 + (i : Int)) % c = d at d0 ⊢
      refine s_when (b := decide (fs.sum + (1 + d) ≤ 200)) (et_test (ev_rI0 (ev_rI0 (ev_cb (ea_cons (ev_var rfl) ea_nil) (rc_sum (ex_l e5 hf.sq))) (ev_var rfl)) ev_c)) (fun hb H6 e6 => ?_) (fun hb H6 e6 => ?_)
      · have hle := of_decide_eq_true hb
        have hfl := len_le_sum f1
        refine s_app (xs := fs.map V.int) ((e5.trans e6) _ _ hf) (ev_var rfl) (ev_var rfl) (by rw [List.length_map]; omega) fun H7 e7 => ?_
        refine ⟨fs ++ [1 + d], _, _, rfl, ((eH.trans (e5.trans e6)).trans e7).mut npH, ?_, fun x hx => ?_, ?_⟩
        · show upd H7 p _ p = _
          rw [upd_same, List.map_append]
          rfl
        · rcases List.mem_append.mp hx with hx | hx
          · exact f1 x hx
          · rw [List.mem_singleton.mp hx]
            omega
        · rw [sum_append]
          show fs.sum + ((1 + d) + 0) ≤ 200
          omega
      · exact ⟨fs, _, _, rfl, eH.trans (e5.trans e6), (e5.trans e6) _ _ hf, f1, f2⟩
    · obtain ⟨fs, y1, y2, rfl, eH, hf, f1, f2⟩ := hP
      refine q_asgP (evP_sorted (ea_cons (ev_var rfl) ea_nil) hf.sq) fun v H5 e5 hv => ?_
      obtain ⟨o, ys, rfl, no, hp1, ho, hy⟩ := hv
      have noH : H o = none := fresh_back eH no
      refine q_rev (ev_var rfl) hy fun H6 e6 => ?_
      refine s_ret (ev_var rfl) fun H7 e7 => ?_
      refine q o ys.reverse H7 noH (((eH.trans (e5.trans e6)).mut noH).trans e7) (e7 _ _ ?_) ⟨fun x hx => ?_, desc_reverse ho, ?_⟩
      · rw [upd_same, List.map_reverse]
      · exact f1 x (hp1.mem_iff.mp (List.mem_reverse.mp hx))
      · rw [sum_perm (List.reverse_perm ys), sum_perm hp1]
        exact f2
theorem evP_parting {a : Addr} {ns : List Int} {k : Int} {σ : L2.St} {H : Hp} {ta : TA} {E : XK} (h : EvA ta σ H [.ref a, .int k]) (hS : SqL K H a (ns.map V.int)) (hl : ns.length ≤ 63) (k0 : 0 ≤ k) (k1 : k ≤ 1000) :
    EvP (tCall (sp_law_parting_by K) [] E ta) σ H (fun v H1 => ∃ (p : Addr) (ys : List Int), v = .ref p ∧ H p = none ∧ Ll H1 p ys ∧ IsP ys) :=
  evP_call h fun H1 e Q q E => ⟨a, ns, k, rfl, ex_l e hS, hl, k0, k1, fun p ys H2 np e2 hp hy => q _ _ e2 ⟨p, ys, rfl, fresh_back e np, hp, hy⟩⟩
end
/-! ### stairparts.partings: is_number, is_parting, check_parting -/
def partB : Int → Int → List Int → Bool
  | _, _, [] => true
  | ahead, whole, x :: r => if x < 1 ∨ ahead < x then false else if 200 < whole + x then false else partB x (whole + x) r
theorem partB_iff : ∀ (p : List Int) (ahead whole : Int), whole ≤ 200 → (partB ahead whole p = true ↔ (∀ x ∈ p, 1 ≤ x ∧ x ≤ ahead) ∧ p.Pairwise (fun a b => b ≤ a) ∧ whole + p.sum ≤ 200)
  | [], ahead, whole, h => by
    refine ⟨fun _ => ⟨fun x hx => (by cases hx), .nil, ?_⟩, fun _ => rfl⟩
    show whole + 0 ≤ 200
    omega
  | x :: r, ahead, whole, h => by
    show (if x < 1 ∨ ahead < x then false else if 200 < whole + x then false else partB x (whole + x) r) = true ↔ _
    rw [List.sum_cons, List.pairwise_cons]
    by_cases c : x < 1 ∨ ahead < x
    · rw [if_pos c]
      refine ⟨fun z => (by cases z), fun ⟨h1, _, _⟩ => ?_⟩
      have := h1 x List.mem_cons_self
      omega
    · rw [if_neg c]
      by_cases c2 : 200 < whole + x
      · rw [if_pos c2]
        refine ⟨fun z => (by cases z), fun ⟨h1, _, h3⟩ => ?_⟩
        have := sum_nn (p := r) fun y hy => (by have := h1 y (List.mem_cons_of_mem _ hy); omega)
        omega
      · rw [if_neg c2, partB_iff r x (whole + x) (by omega)]
        refine ⟨fun ⟨h1, h2, h3⟩ => ⟨fun y hy => ?_, ⟨fun y hy => (h1 y hy).2, h2⟩, by omega⟩, fun ⟨h1, h2, h3⟩ => ⟨fun y hy => ⟨(h1 y (List.mem_cons_of_mem _ hy)).1, h2.1 y hy⟩, h2.2, by omega⟩⟩
        rcases List.mem_cons.mp hy with e | hy
        · omega
        · have := h1 y hy
          omega
def isPart (p : List Int) : Bool := partB 200 0 p
theorem isPart_iff {p : List Int} : isPart p = true ↔ IsP p := by
  unfold isPart
  rw [partB_iff p 200 0 (by decide)]
  refine ⟨fun ⟨h1, h2, h3⟩ => ⟨fun x hx => (h1 x hx).1, h2, by omega⟩, fun ⟨h1, h2, h3⟩ => ⟨fun x hx => ⟨h1 x hx, ?_⟩, h2, by omega⟩⟩
  have := le_sum (fun y hy => (by have := h1 y hy; omega)) x hx
  omega
theorem IsP.is {p : List Int} (h : IsP p) : isPart p = true := isPart_iff.mpr h
section
variable {P : Program} {w : World} {K : PySem.W.Frag} {mg : Str → Option Value} {base : Heap}
def sp_is_number (K : PySem.W.Frag) : Sp := fun vs H Q _ => ∃ (x : V) (t : Value) (b1 b2 : Bool), vs = [x] ∧ (∀ H1, Ex H H1 → TyX K H1 x t) ∧ PySem.W.kitOne K t (.type "int") = some b1 ∧ PySem.W.kitOne K t (.type "bool") = some b2 ∧ RetV (.bl (b1 && !b2)) H Q
theorem ok_is_number (T : Tx K mg) : FnOk P w K mg base CX0 1 T.a_is_number T.d_is_number ["thing"] (sp_is_number K) := by
  refine T.F_is_number.ok sc_is_number (fun vs H Q E h => ?_) (fun cdv A outer s H vs Q E hr h => ?_)
  · obtain ⟨x, t, b1, b2, rfl, _⟩ := h
    rfl
  · obtain ⟨x, t, b1, b2, rfl, ty, k1, k2, q⟩ := h
    refine ⟨_, (pss_one (ps_ret (pe_and (pe_callB (isiK (K := K) rfl) (by rfl) T.n_isinstance (by decide +kernel) (pa_cons (pv 0) (pa_cons (pe_bltn (v := .ty "int") (u := .type "int") (by rfl) T.n_int (by decide +kernel) rfl) pa_nil))) (pe_one (pe_not (pe_callB (isiK (K := K) rfl) (by rfl) T.n_isinstance (by decide +kernel) (pa_cons (pv 0) (pa_cons (pe_bltn (v := .ty "bool") (u := .type "bool") (by rfl) T.n_bool (by decide +kernel) rfl) pa_nil)))))))), ?_⟩
    exact s_ret (ev_andV (ev_cb (ea_cons (ev_var rfl) (ea_cons ev_c ea_nil)) (rc_isi (.ty _) ty k1)) fun _ => ev_notV (ev_cb (ea_cons (ev_var rfl) (ea_cons ev_c ea_nil)) (rc_isi (.ty _) ty k2))) fun H1 e1 => q H1 e1
theorem spv_number_int {i : Int} {H : Hp} : SpV (sp_is_number K) [.int i] H (.bl true) := fun H1 e Q q _ =>
  ⟨.int i, .type "int", true, false, rfl, fun _ _ => .base (.int _), kit_ty (by decide +kernel), kit_ty (by decide +kernel), q⟩
def sp_is_parting : Sp := fun vs H Q _ => ∃ (a : Addr) (ns : List Int), vs = [.ref a] ∧ Ll H a ns ∧ RetV (.bl (isPart ns)) H Q
theorem ok_is_parting (T : Tx K mg) : FnOk P w K mg base CX0 2 T.a_is_parting T.d_is_parting ["thing"] sp_is_parting := by
  refine T.F_is_parting.ok sc_is_parting (fun vs H Q E h => ?_) (fun cdv A outer s H vs Q E hr h => ?_)
  · obtain ⟨a, ns, rfl, _⟩ := h
    rfl
  · obtain ⟨a, ns, rfl, hL, q⟩ := h
    refine ⟨_, (pss_cons (ps_if (pt_not (pt_val (pe_callB (isiK (K := K) rfl) (by rfl) T.n_isinstance (by decide +kernel) (pa_cons (pv 0) (pa_cons (pe_bltn (v := .ty "list") (u := .type "list") (by rfl) T.n_list (by decide +kernel) rfl) pa_nil)))))
      (pss_one (ps_ret pe_bl))
      pss_nil)
    (pss_cons (ps_set (i := 1) sc_is_parting.nd rfl (Or.inl rfl) pe_int)
    (pss_cons (ps_set (i := 2) sc_is_parting.nd rfl (Or.inl rfl) (pe_glob rfl T.c_GREATEST_WHOLE T.r_GREATEST_WHOLE))
    (pss_cons (ps_for PassesOwn.never rfl (pi_list (pv 0)) (pg_name (i := 3) sc_is_parting.nd rfl (Or.inl rfl))
      (pss_cons (ps_if (PW.pt (pw_or (pt_not (pt_val (pe_call (ok_is_number T) (hr.mono (by decide)) (by rfl) T.g_is_number T.F_is_number.kp T.b_is_number .nil pass0 (pa_cons (pv 3) pa_nil)))) (pw_or (pt_cmpR op_lt (pv 3) pe_int (nomark _)) (pw_or1 (pt_cmpR op_gt (pv 3) (pv 2) (nomark _))))))
        (pss_one (ps_ret pe_bl))
        pss_nil)
      (pss_cons (ps_set (i := 2) sc_is_parting.nd rfl (Or.inl rfl) (pv 3))
      (pss_cons (ps_aug (i := 1) sc_is_parting.nd rfl (Or.inl rfl) (pv 3) ip_add)
      (pss_one (ps_if (pt_cmpR op_gt (pv 1) (pe_glob rfl T.c_GREATEST_WHOLE T.r_GREATEST_WHOLE) (nomark _))
        (pss_one (ps_ret pe_bl))
        pss_nil))))))
    (pss_one (ps_ret pe_bl)))))), ?_⟩
    refine q_when (et_not (et_B (ev_cb (ea_cons (ev_var rfl) (ea_cons ev_c ea_nil)) (rc_isiL hL)))) (fun hb => by cases hb) (fun _ H1 e1 => ?_)
    refine q_asg ev_c fun H2 e2 => ?_
    refine q_asg ev_c fun H3 e3 => ?_
    have e13 := (e1.trans e2).trans e3
    refine q_forLn (ev_var rfl) (ex_l e13 hL.sq) (fun i σ' H' => ∃ (ah wh : Int) (y : Option V), σ' = [some (.ref a), some (.int wh), some (.int ah), y] ∧ Ex H H' ∧ isPart ns = partB ah wh (ns.drop i))
      (fun H4 e4 => ⟨200, 0, none, rfl, e13.trans e4, rfl⟩) (fun i σ' H' _ hP => ?_) (fun i x σ' H' hx hP => ?_) (fun σ' H' hP => ?_)
    · obtain ⟨ah, wh, y, rfl, eH, _⟩ := hP
      exact ex_l eH hL.sq
    · obtain ⟨ah, wh, y, rfl, eH, hp⟩ := hP
      obtain ⟨z, hz, rfl⟩ := get_int hx
      rw [drop_one hz] at hp
      have hp' : isPart ns = if z < 1 ∨ ah < z then false else if 200 < wh + z then false else partB z (wh + z) (ns.drop (i + 1)) := hp
      refine q_when (b := decide (z < 1) || decide (ah < z)) (et_is (et_or (et_not (et_B (ev_call (ea_cons (ev_var rfl) ea_nil) spv_number_int))) fun _ => et_or (et_test (ev_rI0 (ev_var rfl) ev_c)) fun _ => et_test (ev_rI0 (ev_var rfl) (ev_var rfl))) rfl) (fun hb H4 e4 => ?_) (fun hb H4 e4 => ?_)
      · refine s_ret ev_c fun H5 e5 => ?_
        rw [Bool.or_eq_true, decide_eq_true_eq, decide_eq_true_eq] at hb
        rw [if_pos hb] at hp'
        have := q H5 (eH.trans (e4.trans e5))
        rw [hp'] at this
        exact this
      · rw [Bool.or_eq_false_iff, decide_eq_false_iff_not, decide_eq_false_iff_not] at hb
        rw [if_neg (by omega)] at hp'
        refine q_asg (ev_var rfl) fun H5 e5 => ?_
        refine q_aug rfl (ev_var rfl) fun H6 e6 => ?_
        refine s_when (b := decide (200 < wh + z)) (et_test (ev_rI0 (ev_var rfl) ev_c)) (fun hb H7 e7 => ?_) (fun hb H7 e7 => ?_)
        · refine s_ret ev_c fun H8 e8 => ?_
          rw [if_pos (of_decide_eq_true hb)] at hp'
          have := q H8 (eH.trans ((((e4.trans e5).trans e6).trans e7).trans e8))
          rw [hp'] at this
          exact this
        · rw [if_neg (of_decide_eq_false hb)] at hp'
          exact ⟨z, wh + z, _, rfl, eH.trans (((e4.trans e5).trans e6).trans e7), hp'⟩
    · obtain ⟨ah, wh, y, rfl, eH, hp⟩ := hP
      have hp' : isPart ns = true := by
        rw [hp, List.drop_of_length_le (by rw [List.length_map]; exact Nat.le_refl _)]
        rfl
      refine s_ret ev_c fun H5 e5 => ?_
      have := q H5 (eH.trans e5)
      rw [hp'] at this
      exact this
theorem spv_is_parting {a : Addr} {ns : List Int} {H : Hp} (hL : Ll H a ns) : SpV sp_is_parting [.ref a] H (.bl (isPart ns)) := fun H1 e _ q _ => ⟨a, ns, rfl, e _ _ hL, q⟩
def sp_check_parting : Sp := fun vs H Q _ => ∃ (a : Addr) (ns : List Int), vs = [.ref a] ∧ Ll H a ns ∧ IsP ns ∧ RetV .non H Q
theorem ok_check_parting (T : Tx K mg) : FnOk P w K mg base CX0 3 T.a_check_parting T.d_check_parting ["thing"] sp_check_parting := by
  refine T.F_check_parting.ok sc_check_parting (fun vs H Q E h => ?_) (fun cdv A outer s H vs Q E hr h => ?_)
  · obtain ⟨a, ns, rfl, _⟩ := h
    rfl
  · obtain ⟨a, ns, rfl, hL, hp, q⟩ := h
    refine ⟨_, (pss_one (ps_if (pt_not (pt_val (pe_call (ok_is_parting T) (hr.mono (by decide)) (by rfl) T.g_is_parting T.F_is_parting.kp T.b_is_parting .nil pass0 (pa_cons (pv 0) pa_nil))))
      (pss_one ps_never)
      pss_nil)), ?_⟩
    refine s_when (et_not (et_B (ev_call (ea_cons (ev_var rfl) ea_nil) (spv_is_parting hL)))) (fun hb => ?_) (fun _ H1 e1 => q H1 e1)
    rw [hp.is] at hb
    cases hb
theorem spv_check {a : Addr} {ns : List Int} {H : Hp} (hL : Ll H a ns) (hp : IsP ns) : SpV sp_check_parting [.ref a] H .non := fun H1 e _ q _ => ⟨a, ns, rfl, e _ _ hL, hp, q⟩
end
/-! ### stairparts.partings: turned -/
def cnt (ns : List Int) (c : Int) : Int := ((ns.filter fun z => decide (c < z)).length : Int)
def mx (ns : List Int) : Int := ns.foldl max 0
theorem foldl_max_ge : ∀ (ns : List Int) (d : Int), d ≤ ns.foldl max d
  | [], d => Int.le_refl d
  | x :: r, d => by
    have := foldl_max_ge r (max d x)
    rw [List.foldl_cons]
    omega
theorem foldl_max_mem : ∀ (ns : List Int) (d : Int), ∀ x ∈ ns, x ≤ ns.foldl max d
  | [], _, x, h => by cases h
  | y :: r, d, x, h => by
    rw [List.foldl_cons]
    rcases List.mem_cons.mp h with e | h
    · have := foldl_max_ge r (max d y)
      omega
    · exact foldl_max_mem r _ x h
theorem foldl_max_le : ∀ (ns : List Int) (d m : Int), d ≤ m → (∀ x ∈ ns, x ≤ m) → ns.foldl max d ≤ m
  | [], d, m, h, _ => h
  | x :: r, d, m, h, hx => by
    have := hx x List.mem_cons_self
    rw [List.foldl_cons]
    exact foldl_max_le r _ m (by omega) fun y hy => hx y (List.mem_cons_of_mem _ hy)
theorem mx_nn (ns : List Int) : 0 ≤ mx ns := foldl_max_ge ns 0
theorem mx_mem {ns : List Int} : ∀ x ∈ ns, x ≤ mx ns := foldl_max_mem ns 0
theorem mx_eq {ns : List Int} {m : Int} (h0 : 0 ≤ m) (hm : m ∈ ns) (hle : ∀ y ∈ ns, y ≤ m) : m = mx ns := by
  have h1 := mx_mem m hm
  have h2 := foldl_max_le ns 0 m h0 hle
  unfold mx at *
  omega
theorem mx_le {ns : List Int} (h : IsP ns) : mx ns ≤ 200 := foldl_max_le ns 0 200 (by decide) fun x hx => by
  have := le_sum (fun y hy => (by have := h.1 y hy; omega)) x hx
  have := h.2.2
  omega
/-- the stair's columns -/
def Tn (ns : List Int) : List Int := (List.range (mx ns).toNat).map fun (j : Nat) => cnt ns (j : Int)
section
variable {P : Program} {w : World} {K : PySem.W.Frag} {mg : Str → Option Value} {base : Heap}
def sp_column_height : Sp := fun vs H Q _ => ∃ (a : Addr) (ns : List Int) (c : Int), vs = [.ref a, .int c] ∧ Ll H a ns ∧ ns.length ≤ 40000 ∧ RetV (.int (cnt ns c)) H Q
theorem ok_column_height (T : Tx K mg) : FnOk P w K mg base CX0 1 T.a_column_height T.d_column_height ["parting", "column"] sp_column_height := by
  refine T.F_column_height.ok sc_column_height (fun vs H Q E h => ?_) (fun cdv A outer s H vs Q E hr h => ?_)
  · obtain ⟨a, ns, c, rfl, _⟩ := h
    rfl
  · obtain ⟨a, ns, c, rfl, hL, hz, q⟩ := h
    refine ⟨_, (pss_one (ps_ret (pe_callB (lenK (K := K) rfl) (by rfl) T.n_len PySem.boot_len (pa_cons (pe_lc (own := [("part", 2)]) (g := gName 2) (by rfl) sc_column_height.nd (pi_list (pv 0)) (blkOk_by (own := [("part", 2)]) (N := ["parting", "column", "part"]) (sc := defScope s_column_height) (by decide +kernel)) (fun _ _ _ _ _ => (pg_name (i := 2) sc_column_height.nd rfl (Or.inl rfl))) (fun _ _ _ _ _ => pts_one (pt_cmpR op_gt (pv 2) (pv 1) (nomark _))) (fun _ _ _ _ _ => (pv 2))) pa_nil)))), ?_⟩
    refine s_ret (ev_cbL (el_lcI (fun z => decide (c < z)) V.int (ev_var rfl) hL.sq hz (fun _ => rfl) (fun z H1 _ _ => et_test (ev_rI0 (ev_var rfl) (ev_var rfl))) fun z H1 _ _ _ => ev_var rfl) fun p H1 _ hp => rc_len (sq_of hp)) fun H1 e1 => ?_
    rw [List.length_map]
    exact q H1 e1
theorem spv_column {a : Addr} {ns : List Int} {c : Int} {H : Hp} (hL : Ll H a ns) (hz : ns.length ≤ 40000) : SpV sp_column_height [.ref a, .int c] H (.int (cnt ns c)) := fun H1 e _ q _ => ⟨a, ns, c, rfl, e _ _ hL, hz, q⟩
def sp_turned : Sp := fun vs H Q _ => ∃ (a : Addr) (ns : List Int), vs = [.ref a] ∧ Ll H a ns ∧ IsP ns ∧ RetL ((Tn ns).map V.int) H Q
theorem ok_turned (T : Tx K mg) : FnOk P w K mg base CX0 4 T.a_turned T.d_turned ["parting"] sp_turned := by
  refine T.F_turned.ok sc_turned (fun vs H Q E h => ?_) (fun cdv A outer s H vs Q E hr h => ?_)
  · obtain ⟨a, ns, rfl, _⟩ := h
    rfl
  · obtain ⟨a, ns, rfl, hL, hp, q⟩ := h
    refine ⟨_, (pss_cons (ps_expr (pe_call (ok_check_parting T) (hr.mono (by decide)) (by rfl) T.g_check_parting T.F_check_parting.kp T.b_check_parting .nil pass0 (pa_cons (pv 0) pa_nil)))
    (pss_one (ps_ret (pe_lc (own := [("column", 1)]) (g := gName 1) (by rfl) sc_turned.nd (pi_range1 rfl T.n_range (pa_cons (pe_callBK (maxDK (K := K) rfl rfl hr.two) (by rfl) T.n_max (by decide +kernel) (pa_cons (pv 0) pa_nil) (pk_cons pe_int pk_nil)) pa_nil)) (blkOk_by (own := [("column", 1)]) (N := ["parting", "column"]) (sc := defScope s_turned) (by decide +kernel)) (fun _ _ _ _ _ => (pg_name (i := 1) sc_turned.nd rfl (Or.inl rfl))) (fun _ _ _ _ _ => pts_nil) (fun _ _ _ _ _ => (pe_call (ok_column_height T) (hr.mono (by decide)) (by rfl) T.g_column_height T.F_column_height.kp T.b_column_height .nil pass0 (pa_cons (pv 0) (pa_cons (pv 1) pa_nil)))))))), ?_⟩
    refine q_drop (ev_call (ea_cons (ev_var rfl) ea_nil) (spv_check hL hp)) fun H1 e1 => ?_
    have hl := hp.len
    have h0 := mx_nn ns
    have h1 := mx_le hp
    refine s_retL (el_lcRA (fun i => V.int (cnt ns (i : Int))) (ea_cons (ev_maxD (ea_cons (ev_var rfl) ea_nil) (ea_cons ev_c ea_nil) (ex_l e1 hL.sq) (fun z => ?_) (fun k k1 k2 => ?_)) ea_nil) ⟨h0, by omega⟩ (fun _ => rfl) fun i H2 e2 _ => ev_call (ea_cons (ev_var rfl) (ea_cons (ev_var rfl) ea_nil)) (spv_column ((e1.trans e2) _ _ hL) (by omega))) fun p H2 np e2 h2 => ?_
    · rw [z]
      rfl
    · exact mx_eq (by have := hp.1 k k1; omega) k1 k2
    · refine q p H2 (fresh_back e1 np) (e1.trans e2) ?_
      rw [h2]
      unfold Tn
      rw [List.map_map]
      rfl
end
/-! ### _law_is_row -/
section
variable {P : Program} {w : World} {K : PySem.W.Frag} {mg : Str → Option Value} {base : Heap}
def sp_law_is_row : Sp := fun vs H Q _ => ∃ (a b : Addr) (xs ys : List Int), vs = [.ref a, .ref b] ∧ Ll H a xs ∧ Ll H b ys ∧ xs.length ≤ 40000 ∧ RetV (.bl (decide (xs = ys))) H Q
theorem all_true (xs : List Int) : ((xs.map fun _ => true).all id) = true := by
  rw [List.all_eq_true]
  intro b hb
  obtain ⟨_, _, rfl⟩ := List.mem_map.mp hb
  rfl
theorem ok_law_is_row (T : Tx K mg) : FnOk P w K mg base CX0 1 T.a_law_is_row T.d_law_is_row ["_law_found", "_law_due"] sp_law_is_row := by
  refine T.F_law_is_row.ok sc_law_is_row (fun vs H Q E h => ?_) (fun cdv A outer s H vs Q E hr h => ?_)
  · obtain ⟨a, b, xs, ys, rfl, _⟩ := h
    rfl
  · obtain ⟨a, b, xs, ys, rfl, hx, hy, hz, q⟩ := h
    refine ⟨_, (pss_cons (ps_if (PW.pt (pw_or (pt_not (pt_val (pe_callB (isiK (K := K) rfl) (by rfl) T.n_isinstance (by decide +kernel) (pa_cons (pv 0) (pa_cons (pe_bltn (v := .ty "list") (u := .type "list") (by rfl) T.n_list (by decide +kernel) rfl) pa_nil))))) (pw_or1 (pt_cmpR (neK (K := K) rfl hr.units) (pv 0) (pv 1) (nomark _)))))
      (pss_one (ps_ret pe_bl))
      pss_nil)
    (pss_one (ps_ret (pe_callB (allK (K := K) rfl rfl) (by rfl) T.n_all (by decide +kernel) (pa_cons (pe_lc (own := [("_law_one", 2)]) (g := gName 2) (by rfl) sc_law_is_row.nd (pi_list (pv 0)) (blkOk_by (own := [("_law_one", 2)]) (N := ["_law_found", "_law_due", "_law_one"]) (sc := defScope s_law_is_row) (by decide +kernel)) (fun _ _ _ _ _ => (pg_name (i := 2) sc_law_is_row.nd rfl (Or.inl rfl))) (fun _ _ _ _ _ => pts_nil) (fun _ _ _ _ _ => (pe_and (pe_callB (isiK (K := K) rfl) (by rfl) T.n_isinstance (by decide +kernel) (pa_cons (pv 2) (pa_cons (pe_bltn (v := .ty "int") (u := .type "int") (by rfl) T.n_int (by decide +kernel) rfl) pa_nil))) (pe_one (pe_not (pe_callB (isiK (K := K) rfl) (by rfl) T.n_isinstance (by decide +kernel) (pa_cons (pv 2) (pa_cons (pe_bltn (v := .ty "bool") (u := .type "bool") (by rfl) T.n_bool (by decide +kernel) rfl) pa_nil)))))))) pa_nil))))), ?_⟩
    refine q_when (et_or (et_not (et_B (ev_cb (ea_cons (ev_var rfl) (ea_cons ev_c ea_nil)) (rc_isiL hx)))) fun _ => et_test (ev_op (ev_var rfl) (ev_var rfl) (rv_neL hx.sq hy.sq))) (fun hb H1 e1 => ?_) (fun hb H1 e1 => ?_)
    · refine s_ret ev_c fun H2 e2 => ?_
      have hn : decide (xs = ys) = false := by
        cases h : decide (xs = ys) with
        | false => rfl
        | true => rw [h] at hb; cases hb
      have := q H2 (e1.trans e2)
      rw [hn] at this
      exact this
    · have hn : decide (xs = ys) = true := by
        cases h : decide (xs = ys) with
        | true => rfl
        | false => rw [h] at hb; cases hb
      refine s_ret (ev_cbL (el_is (el_lcIA (fun _ => V.bl true) (ev_var rfl) (Ll.sq (e1 _ _ hx)) hz (fun _ => rfl) fun z H2 _ _ => ev_andV (ev_cb (ea_cons (ev_var rfl) (ea_cons ev_c ea_nil)) rc_isiInt) fun _ => ev_notV (ev_cb (ea_cons (ev_var rfl) (ea_cons ev_c ea_nil)) rc_isiBool))
        (show xs.map (fun _ => V.bl true) = (xs.map fun _ => true).map V.bl from (List.map_map).symm)) fun p H2 _ hp => rc_all (sq_of hp)) fun H2 e2 => ?_
      rw [all_true]
      have := q H2 (e1.trans e2)
      rw [hn] at this
      exact this
theorem spv_row {a b : Addr} {xs ys : List Int} {H : Hp} (hx : Ll H a xs) (hy : Ll H b ys) (hz : xs.length ≤ 40000) : SpV sp_law_is_row [.ref a, .ref b] H (.bl (decide (xs = ys))) := fun H1 e _ q _ => ⟨a, b, xs, ys, rfl, e _ _ hx, e _ _ hy, hz, q⟩
end
/-! ### _law_turned -/
theorem mx0_eq {ns : List Int} {m : Int} (h : m ∈ 0 :: ns) (hle : ∀ y ∈ 0 :: ns, y ≤ m) : m = mx ns := by
  have h0 := hle 0 List.mem_cons_self
  rcases List.mem_cons.mp h with e | h
  · have h1 := mx_nn ns
    have h2 := foldl_max_le ns 0 m h0 fun x hx => hle x (List.mem_cons_of_mem _ hx)
    unfold mx at *
    omega
  · exact mx_eq h0 h fun y hy => hle y (List.mem_cons_of_mem _ hy)
section
variable {P : Program} {w : World} {K : PySem.W.Frag} {mg : Str → Option Value} {base : Heap}
theorem ok_law_turned (T : Tx K mg) : FnOk P w K mg base CX0 1 T.a_law_turned T.d_law_turned ["_law_parting"] sp_turned := by
  refine T.F_law_turned.ok sc_law_turned (fun vs H Q E h => ?_) (fun cdv A outer s H vs Q E hr h => ?_)
  · obtain ⟨a, ns, rfl, _⟩ := h
    rfl
  · obtain ⟨a, ns, rfl, hL, hp, q⟩ := h
    refine ⟨_, (pss_cons (ps_set (i := 1) sc_law_turned.nd rfl (Or.inl rfl) (pe_lst pa_nil))
    (pss_cons (ps_for PassesOwn.never rfl (pi_range1 rfl T.n_range (pa_cons (pe_callB (maxK (K := K) rfl rfl) (by rfl) T.n_max (by decide +kernel) (pa_cons (pe_op op_cat (pe_lst (pa_cons pe_int pa_nil)) (pv 0)) pa_nil)) pa_nil)) (pg_name (i := 2) sc_law_turned.nd rfl (Or.inr rfl))
      (pss_one (ps_expr (pe_bm PySem.F.plainAttrs_list PySem.F.slot_list_append PySem.F.type_list_append mt_append (pv 1) (pa_cons (pe_callB (lenK (K := K) rfl) (by rfl) T.n_len PySem.boot_len (pa_cons (pe_lc (own := [("_law_part", 3)]) (g := gName 3) (by rfl) sc_law_turned.nd (pi_list (pv 0)) (blkOk_by (own := [("_law_part", 3)]) (N := ["_law_parting", "_law_found", "_law_at", "_law_part"]) (sc := defScope s_law_turned) (by decide +kernel)) (fun _ _ _ _ _ => (pg_name (i := 3) sc_law_turned.nd rfl (Or.inl rfl))) (fun _ _ _ _ _ => pts_one (pt_cmpR op_gt (pv 3) (pv 2) (nomark _))) (fun _ _ _ _ _ => (pv 3))) pa_nil)) pa_nil)))))
    (pss_one (ps_ret (pv 1))))), ?_⟩
    have hl := hp.len
    have h0 := mx_nn ns
    have h1 := mx_le hp
    refine q_asgL (xs := []) (el_lst ea_nil (by decide)) fun p H1 np e1 hp1 => ?_
    have e01 : ([0] : List Int).map V.int ++ ns.map V.int = (0 :: ns).map V.int := by rw [← List.map_append]; rfl
    refine q_forR1 (n := mx ns) (ea_cons (ev_cbL (el_is (el_catN (zs := [V.int 0]) (el_lst (ea_cons ev_c ea_nil) (by show 1 ≤ 100000; decide)) (ev_var rfl) (e1 _ _ hL) (by rw [List.length_map]; show 1 + ns.length ≤ 100000; omega)) e01) fun p H2 _ hp => rc_maxOf (sq_of hp) (Nat.succ_pos _) fun k k1 k2 => mx0_eq k1 k2) ea_nil) ⟨h0, by omega⟩
      (fun i σ' H' => ∃ y z : Option V, σ' = [some (.ref a), some (.ref p), y, z] ∧ Ex H H' ∧ H' p = some (.lst ((List.range i).map fun (j : Nat) => V.int (cnt ns (j : Int)))))
      (fun H2 e2 => ⟨none, none, rfl, e1.trans e2, e2 _ _ hp1⟩) (fun i σ' H' hi hP => ?_) (fun σ' H' hP => ?_)
    · obtain ⟨y, z, rfl, eH, hl'⟩ := hP
      refine s_app hl' (ev_var rfl) (ev_cbL (el_lcI (fun z => decide ((i : Int) < z)) V.int (ev_var rfl) (Ll.sq (eH _ _ hL)) (by omega) (fun _ => rfl) (fun z H1 _ _ => et_test (ev_rI0 (ev_var rfl) (ev_var rfl))) fun z H1 _ _ _ => ev_var rfl) fun p H1 _ hp => rc_len (sq_of hp)) (by rw [List.length_map, List.length_range]; omega) fun H2 e2 => ?_
      refine ⟨_, _, rfl, (eH.trans e2).mut np, ?_⟩
      rw [upd_same, List.range_succ, List.map_append, List.length_map]
      rfl
    · obtain ⟨y, z, rfl, eH, hl'⟩ := hP
      refine s_ret (ev_var rfl) fun H2 e2 => ?_
      refine q p H2 np (eH.trans e2) ?_
      rw [e2 _ _ hl']
      unfold Tn
      rw [List.map_map]
      rfl
end
/-! ### the mathematics of turning -/
theorem cnt_nil (c : Int) : cnt [] c = 0 := rfl
theorem cnt_cons (x : Int) (r : List Int) (c : Int) : cnt (x :: r) c = (if c < x then 1 else 0) + cnt r c := by
  unfold cnt
  rw [List.filter_cons]
  by_cases h : c < x
  · rw [if_pos (decide_eq_true h), if_pos h, List.length_cons]
    omega
  · rw [if_neg (by simpa using h), if_neg h]
    omega
theorem cnt_nn (p : List Int) (c : Int) : 0 ≤ cnt p c := Int.natCast_nonneg _
theorem cnt_le (p : List Int) (c : Int) : cnt p c ≤ p.length := by
  unfold cnt
  have := List.length_filter_le (fun z => decide (c < z)) p
  omega
theorem cnt_zero {p : List Int} {c : Int} (h : ∀ x ∈ p, x ≤ c) : cnt p c = 0 := by
  unfold cnt
  rw [List.filter_eq_nil_iff.mpr fun x hx => by have := h x hx; simpa using this]
  rfl
theorem cnt_anti (p : List Int) {c d : Int} (h : c ≤ d) : cnt p d ≤ cnt p c := by
  induction p with
  | nil => exact Int.le_refl _
  | cons x r ih =>
    rw [cnt_cons, cnt_cons]
    by_cases h1 : d < x
    · rw [if_pos h1, if_pos (by omega)]
      omega
    · rw [if_neg h1]
      split <;> omega
theorem cnt_all {p : List Int} (h : ∀ x ∈ p, 1 ≤ x) : cnt p 0 = p.length := by
  induction p with
  | nil => rfl
  | cons x r ih =>
    have h1 := h x List.mem_cons_self
    rw [cnt_cons, if_pos (by omega), ih fun y hy => h y (List.mem_cons_of_mem _ hy), List.length_cons]
    omega
/-- the i-th row is longer than c just where more than i rows are -/
theorem cnt_iff : ∀ {p : List Int} {i : Nat} {x c : Int}, p.Pairwise (fun a b => b ≤ a) → p[i]? = some x → ((i : Int) < cnt p c ↔ c < x)
  | [], i, x, c, _, h => by simp at h
  | y :: r, 0, x, c, hp, h => by
    have e : y = x := Option.some.inj h
    subst e
    rw [cnt_cons]
    by_cases h1 : c < y
    · rw [if_pos h1]
      have := cnt_nn r c
      constructor <;> intro <;> omega
    · rw [if_neg h1, cnt_zero fun z hz => by have := (List.pairwise_cons.mp hp).1 z hz; omega]
      constructor <;> intro <;> omega
  | y :: r, i + 1, x, c, hp, h => by
    have h' : r[i]? = some x := h
    have ih := cnt_iff (c := c) (List.pairwise_cons.mp hp).2 h'
    rw [cnt_cons]
    by_cases h1 : c < y
    · rw [if_pos h1]
      constructor
      · intro h2
        exact ih.mp (by omega)
      · intro h2
        have := ih.mpr h2
        omega
    · have hx := (List.pairwise_cons.mp hp).1 x (List.mem_of_getElem? h')
      rw [if_neg h1, cnt_zero fun z hz => by have := (List.pairwise_cons.mp hp).1 z hz; omega]
      constructor <;> intro <;> omega
theorem count_below (n : Nat) : ∀ m : Int, 0 ≤ m → m ≤ n → (((List.range n).filter fun (j : Nat) => decide ((j : Int) < m)).length : Int) = m := by
  induction n with
  | zero =>
    intro m h0 h1
    simp
    omega
  | succ n ih =>
    intro m h0 h1
    rw [List.range_succ, List.filter_append, List.length_append]
    by_cases h : m ≤ n
    · have e : List.filter (fun (j : Nat) => decide ((j : Int) < m)) [n] = [] := by
        rw [List.filter_cons, if_neg (by simpa using h)]
        rfl
      rw [e]
      have := ih m h0 h
      simp only [List.length_nil, Nat.add_zero]
      exact this
    · have hm : m = (n : Int) + 1 := by omega
      have e : List.filter (fun (j : Nat) => decide ((j : Int) < m)) [n] = [n] := by
        rw [List.filter_cons, if_pos (by simp; omega)]
        rfl
      have e2 : (List.range n).filter (fun (j : Nat) => decide ((j : Int) < m)) = List.range n := List.filter_eq_self.mpr fun j hj => by
        have := List.mem_range.mp hj
        simp
        omega
      rw [e, e2, List.length_range]
      simp only [List.length_cons, List.length_nil]
      omega
theorem sum_map_add (n : Nat) (f g : Nat → Int) : ((List.range n).map fun j => f j + g j).sum = ((List.range n).map f).sum + ((List.range n).map g).sum := by
  induction n with
  | zero => rfl
  | succ n ih =>
    rw [List.range_succ, List.map_append, List.map_append, List.map_append, sum_append, sum_append, sum_append, ih]
    simp only [List.map_cons, List.map_nil, List.sum_cons, List.sum_nil]
    omega
theorem sum_ind (n : Nat) : ∀ m : Int, 0 ≤ m → m ≤ n → ((List.range n).map fun (j : Nat) => (if (j : Int) < m then (1 : Int) else 0)).sum = m := by
  induction n with
  | zero =>
    intro m h0 h1
    show (0 : Int) = m
    omega
  | succ n ih =>
    intro m h0 h1
    rw [List.range_succ, List.map_append, sum_append]
    simp only [List.map_cons, List.map_nil, List.sum_cons, List.sum_nil]
    by_cases h : m ≤ n
    · rw [ih m h0 h, if_neg (by omega)]
      omega
    · have hm : m = (n : Int) + 1 := by omega
      have e : ((List.range n).map fun (j : Nat) => (if (j : Int) < m then (1 : Int) else 0)) = (List.range n).map fun (j : Nat) => (if (j : Int) < (n : Int) then (1 : Int) else 0) := List.map_congr_left fun j hj => by
        have := List.mem_range.mp hj
        rw [if_pos (by omega), if_pos (by omega)]
      rw [e, ih n (by omega) (by omega), if_pos (by omega)]
      omega
theorem sum_cnt (n : Nat) : ∀ p : List Int, (∀ x ∈ p, 0 ≤ x ∧ x ≤ n) → ((List.range n).map fun (j : Nat) => cnt p (j : Int)).sum = p.sum
  | [], _ => by
    have e : ((List.range n).map fun (j : Nat) => cnt [] (j : Int)) = (List.range n).map fun (j : Nat) => (if (j : Int) < 0 then (1 : Int) else 0) := List.map_congr_left fun j _ => by
      rw [cnt_nil, if_neg (by omega)]
    rw [e, sum_ind n 0 (by omega) (by omega)]
    rfl
  | x :: r, h => by
    have e : ((List.range n).map fun (j : Nat) => cnt (x :: r) (j : Int)) = (List.range n).map fun (j : Nat) => ((if (j : Int) < x then (1 : Int) else 0) + cnt r (j : Int)) := List.map_congr_left fun j _ => cnt_cons x r j
    have hx := h x List.mem_cons_self
    rw [e, sum_map_add, sum_ind n x hx.1 hx.2, sum_cnt n r fun y hy => h y (List.mem_cons_of_mem _ hy), List.sum_cons]
theorem Tn_sum {p : List Int} (h : IsP p) : (Tn p).sum = p.sum := by
  unfold Tn
  refine sum_cnt _ p fun x hx => ⟨by have := h.1 x hx; omega, ?_⟩
  have := mx_mem x hx
  have := mx_nn p
  omega
theorem mx_of : ∀ (p : List Int), mx p = 0 ∨ mx p ∈ p := fun p => by
  have key : ∀ (l : List Int) (d : Int), l.foldl max d = d ∨ l.foldl max d ∈ l := by
    intro l
    induction l with
    | nil => exact fun d => .inl rfl
    | cons x r ih =>
      intro d
      rw [List.foldl_cons]
      rcases ih (max d x) with e | e
      · by_cases h : x ≤ d
        · left
          rw [e]
          omega
        · right
          rw [e, show max d x = x by omega]
          exact List.mem_cons_self
      · exact .inr (List.mem_cons_of_mem _ e)
  exact key p 0
theorem Tn_get {p : List Int} {i : Nat} {x : Int} (h : (Tn p)[i]? = some x) : x = cnt p (i : Int) ∧ (i : Int) < mx p := by
  unfold Tn at h
  rw [List.getElem?_map] at h
  by_cases hi : i < (mx p).toNat
  · rw [List.getElem?_range hi] at h
    cases h
    exact ⟨rfl, by omega⟩
  · rw [List.getElem?_eq_none (by rw [List.length_range]; omega)] at h
    cases h
theorem Tn_len (p : List Int) : (Tn p).length = (mx p).toNat := by
  unfold Tn
  rw [List.length_map, List.length_range]
theorem Tn_is {p : List Int} (h : IsP p) : IsP (Tn p) := by
  refine ⟨fun x hx => ?_, ?_, by rw [Tn_sum h]; exact h.2.2⟩
  · obtain ⟨j, hj, rfl⟩ := List.mem_map.mp hx
    have hj := List.mem_range.mp hj
    rcases mx_of p with e | e
    · omega
    · show 1 ≤ cnt p (j : Int)
      have : cnt p (j : Int) ≠ 0 := by
        unfold cnt
        intro z
        have z' : (p.filter fun z => decide ((j : Int) < z)) = [] := List.length_eq_zero_iff.mp (by omega)
        have := List.filter_eq_nil_iff.mp z' _ e
        simp at this
        omega
      have := cnt_nn p (j : Int)
      omega
  · rw [List.pairwise_iff_getElem]
    intro i j hi hj hij
    have e1 := (Tn_get (List.getElem?_eq_getElem hi)).1
    have e2 := (Tn_get (List.getElem?_eq_getElem hj)).1
    rw [e1, e2]
    exact cnt_anti p (by omega)
theorem cnt_Tn {p : List Int} (h : IsP p) {i : Nat} {x : Int} (hx : p[i]? = some x) : cnt (Tn p) (i : Int) = x := by
  have h1 := h.1 x (List.mem_of_getElem? hx)
  have h2 := mx_mem x (List.mem_of_getElem? hx)
  unfold cnt Tn
  rw [List.filter_map, List.length_map]
  have e : (List.range (mx p).toNat).filter ((fun z => decide ((i : Int) < z)) ∘ fun (j : Nat) => cnt p (j : Int)) = (List.range (mx p).toNat).filter fun (j : Nat) => decide ((j : Int) < x) := List.filter_congr fun j _ => by
    show decide ((i : Int) < cnt p (j : Int)) = decide ((j : Int) < x)
    rw [decide_eq_decide]
    exact cnt_iff h.2.1 hx
  rw [e]
  have h3 : x ≤ ((mx p).toNat : Int) := by omega
  exact count_below _ x (by omega) h3
theorem mx_Tn {p : List Int} (h : IsP p) : mx (Tn p) = p.length := by
  cases hp : p with
  | nil => rfl
  | cons y r =>
    rw [← hp]
    have hy : y ∈ p := by rw [hp]; exact List.mem_cons_self
    have h1 := h.1 y hy
    have h2 := mx_mem y hy
    have e0 := cnt_all h.1
    refine (mx_eq (by omega) ?_ fun z hz => ?_).symm
    · rw [← e0]
      exact List.mem_map.mpr ⟨0, List.mem_range.mpr (by omega), rfl⟩
    · obtain ⟨j, _, rfl⟩ := List.mem_map.mp hz
      exact cnt_le _ _
/-- turned twice it is itself -/
theorem Tn_Tn {p : List Int} (h : IsP p) : Tn (Tn p) = p := by
  refine List.ext_getElem? fun i => ?_
  by_cases hi : i < p.length
  · have hx : p[i]? = some p[i] := List.getElem?_eq_getElem hi
    have e := cnt_Tn h hx
    have : (Tn (Tn p))[i]? = some (cnt (Tn p) (i : Int)) := by
      show ((List.range (mx (Tn p)).toNat).map fun (j : Nat) => cnt (Tn p) (j : Int))[i]? = _
      rw [List.getElem?_map, List.getElem?_range (by rw [mx_Tn h]; omega)]
      rfl
    rw [this, e, hx]
  · rw [List.getElem?_eq_none (by rw [Tn_len, mx_Tn h]; omega), List.getElem?_eq_none (by omega)]
/-! ### the law -/
theorem rep_flat (n : Nat) (v : V) : (List.replicate n [v]).flatten = List.replicate n v := by
  induction n with
  | zero => rfl
  | succ n ih => rw [List.replicate_succ, List.flatten_cons, ih]; rfl
theorem IsP_drop {p : List Int} (h : IsP p) : IsP p.dropLast := by
  refine ⟨fun x hx => h.1 x ((List.dropLast_sublist p).subset hx), h.2.1.sublist (List.dropLast_sublist p), ?_⟩
  cases hp : p with
  | nil => decide
  | cons y r =>
    have e := List.dropLast_concat_getLast (List.cons_ne_nil y r)
    have h3 := h.2.2
    rw [hp] at h3
    rw [← e, sum_append] at h3
    have h4 := h.1 ((y :: r).getLast (List.cons_ne_nil y r)) (by rw [hp]; exact List.getLast_mem _)
    simp only [List.sum_cons, List.sum_nil] at h3 ⊢
    omega
section
variable {P : Program} {w : World} {K : PySem.W.Frag} {mg : Str → Option Value} {base : Heap}
theorem spl_turned {a : Addr} {ns : List Int} {H : Hp} (hL : Ll H a ns) (hp : IsP ns) : SpL sp_turned [.ref a] H ((Tn ns).map V.int) := fun H1 e _ q _ => ⟨a, ns, rfl, e _ _ hL, hp, fun p H2 np e2 h2 => q p H2 np e2 h2⟩
def sp_law (K : PySem.W.Frag) : Sp := fun vs H Q _ => ∃ (a : Addr) (ns : List Int), vs = [.ref a] ∧ SqL K H a (ns.map V.int) ∧ ns.length ≤ 63 ∧ ∀ H', Q (.bl true) H'
theorem ok_law (T : Tx K mg) : FnOk P w K mg base CX0 5 T.a_law T.d_law ["_law_script"] (sp_law K) := by
  refine T.F_law.ok sc_law (fun vs H Q E h => ?_) (fun cdv A outer s H vs Q E hr h => ?_)
  · obtain ⟨a, ns, rfl, _⟩ := h
    rfl
  · obtain ⟨a, ns, rfl, hS, hlen, q⟩ := h
    refine ⟨_, (pss_cons (ps_set (i := 1) sc_law.nd rfl (Or.inl rfl) (pe_call (ok_law_parting_by T) (hr.mono (by decide)) (by rfl) T.g_law_parting_by T.F_law_parting_by.kp T.b_law_parting_by .nil pass0 (pa_cons (pv 0) (pa_cons pe_int pa_nil))))
    (pss_cut (ps_if (pt_cmpR op_eq (pe_op op_mod (pe_call (ok_law_number T) (hr.mono (by decide)) (by rfl) T.g_law_number T.F_law_number.kp T.b_law_number .nil pass0 (pa_cons (pv 0) (pa_cons pe_int pa_nil))) pe_int) pe_int (nomark _))
      (pss_one (ps_set (i := 1) sc_law.nd rfl (Or.inl rfl) (pe_ix (ixlK (K := K) rfl) (pe_lst (pa_cons (pe_op op_rep (pe_lst (pa_cons pe_int pa_nil)) pe_int) (pa_cons (pe_lst (pa_cons pe_int pa_nil)) (pa_cons (pe_op op_rep (pe_lst (pa_cons pe_int pa_nil)) pe_int) pa_nil)))) (pe_op op_mod (pe_call (ok_law_number T) (hr.mono (by decide)) (by rfl) T.g_law_number T.F_law_number.kp T.b_law_number .nil pass0 (pa_cons (pv 0) (pa_cons pe_int pa_nil))) pe_int) (fun _ _ => rfl))))
      pss_nil)
    (pss_cons (ps_set (i := 2) sc_law.nd rfl (Or.inl rfl) (pe_callTy (listK (K := K) rfl) (by rfl) T.n_list (by decide +kernel) (pa_cons (pv 1) pa_nil)))
    (pss_cons (ps_set (i := 3) sc_law.nd rfl (Or.inl rfl) (pe_call (ok_law_turned T) (hr.mono (by decide)) (by rfl) T.g_law_turned T.F_law_turned.kp T.b_law_turned .nil pass0 (pa_cons (pv 1) pa_nil)))
    (pss_cons (ps_set (i := 4) sc_law.nd rfl (Or.inl rfl) (pe_call (ok_turned T) (hr.mono (by decide)) (by rfl) T.g_turned T.F_turned.kp T.b_turned .nil pass0 (pa_cons (pv 2) pa_nil)))
    (pss_cons (ps_if (PW.pt (pw_or (pt_not (pt_val (pe_call (ok_law_is_row T) (hr.mono (by decide)) (by rfl) T.g_law_is_row T.F_law_is_row.kp T.b_law_is_row .nil pass0 (pa_cons (pv 4) (pa_cons (pv 3) pa_nil))))) (pw_or (pt_cmpR (neK (K := K) rfl hr.units) (pv 2) (pv 1) (nomark _)) (pw_or1 (pt_cmpR op_notBl (pe_call (ok_is_parting T) (hr.mono (by decide)) (by rfl) T.g_is_parting T.F_is_parting.kp T.b_is_parting .nil pass0 (pa_cons (pv 4) pa_nil)) pe_bl (nomark _))))))
      (pss_one (ps_ret pe_bl))
      pss_nil)
    (pss_cons (ps_set (i := 5) sc_law.nd rfl (Or.inl rfl) (pe_call (ok_turned T) (hr.mono (by decide)) (by rfl) T.g_turned T.F_turned.kp T.b_turned .nil pass0 (pa_cons (pv 4) pa_nil)))
    (pss_cons (ps_if (PW.pt (pw_or (pt_not (pt_val (pe_call (ok_law_is_row T) (hr.mono (by decide)) (by rfl) T.g_law_is_row T.F_law_is_row.kp T.b_law_is_row .nil pass0 (pa_cons (pv 5) (pa_cons (pv 1) pa_nil))))) (pw_or1 (pt_cmpR (neK (K := K) rfl hr.units) (pv 4) (pv 3) (nomark _)))))
      (pss_one (ps_ret pe_bl))
      pss_nil)
    (pss_cons (ps_expr (pe_bm PySem.F.plainAttrs_list PySem.F.slot_list_append PySem.F.type_list_append mt_append (pv 4) (pa_cons pe_int pa_nil)))
    (pss_cons (ps_expr (pe_bm0 PySem.F.plainAttrs_list PySem.F.slot_list_clear PySem.F.type_list_clear mt_clear (pv 5)))
    (pss_cons (ps_if (pt_not (pt_val (pe_call (ok_law_is_row T) (hr.mono (by decide)) (by rfl) T.g_law_is_row T.F_law_is_row.kp T.b_law_is_row .nil pass0 (pa_cons (pe_call (ok_turned T) (hr.mono (by decide)) (by rfl) T.g_turned T.F_turned.kp T.b_turned .nil pass0 (pa_cons (pv 2) pa_nil)) (pa_cons (pv 3) pa_nil)))))
      (pss_one (ps_ret pe_bl))
      pss_nil)
    (pss_cons (ps_set (i := 6) sc_law.nd rfl (Or.inl rfl) (pe_call (ok_turned T) (hr.mono (by decide)) (by rfl) T.g_turned T.F_turned.kp T.b_turned .nil pass0 (pa_cons (pv 2) pa_nil)))
    (pss_cut (ps_expr (pe_ifExp (pt_cmpR (eqK (K := K) rfl hr.units) (pv 2) (pe_lst pa_nil) (nomark _)) (pe_bm PySem.F.plainAttrs_list PySem.F.slot_list_append PySem.F.type_list_append mt_append (pv 2) (pa_cons pe_int pa_nil)) (pe_bm0 PySem.F.plainAttrs_list PySem.F.slot_list_pop PySem.F.type_list_pop mt_pop (pv 2))))
    (pss_one (ps_ret (pe_and (pe_call (ok_law_is_row T) (hr.mono (by decide)) (by rfl) T.g_law_is_row T.F_law_is_row.kp T.b_law_is_row .nil pass0 (pa_cons (pe_call (ok_turned T) (hr.mono (by decide)) (by rfl) T.g_turned T.F_turned.kp T.b_turned .nil pass0 (pa_cons (pv 2) pa_nil)) (pa_cons (pe_call (ok_law_turned T) (hr.mono (by decide)) (by rfl) T.g_law_turned T.F_law_turned.kp T.b_law_turned .nil pass0 (pa_cons (pv 2) pa_nil)) pa_nil))) (pe_one (pe_cmpR (eqK (K := K) rfl hr.units) (pv 6) (pv 3) (nomark _))))))))))))))))))), ?_⟩
    refine q_asgP (evP_parting (ea_cons (ev_var rfl) (ea_cons ev_c ea_nil)) hS hlen (by decide) (by decide)) fun v H1 e1 hv => ?_
    obtain ⟨p0, ys0, rfl, np0, hp0, ip0⟩ := hv
    refine q_cut (M := fun σ' H' => ∃ (p : Addr) (ys : List Int), σ' = [some (.ref a), some (.ref p), none, none, none, none, none] ∧ Ex H H' ∧ Ll H' p ys ∧ IsP ys) (s_when (b := decide (V.int (numb ns 1 % 16) = V.int 1)) (et_test (ev_eq (ev_rI (ev_call (ea_cons (ev_var rfl) (ea_cons ev_c ea_nil)) (spv_number (ex_l e1 hS) (by decide) (by decide))) ev_c (by decide)) ev_c rfl)) (fun _ H2 e2 => ?_) (fun _ H2 e2 => ⟨p0, ys0, rfl, e1.trans e2, e2 _ _ hp0, ip0⟩)) fun σ' H' hM => ?_
    · have hS2 := ex_l (e1.trans e2) hS
      have n0 := numb_nn ns 2
      have hR : ∀ (v : V) (H1 H2 : Hp), Ex H1 H2 → (∃ (p : Addr) (ys : List Int), v = .ref p ∧ Ll H1 p ys ∧ IsP ys) → ∃ (p : Addr) (ys : List Int), v = .ref p ∧ Ll H2 p ys ∧ IsP ys := fun v H1 H2 e ⟨p, ys, h1, h2, h3⟩ => ⟨p, ys, h1, e _ _ h2, h3⟩
      have i0 : 0 ≤ numb ns 2 % 3 := by omega
      have i1 : numb ns 2 % 3 < 3 := by omega
      generalize hi : numb ns 2 % 3 = i at i0 i1
      refine s_asgP (P := fun v H' => ∃ (p : Addr) (ys : List Int), v = .ref p ∧ Ll H' p ys ∧ IsP ys) (evP_ixP (i := i) (ep_lst3 (el_rep (el_lst (ea_cons ev_c ea_nil) (by decide)) ev_c ⟨by decide, by decide⟩ (by decide)) (el_lst (ea_cons ev_c ea_nil) (by decide)) (el_rep (el_lst (ea_cons ev_c ea_nil) (by decide)) ev_c ⟨by decide, by decide⟩ (by decide)))
        (fun v H3 e3 _ => ev_is (ev_rI (ev_call (ea_cons (ev_var rfl) (ea_cons ev_c ea_nil)) (spv_number (ex_l e3 hS2) (by decide) (by decide))) ev_c (by decide)) (by rw [hi])) hR (fun v H3 e3 hv => ?_)) fun v H3 e3 hv => ?_
      · obtain ⟨o, p1, p2, p3, rfl, ho, ⟨_, k1⟩, ⟨_, k2⟩, ⟨_, k3⟩⟩ := hv
        have c3 : i = 0 ∨ i = 1 ∨ i = 2 := by omega
        rcases c3 with rfl | rfl | rfl
        · refine ⟨o, _, .ref p1, rfl, ho, rfl, p1, List.replicate 200 1, rfl, ?_, isPart_iff.mp (by decide +kernel)⟩
          show H3 p1 = _
          rw [k1, rep_flat]
          rfl
        · exact ⟨o, _, .ref p2, rfl, ho, rfl, p2, [200], rfl, k2, isPart_iff.mp (by decide +kernel)⟩
        · refine ⟨o, _, .ref p3, rfl, ho, rfl, p3, List.replicate 100 2, rfl, ?_, isPart_iff.mp (by decide +kernel)⟩
          show H3 p3 = _
          rw [k3, rep_flat]
          rfl
      · obtain ⟨p, ys, rfl, h1, h2⟩ := hv
        exact ⟨p, ys, rfl, (e1.trans e2).trans e3, h1, h2⟩
    · obtain ⟨p, ys, rfl, eH, hp, ip⟩ := hM
      have lys := ip.len
      have it := Tn_is ip
      have lt := it.len
      -- handed, due, found
      refine q_asgL (el_cb (ea_cons (ev_var rfl) ea_nil) (rcl_list hp.sq)) fun h H3 nh e3 hh => ?_
      refine q_asgL (el_call (ea_cons (ev_var rfl) ea_nil) (spl_turned (e3 _ _ hp) ip)) fun d H4 nd e4 hd => ?_
      refine q_asgL (el_call (ea_cons (ev_var rfl) ea_nil) (spl_turned (e4 _ _ hh) ip)) fun f H5 nf e5 hf => ?_
      have hp5 := e5 _ _ (e4 _ _ (e3 _ _ hp))
      have hh5 := e5 _ _ (e4 _ _ hh)
      have hd5 := e5 _ _ hd
      refine q_when (et_or (et_not (et_B (ev_call (ea_cons (ev_var rfl) (ea_cons (ev_var rfl) ea_nil)) (spv_row hf hd5 (by omega))))) fun _ => et_or (et_test (ev_op (ev_var rfl) (ev_var rfl) (rv_neL (Ll.sq hh5) (Ll.sq hp5)))) fun _ => et_test (ev_notB (ev_call (ea_cons (ev_var rfl) ea_nil) (spv_is_parting hf)) ev_c)) (fun hb => ?_) (fun _ H6 e6 => ?_)
      · rw [it.is] at hb
        simp at hb
      -- back
      refine q_asgL (el_call (ea_cons (ev_var rfl) ea_nil) (spl_turned (e6 _ _ hf) it)) fun b H7 nb e7 hb => ?_
      rw [Tn_Tn ip] at hb
      have e57 := e6.trans e7
      refine q_when (et_or (et_not (et_B (ev_call (ea_cons (ev_var rfl) (ea_cons (ev_var rfl) ea_nil)) (spv_row hb (e57 _ _ hp5) (by omega))))) fun _ => et_test (ev_op (ev_var rfl) (ev_var rfl) (rv_neL (Ll.sq (e57 _ _ hf)) (Ll.sq (e57 _ _ hd5))))) (fun hb => by simp at hb) (fun _ H8 e8 => ?_)
      have e58 := e57.trans e8
      -- found.append(7), back.clear()
      refine q_app (e58 _ _ hf) (ev_var rfl) ev_c (by rw [List.length_map]; omega) fun H9 e9 => ?_
      have m9 : Ex H4 (upd H9 f (.lst ((Tn ys).map V.int ++ [V.int 7]))) := ((e5.trans e58).trans e9).mut nf
      have nbf : b ≠ f := fun z => by
        subst z
        rw [e6 _ _ hf] at nb
        cases nb
      have hb9 : (upd H9 f (.lst ((Tn ys).map V.int ++ [V.int 7]))) b = some (.lst (ys.map V.int)) := by
        rw [upd_ne nbf]
        exact e9 _ _ (e8 _ _ hb)
      refine q_clear (ev_var rfl) hb9 fun H10 e10 => ?_
      have nb4 : H4 b = none := fresh_back (e5.trans e6) nb
      have m10 : Ex H4 (upd H10 b (.lst [])) := (m9.trans e10).mut nb4
      generalize hX : upd H10 b (.lst []) = HX at m10
      have hhX := m10 _ _ (e4 _ _ hh)
      have hdX := m10 _ _ hd
      refine q_when (et_not (et_B (ev_callL (el_call (ea_cons (ev_var rfl) ea_nil) (spl_turned hhX ip)) (fun _ _ => ev_var rfl) fun o H e ho => spv_row ho (e _ _ hdX) (by omega)))) (fun hb => by simp at hb) (fun _ H11 e11 => ?_)
      refine q_asgL (el_call (ea_cons (ev_var rfl) ea_nil) (spl_turned (e11 _ _ hhX) ip)) fun kp H12 nk e12 hk => ?_
      have e12' := e11.trans e12
      have hhY : Ll H12 h ys := e12' _ _ hhX
      have hdY := e12' _ _ hdX
      have nkh : kp ≠ h := fun z => by
        subst z
        rw [e11 _ _ hhX] at nk
        cases nk
      have ndh : d ≠ h := fun z => by
        subst z
        rw [hh] at nd
        cases nd
      refine q_cut (M := fun σ' H' => ∃ zs : List Int, σ' = [some (.ref a), some (.ref p), some (.ref h), some (.ref d), some (.ref f), some (.ref b), some (.ref kp)] ∧ Ll H' h zs ∧ IsP zs ∧ Ll H' d (Tn ys) ∧ Ll H' kp (Tn ys)) (s_dropIf (c := decide (ys = [])) (et_test (ev_opL (ev_var rfl) (el_lst (vs := []) ea_nil (by decide)) fun o H1 ho e1 => rv_eqL (ys := []) (Ll.sq (e1 _ _ hhY)) (sq_of ho))) (fun hc H13 e13 => ?_) (fun hc H13 e13 => ?_)) fun σ' H' hM => ?_
      · have hy : ys = [] := of_decide_eq_true hc
        refine s_app (e13 _ _ hhY) (ev_var rfl) ev_c (by rw [List.length_map]; omega) fun H14 e14 => ⟨[1], rfl, ?_, isPart_iff.mp (by decide +kernel), ?_, ?_⟩
        · show upd H14 h _ h = _
          rw [upd_same, hy]
          rfl
        · show upd H14 h _ d = _
          rw [upd_ne ndh]
          exact e14 _ _ (e13 _ _ hdY)
        · show upd H14 h _ kp = _
          rw [upd_ne nkh]
          exact e14 _ _ (e13 _ _ hk)
      · have hy : ys ≠ [] := of_decide_eq_false hc
        have hpos : 0 < ys.length := List.length_pos_iff.mpr hy
        refine s_pop (w := V.int (ys[ys.length - 1]'(by omega))) (ev_var rfl) (e13 _ _ hhY) (by rw [List.length_map, List.getElem?_map, List.getElem?_eq_getElem (by omega)]; rfl) fun H14 e14 => ⟨ys.dropLast, rfl, ?_, IsP_drop ip, ?_, ?_⟩
        · show upd H14 h _ h = _
          rw [upd_same, List.map_dropLast]
        · show upd H14 h _ d = _
          rw [upd_ne ndh]
          exact e14 _ _ (e13 _ _ hdY)
        · show upd H14 h _ kp = _
          rw [upd_ne nkh]
          exact e14 _ _ (e13 _ _ hk)
      · obtain ⟨zs, rfl, hz, iz, hd', hk'⟩ := hM
        have lz := (Tn_is iz).len
        refine s_ret (ev_andV (ev_callLL (el_call (ea_cons (ev_var rfl) ea_nil) (spl_turned hz iz)) (fun H1 e1 => el_call (ea_cons (ev_var rfl) ea_nil) (spl_turned (e1 _ _ hz) iz)) fun o o2 H e ho ho2 => spv_row ho ho2 (by omega)) fun _ => ev_op (ev_var rfl) (ev_var rfl) (rv_eqL (Ll.sq hk') (Ll.sq hd'))) fun H2 e2 => ?_
        rw [decide_eq_true rfl, decide_eq_true rfl]
        exact q _
end
theorem all_mk {l : PySem.W.OpenLaw} {w : World} {K : PySem.W.Frag} {h : Heap} {mg : Str → Option Value} {fa : Addr} (X : K.In h) (G : h.Ns mainGlobals mg) (hfa : mg "law" = some (.ref fa))
    {f1 : Addr} {od1 an1 : Option Addr} {sl1 : Array (Option Value)} {oc1 kV1 dc1 pm1 cd1 ct1 : Value}
    {f2 : Addr} {od2 an2 : Option Addr} {sl2 : Array (Option Value)} {oc2 kV2 dc2 pm2 cd2 ct2 : Value}
    {f3 : Addr} {od3 an3 : Option Addr} {sl3 : Array (Option Value)} {oc3 kV3 dc3 pm3 cd3 ct3 : Value}
    {f4 : Addr} {od4 an4 : Option Addr} {sl4 : Array (Option Value)} {oc4 kV4 dc4 pm4 cd4 ct4 : Value}
    {f5 : Addr} {od5 an5 : Option Addr} {sl5 : Array (Option Value)} {oc5 kV5 dc5 pm5 cd5 ct5 : Value}
    {f6 : Addr} {od6 an6 : Option Addr} {sl6 : Array (Option Value)} {oc6 kV6 dc6 pm6 cd6 ct6 : Value}
    {f7 : Addr} {od7 an7 : Option Addr} {sl7 : Array (Option Value)} {oc7 kV7 dc7 pm7 cd7 ct7 : Value}
    {f8 : Addr} {od8 an8 : Option Addr} {sl8 : Array (Option Value)} {oc8 kV8 dc8 pm8 cd8 ct8 : Value}
    {f9 : Addr} {od9 an9 : Option Addr} {sl9 : Array (Option Value)} {oc9 kV9 dc9 pm9 cd9 ct9 : Value}
    {f10 : Addr} {od10 an10 : Option Addr} {sl10 : Array (Option Value)} {oc10 kV10 dc10 pm10 cd10 ct10 : Value}
    {f11 : Addr} {od11 an11 : Option Addr} {sl11 : Array (Option Value)} {oc11 kV11 dc11 pm11 cd11 ct11 : Value}
    {t_GREATEST_WHOLE : Tok}
    (a1 : PySem.W.nsIn K mainGlobals "is_number" = some (some (.ref f1)))
    (l1 : K.lookup f1 = some ⟨oc1, od1, .func (PySem.W.fnOf "is_number" "is_number" (defArgs s_is_number) (defBody s_is_number) (defScope s_is_number) .none kV1 dc1 pm1 an1 cd1 ct1), sl1⟩)
    (c1 : PySem.W.codeIn K cd1 "is_number" = true) (k1 : PySem.W.keepIn K (.ref f1) = true)
    (a2 : PySem.W.nsIn K mainGlobals "is_parting" = some (some (.ref f2)))
    (l2 : K.lookup f2 = some ⟨oc2, od2, .func (PySem.W.fnOf "is_parting" "is_parting" (defArgs s_is_parting) (defBody s_is_parting) (defScope s_is_parting) .none kV2 dc2 pm2 an2 cd2 ct2), sl2⟩)
    (c2 : PySem.W.codeIn K cd2 "is_parting" = true) (k2 : PySem.W.keepIn K (.ref f2) = true)
    (a3 : PySem.W.nsIn K mainGlobals "check_parting" = some (some (.ref f3)))
    (l3 : K.lookup f3 = some ⟨oc3, od3, .func (PySem.W.fnOf "check_parting" "check_parting" (defArgs s_check_parting) (defBody s_check_parting) (defScope s_check_parting) .none kV3 dc3 pm3 an3 cd3 ct3), sl3⟩)
    (c3 : PySem.W.codeIn K cd3 "check_parting" = true) (k3 : PySem.W.keepIn K (.ref f3) = true)
    (a4 : PySem.W.nsIn K mainGlobals "turned" = some (some (.ref f4)))
    (l4 : K.lookup f4 = some ⟨oc4, od4, .func (PySem.W.fnOf "turned" "turned" (defArgs s_turned) (defBody s_turned) (defScope s_turned) .none kV4 dc4 pm4 an4 cd4 ct4), sl4⟩)
    (c4 : PySem.W.codeIn K cd4 "turned" = true) (k4 : PySem.W.keepIn K (.ref f4) = true)
    (a5 : PySem.W.nsIn K mainGlobals "_column_height" = some (some (.ref f5)))
    (l5 : K.lookup f5 = some ⟨oc5, od5, .func (PySem.W.fnOf "_column_height" "_column_height" (defArgs s_column_height) (defBody s_column_height) (defScope s_column_height) .none kV5 dc5 pm5 an5 cd5 ct5), sl5⟩)
    (c5 : PySem.W.codeIn K cd5 "_column_height" = true) (k5 : PySem.W.keepIn K (.ref f5) = true)
    (a6 : PySem.W.nsIn K mainGlobals "_law_mixed" = some (some (.ref f6)))
    (l6 : K.lookup f6 = some ⟨oc6, od6, .func (PySem.W.fnOf "_law_mixed" "_law_mixed" (defArgs s_law_mixed) (defBody s_law_mixed) (defScope s_law_mixed) .none kV6 dc6 pm6 an6 cd6 ct6), sl6⟩)
    (c6 : PySem.W.codeIn K cd6 "_law_mixed" = true) (k6 : PySem.W.keepIn K (.ref f6) = true)
    (a7 : PySem.W.nsIn K mainGlobals "_law_number" = some (some (.ref f7)))
    (l7 : K.lookup f7 = some ⟨oc7, od7, .func (PySem.W.fnOf "_law_number" "_law_number" (defArgs s_law_number) (defBody s_law_number) (defScope s_law_number) .none kV7 dc7 pm7 an7 cd7 ct7), sl7⟩)
    (c7 : PySem.W.codeIn K cd7 "_law_number" = true) (k7 : PySem.W.keepIn K (.ref f7) = true)
    (a8 : PySem.W.nsIn K mainGlobals "_law_parting_by" = some (some (.ref f8)))
    (l8 : K.lookup f8 = some ⟨oc8, od8, .func (PySem.W.fnOf "_law_parting_by" "_law_parting_by" (defArgs s_law_parting_by) (defBody s_law_parting_by) (defScope s_law_parting_by) .none kV8 dc8 pm8 an8 cd8 ct8), sl8⟩)
    (c8 : PySem.W.codeIn K cd8 "_law_parting_by" = true) (k8 : PySem.W.keepIn K (.ref f8) = true)
    (a9 : PySem.W.nsIn K mainGlobals "_law_turned" = some (some (.ref f9)))
    (l9 : K.lookup f9 = some ⟨oc9, od9, .func (PySem.W.fnOf "_law_turned" "_law_turned" (defArgs s_law_turned) (defBody s_law_turned) (defScope s_law_turned) .none kV9 dc9 pm9 an9 cd9 ct9), sl9⟩)
    (c9 : PySem.W.codeIn K cd9 "_law_turned" = true) (k9 : PySem.W.keepIn K (.ref f9) = true)
    (a10 : PySem.W.nsIn K mainGlobals "_law_is_row" = some (some (.ref f10)))
    (l10 : K.lookup f10 = some ⟨oc10, od10, .func (PySem.W.fnOf "_law_is_row" "_law_is_row" (defArgs s_law_is_row) (defBody s_law_is_row) (defScope s_law_is_row) .none kV10 dc10 pm10 an10 cd10 ct10), sl10⟩)
    (c10 : PySem.W.codeIn K cd10 "_law_is_row" = true) (k10 : PySem.W.keepIn K (.ref f10) = true)
    (a11 : PySem.W.nsIn K mainGlobals "law" = some (some (.ref f11)))
    (l11 : K.lookup f11 = some ⟨oc11, od11, .func (PySem.W.fnOf "law" "law" (defArgs s_law) (defBody s_law) (defScope s_law) .none kV11 dc11 pm11 an11 cd11 ct11), sl11⟩)
    (c11 : PySem.W.codeIn K cd11 "law" = true) (k11 : PySem.W.keepIn K (.ref f11) = true)
    (z_all : PySem.W.nsIn K mainGlobals "all" = some none)
    (z_bool : PySem.W.nsIn K mainGlobals "bool" = some none)
    (z_int : PySem.W.nsIn K mainGlobals "int" = some none)
    (z_isinstance : PySem.W.nsIn K mainGlobals "isinstance" = some none)
    (z_len : PySem.W.nsIn K mainGlobals "len" = some none)
    (z_list : PySem.W.nsIn K mainGlobals "list" = some none)
    (z_max : PySem.W.nsIn K mainGlobals "max" = some none)
    (z_min : PySem.W.nsIn K mainGlobals "min" = some none)
    (z_range : PySem.W.nsIn K mainGlobals "range" = some none)
    (z_sorted : PySem.W.nsIn K mainGlobals "sorted" = some none)
    (z_sum : PySem.W.nsIn K mainGlobals "sum" = some none)
    (v_GREATEST_WHOLE : PySem.W.nsIn K mainGlobals "GREATEST_WHOLE" = some (some (.int 200 t_GREATEST_WHOLE)))
    : ∃ fd : FuncData, (∀ (s : Shared) (v : Value), BindsTo s fd ⟨[v], []⟩ [("_law_script", v)]) ∧ ∀ base : Heap, K.In base → base.Ns mainGlobals mg → FnOk l.prog w K mg base CX0 5 fa fd ["_law_script"] (sp_law K) := by
  have e := hfa.symm.trans (PySem.W.mg_of X G a11)
  cases e
  have F1 := fun_mk (st := s_is_number) l1 c1 k1
  have b1 := F1.binds (ps := ["thing"]) fun _ _ _ _ _ _ us hl => match us, hl with | [_], _ => rfl
  have F2 := fun_mk (st := s_is_parting) l2 c2 k2
  have b2 := F2.binds (ps := ["thing"]) fun _ _ _ _ _ _ us hl => match us, hl with | [_], _ => rfl
  have F3 := fun_mk (st := s_check_parting) l3 c3 k3
  have b3 := F3.binds (ps := ["thing"]) fun _ _ _ _ _ _ us hl => match us, hl with | [_], _ => rfl
  have F4 := fun_mk (st := s_turned) l4 c4 k4
  have b4 := F4.binds (ps := ["parting"]) fun _ _ _ _ _ _ us hl => match us, hl with | [_], _ => rfl
  have F5 := fun_mk (st := s_column_height) l5 c5 k5
  have b5 := F5.binds (ps := ["parting", "column"]) fun _ _ _ _ _ _ us hl => match us, hl with | [_, _], _ => rfl
  have F6 := fun_mk (st := s_law_mixed) l6 c6 k6
  have b6 := F6.binds (ps := ["_law_number_here", "_law_k"]) fun _ _ _ _ _ _ us hl => match us, hl with | [_, _], _ => rfl
  have F7 := fun_mk (st := s_law_number) l7 c7 k7
  have b7 := F7.binds (ps := ["_law_script", "_law_k"]) fun _ _ _ _ _ _ us hl => match us, hl with | [_, _], _ => rfl
  have F8 := fun_mk (st := s_law_parting_by) l8 c8 k8
  have b8 := F8.binds (ps := ["_law_script", "_law_first"]) fun _ _ _ _ _ _ us hl => match us, hl with | [_, _], _ => rfl
  have F9 := fun_mk (st := s_law_turned) l9 c9 k9
  have b9 := F9.binds (ps := ["_law_parting"]) fun _ _ _ _ _ _ us hl => match us, hl with | [_], _ => rfl
  have F10 := fun_mk (st := s_law_is_row) l10 c10 k10
  have b10 := F10.binds (ps := ["_law_found", "_law_due"]) fun _ _ _ _ _ _ us hl => match us, hl with | [_, _], _ => rfl
  have F11 := fun_mk (st := s_law) l11 c11 k11
  have b11 := F11.binds (ps := ["_law_script"]) fun _ _ _ _ _ _ us hl => match us, hl with | [_], _ => rfl
  let T : Tx K mg := { a_is_number := f1, d_is_number := _, F_is_number := F1, b_is_number := b1, g_is_number := PySem.W.mg_of X G a1, a_is_parting := f2, d_is_parting := _, F_is_parting := F2, b_is_parting := b2, g_is_parting := PySem.W.mg_of X G a2, a_check_parting := f3, d_check_parting := _, F_check_parting := F3, b_check_parting := b3, g_check_parting := PySem.W.mg_of X G a3, a_turned := f4, d_turned := _, F_turned := F4, b_turned := b4, g_turned := PySem.W.mg_of X G a4, a_column_height := f5, d_column_height := _, F_column_height := F5, b_column_height := b5, g_column_height := PySem.W.mg_of X G a5, a_law_mixed := f6, d_law_mixed := _, F_law_mixed := F6, b_law_mixed := b6, g_law_mixed := PySem.W.mg_of X G a6, a_law_number := f7, d_law_number := _, F_law_number := F7, b_law_number := b7, g_law_number := PySem.W.mg_of X G a7, a_law_parting_by := f8, d_law_parting_by := _, F_law_parting_by := F8, b_law_parting_by := b8, g_law_parting_by := PySem.W.mg_of X G a8, a_law_turned := f9, d_law_turned := _, F_law_turned := F9, b_law_turned := b9, g_law_turned := PySem.W.mg_of X G a9, a_law_is_row := f10, d_law_is_row := _, F_law_is_row := F10, b_law_is_row := b10, g_law_is_row := PySem.W.mg_of X G a10, a_law := fa, d_law := _, F_law := F11, b_law := b11, g_law := PySem.W.mg_of X G a11, n_all := PySem.W.mg_none_of X G z_all, n_bool := PySem.W.mg_none_of X G z_bool, n_int := PySem.W.mg_none_of X G z_int, n_isinstance := PySem.W.mg_none_of X G z_isinstance, n_len := PySem.W.mg_none_of X G z_len, n_list := PySem.W.mg_none_of X G z_list, n_max := PySem.W.mg_none_of X G z_max, n_min := PySem.W.mg_none_of X G z_min, n_range := PySem.W.mg_none_of X G z_range, n_sorted := PySem.W.mg_none_of X G z_sorted, n_sum := PySem.W.mg_none_of X G z_sum, u_GREATEST_WHOLE := _, c_GREATEST_WHOLE := PySem.W.mg_of X G v_GREATEST_WHOLE, r_GREATEST_WHOLE := ⟨_, rfl⟩ }
  exact ⟨PySem.W.fnOf "law" "law" (defArgs s_law) (defBody s_law) (defScope s_law) .none kV11 dc11 pm11 an11 cd11 ct11, fun s v => .of_eq rfl, fun base _ _ => ok_law T⟩
end K2
open PySem PySem.W PyProof.Rows
set_option maxHeartbeats 0 in
theorem PySem.Challenge.cw_stairparts_k02_turned_holds : PySem.Challenge.rw_stairparts_k02_turned.Holds := by
  w_on; o_law; k_head; (case hw => w_witness2)
  k_fill
  refine L2.walk_of (l := PySem.Challenge.rw_stairparts_k02_turned) (n := 63) (k := 5) (x := "_law_script") (CX := fun _ => L2.CX0) (sp := fun w => K2.sp_law _) rfl (by decide) rfl ⟨rfl, by decide, by decide⟩ (fun w h Y => PySem.W.kIn_of Y) ?F (fun _ _ a ns hl _ hS => ⟨a, ns, rfl, hS, hl, fun _ => rfl⟩) (fun _ _ _ _ _ h => h)
  case F =>
    intro w mg fa h KX G hmg
    refine' K2.all_mk KX G hmg ?a1 ?l1 ?c1 ?k1 ?a2 ?l2 ?c2 ?k2 ?a3 ?l3 ?c3 ?k3 ?a4 ?l4 ?c4 ?k4 ?a5 ?l5 ?c5 ?k5 ?a6 ?l6 ?c6 ?k6 ?a7 ?l7 ?c7 ?k7 ?a8 ?l8 ?c8 ?k8 ?a9 ?l9 ?c9 ?k9 ?a10 ?l10 ?c10 ?k10 ?a11 ?l11 ?c11 ?k11 ?z_all ?z_bool ?z_int ?z_isinstance ?z_len ?z_list ?z_max ?z_min ?z_range ?z_sorted ?z_sum ?v_GREATEST_WHOLE
    (case a1 => k_is); (case l1 => k_is); (case c1 => k_is); (case k1 => k_is)
    (case a2 => k_is); (case l2 => k_is); (case c2 => k_is); (case k2 => k_is)
    (case a3 => k_is); (case l3 => k_is); (case c3 => k_is); (case k3 => k_is)
    (case a4 => k_is); (case l4 => k_is); (case c4 => k_is); (case k4 => k_is)
    (case a5 => k_is); (case l5 => k_is); (case c5 => k_is); (case k5 => k_is)
    (case a6 => k_is); (case l6 => k_is); (case c6 => k_is); (case k6 => k_is)
    (case a7 => k_is); (case l7 => k_is); (case c7 => k_is); (case k7 => k_is)
    (case a8 => k_is); (case l8 => k_is); (case c8 => k_is); (case k8 => k_is)
    (case a9 => k_is); (case l9 => k_is); (case c9 => k_is); (case k9 => k_is)
    (case a10 => k_is); (case l10 => k_is); (case c10 => k_is); (case k10 => k_is)
    (case a11 => k_is); (case l11 => k_is); (case c11 => k_is); (case k11 => k_is)
    (case z_all => k_is); (case z_bool => k_is); (case z_int => k_is); (case z_isinstance => k_is)
    (case z_len => k_is); (case z_list => k_is); (case z_max => k_is); (case z_min => k_is)
    (case z_range => k_is); (case z_sorted => k_is); (case z_sum => k_is); (case v_GREATEST_WHOLE => k_is)
