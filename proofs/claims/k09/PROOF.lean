import PyProof.Rows.All
import Wide.All
import OpenK.AllK
import Wide.FinOn
import KE.DatumOrd
import KE.KEqSeq
import HandS.Base
import HandS.Call
import HandS.List
import HandS.Comp
import HandS.Iter
import HandS.Ends
import HandS.Words
import HandS.SortKw
import HandS.SortInts
import HandS.IsInst
import HandS.Style
import HandS.Evl
import HandS.Star
import HandS.SetFor
import HandS.Exc
import HandS.ExcOwn
import HandS.ExcValue
import HandS.ExcIs
import HandS.TryOnly
import HandS.WordsExc
import PyProof.Rows.CountFlat
import PyProof.CallType
import KE.GoesEnumKw
import PyProof.ZipIter
import PyProof.RulesTry
import PySem.Challenge.RW_stairparts_k09_squares
set_option Elab.async false
set_option linter.all false
set_option maxRecDepth 100000
set_option maxHeartbeats 2000000
namespace XP
open PySem PySem.Spec PyProof.Rows L2
/-! ### max(xs, default=d) over a list of whole numbers -/
theorem fold_max (x : Int) : ∀ xs : List Int, (xs.foldl (fun a y => if decide (a < y) = true then y else a) x ∈ x :: xs) ∧ ∀ y ∈ x :: xs, y ≤ xs.foldl (fun a y => if decide (a < y) = true then y else a) x := by
  intro xs
  induction xs generalizing x with
  | nil => exact ⟨List.mem_cons_self, fun y hy => by simp at hy; simp [hy]⟩
  | cons z r ih =>
    rw [List.foldl_cons]
    by_cases c : x < z
    · rw [if_pos (decide_eq_true c)]
      obtain ⟨h1, h2⟩ := ih z
      refine ⟨List.mem_cons_of_mem _ h1, fun y hy => ?_⟩
      rcases List.mem_cons.mp hy with e | hy
      · have := h2 z List.mem_cons_self
        omega
      · exact h2 y hy
    · rw [if_neg (by simpa using c)]
      obtain ⟨h1, h2⟩ := ih x
      refine ⟨?_, fun y hy => ?_⟩
      · rcases List.mem_cons.mp h1 with e | h
        · rw [e]; exact List.mem_cons_self
        · exact List.mem_cons_of_mem _ (List.mem_cons_of_mem _ h)
      · rcases List.mem_cons.mp hy with e | hy
        · rw [e]; exact h2 x List.mem_cons_self
        · rcases List.mem_cons.mp hy with e | hy
          · have := h2 x List.mem_cons_self
            omega
          · exact h2 y (List.mem_cons_of_mem _ hy)
theorem readsAll_ints (h : Heap) : ∀ {vs : List Value} {ns : List Int}, IntsAre vs ns → ReadsAll h vs (ns.map (PySem.W.Datum.toD (α := Int))) []
  | _, _, .nil => .nil
  | _, _, .cons n t r => by
    rw [List.map_cons]
    exact ReadsAll.cons (as := []) (bs := []) (.int n t) (readsAll_ints h r)
def rMaxD (K : PySem.W.Frag) : List V → List V → Hp → VK → Prop := fun vs zs H Q => ∃ (a : Addr) (ns : List Int) (d : Int), vs = [V.ref a] ∧ zs = [.int d] ∧ SqL K H a (ns.map V.int) ∧
  (ns = [] → Q (.int d) H) ∧ ∀ m, m ∈ ns → (∀ y, y ∈ ns → y ≤ m) → Q (.int m) H
theorem cr_maxD {X : Cx} (hc : X.calm = true) (hu : X.A.units + 2 < cLine) : CallRK X (.builtin "max") [Str.ofString "default"] (rMaxD X.K) := by
  intro pins s σ H vs zs us ws Q I r rz h
  obtain ⟨a, ns, d, rfl, rfl, hs, q0, q⟩ := h
  obtain ⟨its, rv, hl, _⟩ := I.list hs
  rw [Vals.ref1 r]
  obtain ⟨w1, rfl, t1, rfl⟩ := vals1 rz
  refine PySem.W.max_list_datum_default (α := Int) (I.ok.hd hc) hl.isList ⟨[], readsAll_ints _ rv.ints⟩ (by show X.A.units + 1 + 0 < cLine; omega) (fun e h' tk hk => ⟨.int d, H, I.kept hk, ⟨_, rfl⟩, q0 e⟩) fun y ys i v h' tk e hi hd hk => ?_
  obtain ⟨as, hr⟩ := hd
  obtain ⟨g1, g2⟩ := fold_max y ys
  have hr' : Reads h' v (.int (ys.foldl (fun a y => if decide (a < y) = true then y else a) y)) as := hr
  cases hr' with
  | int _ t => exact ⟨.int _, H, I.kept hk, ⟨_, rfl⟩, q _ (by rw [e]; exact g1) (by rw [e]; exact g2)⟩
end XP
/-! ## Short words over the hand layer: what evaluates to what -/
open PySem in
theorem L2.Room.two {k : Nat} {A : PySem.Around} (r : L2.Room k A) : A.units + 2 < cLine := by
  have := r.un
  omega
namespace XP
open PySem PySem.Spec PyProof.Rows L2
/-! ### the rules that name the written part K, by a K of one's own (within comprehensions) -/
section
variable {X : Cx} {K : PySem.W.Frag}
theorem isiK (h : X.K = K) : CallR X (.builtin "isinstance") (rIsi K) := h ▸ call_isi
def rLenK (K : PySem.W.Frag) : List V → Hp → VK → Prop := fun xs H Q => ∃ p ys, xs = [.ref p] ∧ (SqL K H p ys ∨ SqT K H p ys) ∧ Q (.int ys.length) H
theorem lenK (h : X.K = K) : CallR X (.builtin "len") (rLenK K) := h ▸ call_len_seq
theorem sumK (h : X.K = K) (hc : X.calm = true) : CallR X (.builtin "sum") (rSum K) := h ▸ cr_sum hc
theorem maxK (h : X.K = K) (hc : X.calm = true) : CallR X (.builtin "max") (rMax K) := h ▸ cr_max hc
theorem minK (h : X.K = K) (hc : X.calm = true) : CallR X (.builtin "min") (rMin K) := h ▸ cr_min hc
theorem allK (h : X.K = K) (hc : X.calm = true) : CallR X (.builtin "all") (rAll K) := h ▸ cr_all hc
theorem anyK (h : X.K = K) (hc : X.calm = true) : CallR X (.builtin "any") (rAny K) := h ▸ cr_any hc
theorem sortedK (h : X.K = K) : CallR X (.builtin "sorted") (rSortedI K) := h ▸ cr_sortedI
def rListK (K : PySem.W.Frag) : List V → Hp → VK → Prop := fun xs H Q => ∃ p ys, xs = [.ref p] ∧ (SqL K H p ys ∨ SqT K H p ys) ∧ ∀ l, H l = none → Q (.ref l) (upd H l (.lst ys))
theorem listK (h : X.K = K) : CallR X (.type "list") (rListK K) := h ▸ call_list_of
theorem ixlK (h : X.K = K) : IxR X (rIxL K) := h ▸ ix_list
theorem ixtK (h : X.K = K) : IxR X (rIxT K) := h ▸ ix_tup
theorem eqK (h : X.K = K) (hu : X.A.units + 64 < cLine) : OpR X (compareOp .Eq) (rEqD K) := h ▸ op_eqD hu
theorem neK (h : X.K = K) (hu : X.A.units + 64 < cLine) : OpR X (compareOp .NotEq) (rNeD K) := h ▸ op_neD hu
theorem inK (h : X.K = K) : OpR X (compareOp .In) (rIn K false) := h ▸ op_in_seq
theorem notInK (h : X.K = K) : OpR X (compareOp .NotIn) (rIn K true) := h ▸ op_notIn_seq
theorem sllK (h : X.K = K) : SlR X (rSlL K) := h ▸ sl_list
theorem maxDK (h : X.K = K) (hc : X.calm = true) (hu : X.A.units + 2 < cLine) : CallRK X (.builtin "max") [Str.ofString "default"] (rMaxD K) := h ▸ cr_maxD hc hu
end
end XP
namespace XP
open PySem PySem.Spec PyProof.Rows L2 Evl
/-- a list of whole numbers stands at a -/
abbrev Ll (H : Hp) (a : Addr) (ns : List Int) : Prop := H a = some (.lst (ns.map V.int))
theorem Ll.sq {K : PySem.W.Frag} {H : Hp} {a : Addr} {ns : List Int} (h : Ll H a ns) : SqL K H a (ns.map V.int) := .inl (.inl h)
theorem map_int_inj : ∀ {xs ys : List Int}, xs.map V.int = ys.map V.int → xs = ys
  | [], [], _ => rfl
  | [], _ :: _, h => by simp at h
  | _ :: _, [], h => by simp at h
  | x :: xs, y :: ys, h => by
    rw [List.map_cons, List.map_cons] at h
    injection h with h1 h2
    injection h1 with h1
    rw [h1, map_int_inj h2]
theorem get_int {ns : List Int} {i : Nat} {v : V} (h : (ns.map V.int)[i]? = some v) : ∃ z, ns[i]? = some z ∧ v = .int z := by
  rw [List.getElem?_map] at h
  cases e : ns[i]? with
  | none => rw [e] at h; cases h
  | some z => rw [e] at h; cases h; exact ⟨z, rfl, rfl⟩
theorem take_one {α : Type} {l : List α} {i : Nat} {x : α} (h : l[i]? = some x) : l.take (i + 1) = l.take i ++ [x] := by
  rw [List.take_add_one, h]
  rfl
theorem drop_one {α : Type} {l : List α} {i : Nat} {x : α} (h : l[i]? = some x) : l.drop i = x :: l.drop (i + 1) := by
  obtain ⟨hi, e⟩ := List.getElem?_eq_some_iff.mp h
  rw [List.drop_eq_getElem_cons hi, e]
theorem lt_of_get {α : Type} {l : List α} {i : Nat} {x : α} (h : l[i]? = some x) : i < l.length := (List.getElem?_eq_some_iff.mp h).1
/-! data -/
theorem dpall_ints {K : PySem.W.Frag} {H : Hp} : ∀ ns : List Int, DpAll K H (ns.map V.int) (ns.map PyData.int)
  | [] => .nil
  | n :: r => .cons (.int n) (dpall_ints r)
theorem dp_ints {K : PySem.W.Frag} {H : Hp} {a : Addr} {ns : List Int} (h : SqL K H a (ns.map V.int)) : Dp K H (.ref a) (.list (ns.map PyData.int)) := .lst h (dpall_ints ns)
theorem eqvAll_ints : ∀ xs ys : List Int, PyData.eqvAll (xs.map PyData.int) (ys.map PyData.int) = decide (xs = ys)
  | [], [] => by simp [PyData.eqvAll]
  | [], _ :: _ => by simp [PyData.eqvAll]
  | _ :: _, [] => by simp [PyData.eqvAll]
  | x :: xs, y :: ys => by
    show (PyData.eqv (.int x) (.int y) && PyData.eqvAll (xs.map PyData.int) (ys.map PyData.int)) = _
    rw [eqvAll_ints xs ys]
    rw [Bool.eq_iff_iff]
    simp [PyData.eqv]
theorem eqv_ints (xs ys : List Int) : PyData.eqv (.list (xs.map PyData.int)) (.list (ys.map PyData.int)) = decide (xs = ys) := by
  simp only [PyData.eqv]
  exact eqvAll_ints xs ys
theorem shaped_ints (ns : List Int) : SeqAt.shaped (.list (ns.map PyData.int)) = true := PySem.W.ke_shaped_ints ns
section
variable {K : PySem.W.Frag} {σ : L2.St} {H H' : Hp} {ta tb te tx : TE} {t u : TT} {x y z v : V} {r : R2} {a b p : Addr} {xs ys : List Int} {i j : Int}
/-! operators -/
theorem ev_rI0 {g : Int → Int → V} (ha : Ev ta σ H (.int i)) (hb : Ev tb σ H (.int j)) : Ev (tOp (rI0 g) ta tb) σ H (g i j) := ev_op ha hb rv_I0
theorem ev_rI {C : Int → Int → Prop} {g : Int → Int → V} (ha : Ev ta σ H (.int i)) (hb : Ev tb σ H (.int j)) (hc : C i j) : Ev (tOp (rI C g) ta tb) σ H (g i j) := ev_op ha hb (rv_I hc)
theorem ev_eq (ha : Ev ta σ H x) (hb : Ev tb σ H y) (h : scal x y = true) : Ev (tOp rEq ta tb) σ H (.bl (decide (x = y))) := ev_op ha hb (rv_eq h)
theorem ev_ne (ha : Ev ta σ H x) (hb : Ev tb σ H y) (h : scal x y = true) : Ev (tOp rNe ta tb) σ H (.bl (!decide (x = y))) := ev_op ha hb (rv_ne h)
theorem rv_eqL (h1 : SqL K H a (xs.map V.int)) (h2 : SqL K H b (ys.map V.int)) : RV (rEqD K) (.ref a) (.ref b) H (.bl (decide (xs = ys))) := fun H1 e Q q =>
  ⟨_, _, dp_ints (ex_l e h1), dp_ints (ex_l e h2), shaped_ints xs, shaped_ints ys, by rw [eqv_ints]; exact q H1 (Ex.refl H1)⟩
theorem rv_neL (h1 : SqL K H a (xs.map V.int)) (h2 : SqL K H b (ys.map V.int)) : RV (rNeD K) (.ref a) (.ref b) H (.bl (!decide (xs = ys))) := fun H1 e Q q =>
  ⟨_, _, dp_ints (ex_l e h1), dp_ints (ex_l e h2), shaped_ints xs, shaped_ints ys, by rw [eqv_ints]; exact q H1 (Ex.refl H1)⟩
/-- is None, is True -/
theorem ev_isN (ha : Ev ta σ H x) : Ev (tOp (fun x y H Q => y = .non ∧ Q (.bl (decide (x = .non))) H) ta (tC .non)) σ H (.bl (decide (x = .non))) := ev_op ha ev_c fun H1 _ _ q => ⟨rfl, q H1 (Ex.refl H1)⟩
theorem ev_notN (ha : Ev ta σ H x) : Ev (tOp (fun x y H Q => y = .non ∧ Q (.bl (!decide (x = .non))) H) ta (tC .non)) σ H (.bl (!decide (x = .non))) := ev_op ha ev_c fun H1 _ _ q => ⟨rfl, q H1 (Ex.refl H1)⟩
theorem ev_isB {c d : Bool} (ha : Ev ta σ H (.bl c)) (hb : Ev tb σ H (.bl d)) : Ev (tOp rIsB ta tb) σ H (.bl (decide (c = d))) := ev_op ha hb fun H1 _ _ q => ⟨c, d, rfl, rfl, q H1 (Ex.refl H1)⟩
theorem ev_notB {c d : Bool} (ha : Ev ta σ H (.bl c)) (hb : Ev tb σ H (.bl d)) : Ev (tOp rNotB ta tb) σ H (.bl (!decide (c = d))) := ev_op ha hb fun H1 _ _ q => ⟨c, d, rfl, rfl, q H1 (Ex.refl H1)⟩
/-! calls of built-ins, by values -/
theorem rc_isi {c : V} {t u : Value} {k : Bool} (hc : ClsV c u) (ht : ∀ H1, Ex H H1 → TyX K H1 x t) (hk : PySem.W.kitOne K t u = some k) : RC (rIsi K) [x, c] H (.bl k) := fun H1 e _ q =>
  ⟨x, c, t, u, k, rfl, hc, ht H1 e, hk, q H1 (Ex.refl H1)⟩
theorem rc_isiL {zs : List V} (h : H a = some (.lst zs)) : RC (rIsi K) [.ref a, .ty "list"] H (.bl true) := rc_isi (.ty _) (fun H1 e => .base (.lst (e a _ h))) (kit_ty (by decide +kernel))
theorem rc_isiInt : RC (rIsi K) [.int i, .ty "int"] H (.bl true) := rc_isi (.ty _) (fun _ _ => .base (.int _)) (kit_ty (by decide +kernel))
theorem rc_isiBool : RC (rIsi K) [.int i, .ty "bool"] H (.bl false) := rc_isi (.ty _) (fun _ _ => .base (.int _)) (kit_ty (by decide +kernel))
theorem rc_len {zs : List V} (h : SqL K H a zs) : RC (rLenK K) [.ref a] H (.int (zs.length : Int)) := fun H1 e _ q =>
  ⟨a, zs, rfl, .inl (ex_l e h), q H1 (Ex.refl H1)⟩
theorem rc_sum (h : SqL K H a (xs.map V.int)) : RC (rSum K) [.ref a] H (.int xs.sum) := fun H1 e _ q => ⟨a, xs, rfl, ex_l e h, q H1 (Ex.refl H1)⟩
theorem rc_all {bs : List Bool} (h : SqL K H a (bs.map V.bl)) : RC (rAll K) [.ref a] H (.bl (bs.all id)) := fun H1 e _ q => ⟨a, bs, rfl, ex_l e h, q H1 (Ex.refl H1)⟩
theorem rc_any {bs : List Bool} (h : SqL K H a (bs.map V.bl)) : RC (rAny K) [.ref a] H (.bl (bs.any id)) := fun H1 e _ q => ⟨a, bs, rfl, ex_l e h, q H1 (Ex.refl H1)⟩
theorem rc_min2 : RC (fun xs H Q => ∃ i j, xs = [.int i, .int j] ∧ Q (.int (if j < i then j else i)) H) [.int i, .int j] H (.int (if j < i then j else i)) := fun H1 _ _ q => ⟨i, j, rfl, q H1 (Ex.refl H1)⟩
theorem rc_max2 : RC (fun xs H Q => ∃ i j, xs = [.int i, .int j] ∧ Q (.int (if j > i then j else i)) H) [.int i, .int j] H (.int (if j > i then j else i)) := fun H1 _ _ q => ⟨i, j, rfl, q H1 (Ex.refl H1)⟩
/-- a call whose only argument is a new list -/
theorem ev_cbL {r : List V → Hp → VK → Prop} {zs : List V} (h : EvL ta σ H zs) (hr : ∀ p H1, Ex H H1 → H1 p = some (.lst zs) → RC r [.ref p] H1 z) : Ev (tCB r (tCons ta tNil)) σ H z := fun H1 e Q q =>
  h H1 e _ fun p H2 _ e2 hp => hr p H2 (e.trans e2) hp H2 (Ex.refl H2) Q fun H3 e3 => q H3 (e2.trans e3)
/-- list(xs): a new list -/
theorem rcl_list {zs : List V} (h : SqL K H a zs) : RCL (rListK K) [.ref a] H zs := fun H1 e _ q =>
  ⟨a, zs, rfl, .inl (ex_l e h), fun l hl => q l _ hl (Ex.new hl) upd_same⟩
/-- a value of which P is known: what a call may hand back -/
def EvP (te : TE) (σ : L2.St) (H : Hp) (P : V → Hp → Prop) : Prop := ∀ H1, Ex H H1 → ∀ Q : VK, (∀ v H2, Ex H1 H2 → P v H2 → Q v H2) → te σ H1 Q
theorem q_asgP {i : Nat} {D : Ends} {tz : TS} {P : V → Hp → Prop} (h : EvP te σ H P) (k : ∀ v H1, Ex H H1 → P v H1 → tz D (σ.set i (some v)) H1) : tSeq (tAsg te (gName i)) tz D σ H := h H (Ex.refl H) _ fun v H1 e p => k v H1 e p
theorem EvP.of (h : Ev te σ H v) : EvP te σ H (fun w _ => w = v) := fun H1 e Q q => h H1 e Q fun H2 e2 => q v H2 e2 rfl
theorem evP_call {sp : Sp} {dvs vs : List V} {E : XK} {ta : TA} {P : V → Hp → Prop} (h : EvA ta σ H vs) (hs : ∀ H1, Ex H H1 → ∀ Q : VK, (∀ v H2, Ex H1 H2 → P v H2 → Q v H2) → ∀ E : XK, sp (vs ++ dvs) H1 Q E) : EvP (tCall sp dvs E ta) σ H P := fun H1 e Q q =>
  h H1 e _ fun H2 e2 => hs H2 (e.trans e2) Q (fun v H3 e3 p => q v H3 (e2.trans e3) p) E
/-- xs + ys of lists that stand in H -/
theorem el_cat {l m : Addr} {zs ws : List V} (ha : Ev ta σ H (.ref l)) (hb : Ev tb σ H (.ref m)) (h1 : H l = some (.lst zs)) (h2 : H m = some (.lst ws)) (hz : zs.length + ws.length ≤ 100000) : EvL (tOp rCat ta tb) σ H (zs ++ ws) := fun H1 e Q q =>
  ha H1 e _ fun H2 e2 => hb H2 (e.trans e2) _ fun H3 e3 => ⟨l, m, zs, ws, rfl, rfl, (((e.trans e2).trans e3) l _ h1), (((e.trans e2).trans e3) m _ h2), sz_of hz, fun p hp => q p _ (fresh_back (e2.trans e3) hp) ((e2.trans e3).trans (Ex.new hp)) upd_same⟩
/-- [..] + ys -/
theorem el_catN {m : Addr} {zs ws : List V} (ha : EvL ta σ H zs) (hb : Ev tb σ H (.ref m)) (h2 : H m = some (.lst ws)) (hz : zs.length + ws.length ≤ 100000) : EvL (tOp rCat ta tb) σ H (zs ++ ws) := fun H1 e Q q =>
  ha H1 e _ fun l H2 hl e2 h1 => hb H2 (e.trans e2) _ fun H3 e3 => ⟨l, m, zs, ws, rfl, rfl, e3 l _ h1, (((e.trans e2).trans e3) m _ h2), sz_of hz, fun p hp => q p _ (fresh_back (e2.trans e3) hp) ((e2.trans e3).trans (Ex.new hp)) upd_same⟩
/-- xs + [..] -/
theorem el_catR {l : Addr} {zs ws : List V} (ha : Ev ta σ H (.ref l)) (hb : EvL tb σ H ws) (h1 : H l = some (.lst zs)) (hz : zs.length + ws.length ≤ 100000) : EvL (tOp rCat ta tb) σ H (zs ++ ws) := fun H1 e Q q =>
  ha H1 e _ fun H2 e2 => hb H2 (e.trans e2) _ fun m H3 hm e3 h2 => ⟨l, m, zs, ws, rfl, rfl, (((e.trans e2).trans e3) l _ h1), h2, sz_of hz, fun p hp => q p _ (fresh_back (e2.trans e3) hp) ((e2.trans e3).trans (Ex.new hp)) upd_same⟩
/-- [..] + [..], slices and the like -/
theorem el_catNN {zs ws : List V} (ha : EvL ta σ H zs) (hb : EvL tb σ H ws) (hz : zs.length + ws.length ≤ 100000) : EvL (tOp rCat ta tb) σ H (zs ++ ws) := fun H1 e Q q =>
  ha H1 e _ fun l H2 hl e2 h1 => hb H2 (e.trans e2) _ fun m H3 hm e3 h2 => ⟨l, m, zs, ws, rfl, rfl, e3 l _ h1, h2, sz_of hz, fun p hp => q p _ (fresh_back (e2.trans e3) hp) ((e2.trans e3).trans (Ex.new hp)) upd_same⟩
/-- [..] * k -/
theorem el_rep {zs : List V} {k : Int} (ha : EvL ta σ H zs) (hb : Ev tb σ H (.int k)) (h0 : 0 ≤ k ∧ k ≤ 100000) (hz : zs.length * k.toNat ≤ 100000) : EvL (tOp rRep ta tb) σ H (List.replicate k.toNat zs).flatten := fun H1 e Q q =>
  ha H1 e _ fun l H2 hl e2 h1 => hb H2 (e.trans e2) _ fun H3 e3 => ⟨l, k, zs, rfl, rfl, e3 l _ h1, by omega, by omega, sz_of hz, fun p hp => q p _ (fresh_back (e2.trans e3) hp) ((e2.trans e3).trans (Ex.new hp)) upd_same⟩
theorem EvP.mono {P : V → Hp → Prop} (e : Ex H H') (h : EvP te σ H P) : EvP te σ H' P := fun H1 a Q q => h H1 (e.trans a) Q q
end
end XP
namespace XP
open PySem PySem.Spec PyProof.Rows L2 Evl
/-! ### comprehensions -/
theorem given_getD {ns : List Int} (p : Int → Bool) (g : Int → V) : given ns.length (fun i => p (ns.getD i 0)) (fun i => g (ns.getD i 0)) = (ns.filter p).map g := by
  unfold given
  have key : ∀ (ns : List Int), (List.range ns.length).map (fun i => ns.getD i 0) = ns := by
    intro ns
    refine List.ext_getElem (by simp) fun i h1 h2 => ?_
    rw [List.getElem_map, List.getElem_range]
    simp [List.getD, h2]
  have e2 : ((List.range ns.length).filter fun i => p (ns.getD i 0)).map (fun i => ns.getD i 0) = ns.filter p := by
    have := List.filter_map (f := fun i => ns.getD i 0) (p := p) (l := List.range ns.length)
    rw [key ns] at this
    exact this.symm
  rw [← e2, List.map_map]
  rfl
theorem given_all (n : Nat) (v : Nat → V) : given n (fun _ => true) v = (List.range n).map v := by
  unfold given
  rw [List.filter_eq_self.mpr fun _ _ => rfl]
section
variable {K : PySem.W.Frag} {σ : L2.St} {H H' : Hp} {ta tb te tx : TE} {t u : TT} {x y z v : V} {r : R2} {a b p : Addr} {xs ys : List Int} {i j : Int} {D : Ends} {tz : TS}
theorem et_yes : EvT tYes σ H true := fun H1 _ _ q => q H1 (Ex.refl H1)
theorem el_is {zs ws : List V} (h : EvL te σ H zs) (e : zs = ws) : EvL te σ H ws := by
  rw [← e]
  exact h
theorem el_lcI {tl : TE} {k : Nat} {vs : List Nat} {ns : List Int} (p : Int → Bool) (g : Int → V) (h : Ev tl σ H (.ref a)) (hx : SqL K H a (ns.map V.int)) (hz : ns.length ≤ 40000) (hw : ∀ x, wipe ((wipe σ vs).set k (some x)) vs = wipe σ vs)
    (ht : ∀ (z : Int) H1, Ex H H1 → z ∈ ns → EvT t ((wipe σ vs).set k (some (.int z))) H1 (p z)) (he : ∀ (z : Int) H1, Ex H H1 → z ∈ ns → p z = true → Ev te ((wipe σ vs).set k (some (.int z))) H1 (g z)) :
    EvL (tLc (iList K tl) (gName k) t te vs) σ H ((ns.filter p).map g) := by
  refine el_is (el_lcL (fun i => p (ns.getD i 0)) (fun i => g (ns.getD i 0)) h hx (by rw [List.length_map]; exact hz) hw (fun i x H1 e1 hi => ?_) (fun i x H1 e1 hi hp => ?_)) (by rw [List.length_map]; exact given_getD p g)
  · obtain ⟨z, e, rfl⟩ := get_int hi
    have ez : ns.getD i 0 = z := by simp [List.getD, e]
    rw [ez]
    exact ht z H1 e1 (List.mem_of_getElem? e)
  · obtain ⟨z, e, rfl⟩ := get_int hi
    have ez : ns.getD i 0 = z := by simp [List.getD, e]
    rw [ez] at hp ⊢
    exact he z H1 e1 (List.mem_of_getElem? e) hp
theorem el_lcIA {tl : TE} {k : Nat} {vs : List Nat} {ns : List Int} (g : Int → V) (h : Ev tl σ H (.ref a)) (hx : SqL K H a (ns.map V.int)) (hz : ns.length ≤ 40000) (hw : ∀ x, wipe ((wipe σ vs).set k (some x)) vs = wipe σ vs)
    (he : ∀ (z : Int) H1, Ex H H1 → z ∈ ns → Ev te ((wipe σ vs).set k (some (.int z))) H1 (g z)) :
    EvL (tLc (iList K tl) (gName k) tYes te vs) σ H (ns.map g) := by
  refine el_is (el_lcI (fun _ => true) g h hx hz hw (fun _ _ _ _ => et_yes) fun z H1 e1 hm _ => he z H1 e1 hm) ?_
  rw [List.filter_eq_self.mpr fun _ _ => rfl]
theorem el_lcRA {tr : TA} {k : Nat} {vs : List Nat} {n : Int} (g : Nat → V) (h : EvA tr σ H [.int n]) (hn : 0 ≤ n ∧ n ≤ 40000) (hw : ∀ x, wipe ((wipe σ vs).set k (some x)) vs = wipe σ vs)
    (he : ∀ (i : Nat) H1, Ex H H1 → (i : Int) < n → Ev te ((wipe σ vs).set k (some (.int (i : Int)))) H1 (g i)) :
    EvL (tLc (iRng1 tr) (gName k) tYes te vs) σ H ((List.range n.toNat).map g) :=
  el_is (el_lcR1 (fun _ => true) g h hn hw (fun _ _ _ _ => et_yes) fun i H1 e1 hi _ => he i H1 e1 hi) (given_all _ _)
/-! ### calls of built-ins, further -/
theorem rc_maxOf {m : Int} (h : SqL K H a (xs.map V.int)) (h0 : 0 < xs.length) (hm : ∀ k, k ∈ xs → (∀ y, y ∈ xs → y ≤ k) → k = m) : RC (rMax K) [.ref a] H (.int m) := fun H1 e _ q =>
  ⟨a, xs, rfl, ex_l e h, h0, fun k h1 h2 => by rw [hm k h1 h2]; exact q H1 (Ex.refl H1)⟩
theorem rc_minOf {m : Int} (h : SqL K H a (xs.map V.int)) (h0 : 0 < xs.length) (hm : ∀ k, k ∈ xs → (∀ y, y ∈ xs → k ≤ y) → k = m) : RC (rMin K) [.ref a] H (.int m) := fun H1 e _ q =>
  ⟨a, xs, rfl, ex_l e h, h0, fun k h1 h2 => by rw [hm k h1 h2]; exact q H1 (Ex.refl H1)⟩
theorem ev_maxD {m d : Int} {t1 t2 : TA} (h1 : EvA t1 σ H [.ref a]) (h2 : EvA t2 σ H [.int d]) (h : SqL K H a (xs.map V.int)) (h0 : xs = [] → d = m) (hm : ∀ k, k ∈ xs → (∀ y, y ∈ xs → y ≤ k) → k = m) :
    Ev (tCKw (rMaxD K) t1 t2) σ H (.int m) := fun H1 e Q q => h1 H1 e _ fun H2 e2 => h2 H2 (e.trans e2) _ fun H3 e3 =>
  ⟨a, xs, d, rfl, rfl, ex_l ((e.trans e2).trans e3) h, fun z => by rw [h0 z]; exact q H3 (e2.trans e3), fun k k1 k2 => by rw [hm k k1 k2]; exact q H3 (e2.trans e3)⟩
/-! ### xs[i] of a written list -/
theorem ev_ixN {zs : List V} (ha : EvL ta σ H zs) (hb : ∀ H1, Ex H H1 → Ev tb σ H1 (.int i)) (hv : atI zs i = some v) : Ev (tOp (rIxL K) ta tb) σ H v := ev_opL1 ha hb fun p H1 hp _ => rv_ixL (sq_of hp) hv
theorem ev_ixI (ha : Ev ta σ H (.ref a)) (hb : Ev tb σ H (.int i)) (h : SqL K H a (xs.map V.int)) (h0 : 0 ≤ i) (h1 : i < xs.length) : Ev (tOp (rIxL K) ta tb) σ H (.int (xs.getD i.toNat 0)) := by
  refine ev_op ha hb (rv_ixL h ?_)
  have hi : i.toNat < xs.length := by omega
  obtain ⟨j, rfl⟩ := Int.eq_ofNat_of_zero_le h0
  have hj : j < xs.length := by omega
  refine atI_nat ?_
  rw [List.getElem?_map, List.getElem?_eq_getElem hj]
  simp [List.getD, hj]
theorem ev_ixJ {j : Nat} (ha : Ev ta σ H (.ref a)) (hb : Ev tb σ H (.int (j : Int))) (h : SqL K H a (xs.map V.int)) (hj : j < xs.length) : Ev (tOp (rIxL K) ta tb) σ H (.int (xs.getD j 0)) := ev_ixI (i := (j : Int)) ha hb h (by omega) (by omega)
/-! ### statements that change a list -/
theorem q_rev {l : Addr} {zs : List V} (ha : Ev ta σ H (.ref l)) (hl : H l = some (.lst zs)) (k : ∀ H1, Ex H H1 → tz D σ (upd H1 l (.lst zs.reverse))) : tSeq (tDrop (tBM0 K "list" rReverse ta)) tz D σ H :=
  ha H (Ex.refl H) _ fun H1 e1 => ⟨.inl ⟨rfl, zs, sq_of (e1 l _ hl)⟩, l, zs, rfl, rfl, e1 l _ hl, k H1 e1⟩
theorem q_clear {l : Addr} {zs : List V} (ha : Ev ta σ H (.ref l)) (hl : H l = some (.lst zs)) (k : ∀ H1, Ex H H1 → tz D σ (upd H1 l (.lst []))) : tSeq (tDrop (tBM0 K "list" rClear ta)) tz D σ H :=
  ha H (Ex.refl H) _ fun H1 e1 => ⟨.inl ⟨rfl, zs, sq_of (e1 l _ hl)⟩, l, zs, rfl, rfl, e1 l _ hl, k H1 e1⟩
/-- sorted(xs) as a value: some rising arrangement, new -/
theorem evP_sorted {tr : TA} (h : EvA tr σ H [.ref a]) (hx : SqL K H a (xs.map V.int)) : EvP (tCB (rSortedI K) tr) σ H (fun v H1 => ∃ (p : Addr) (ys : List Int), v = .ref p ∧ H p = none ∧ ys.Perm xs ∧ ys.Pairwise (· ≤ ·) ∧ Ll H1 p ys) := fun H1 e Q q =>
  h H1 e _ fun H2 e2 => ⟨a, xs, rfl, ex_l (e.trans e2) hx, fun ys p hp ho hn => q _ _ (e2.trans (Ex.new hn)) ⟨p, ys, rfl, fresh_back (e.trans e2) hn, hp, ho, upd_same⟩⟩
/-! ### displays of new lists; calls of new lists; a choice as a statement -/
theorem ep_lst3 {t1 t2 t3 : TE} {z1 z2 z3 : List V} (h1 : EvL t1 σ H z1) (h2 : EvL t2 σ H z2) (h3 : EvL t3 σ H z3) : EvP (tLst (tCons t1 (tCons t2 (tCons t3 tNil)))) σ H (fun v H' => ∃ p p1 p2 p3 : Addr, v = .ref p ∧ H' p = some (.lst [.ref p1, .ref p2, .ref p3]) ∧
    (H p1 = none ∧ H' p1 = some (.lst z1)) ∧ (H p2 = none ∧ H' p2 = some (.lst z2)) ∧ (H p3 = none ∧ H' p3 = some (.lst z3))) := fun H1 e Q q =>
  h1 H1 e _ fun p1 H2 n1 e2 k1 => h2 H2 (e.trans e2) _ fun p2 H3 n2 e3 k2 => h3 H3 ((e.trans e2).trans e3) _ fun p3 H4 n3 e4 k3 => ⟨sz_of (by show 3 ≤ 100000; decide), fun p hp => q _ _ (((e2.trans e3).trans e4).trans (Ex.new hp))
    ⟨p, p1, p2, p3, rfl, upd_same, ⟨fresh_back e n1, Ex.new hp _ _ (e4 _ _ (e3 _ _ k1))⟩, ⟨fresh_back (e.trans e2) n2, Ex.new hp _ _ (e4 _ _ k2)⟩, ⟨fresh_back ((e.trans e2).trans e3) n3, Ex.new hp _ _ k3⟩⟩⟩
theorem evP_ixP {P R : V → Hp → Prop} (h : EvP ta σ H P) (hb : ∀ v H1, Ex H H1 → P v H1 → Ev tb σ H1 (.int i)) (hR : ∀ v H1 H2, Ex H1 H2 → R v H1 → R v H2)
    (hr : ∀ v H1, Ex H H1 → P v H1 → ∃ p zs w, v = .ref p ∧ H1 p = some (.lst zs) ∧ atI zs i = some w ∧ R w H1) : EvP (tOp (rIxL K) ta tb) σ H R := fun H1 e Q q =>
  h H1 e _ fun v H2 e2 p2 => by
    obtain ⟨p, zs, w, rfl, hz, hw, r1⟩ := hr v H2 (e.trans e2) p2
    exact hb _ H2 (e.trans e2) p2 H2 (Ex.refl H2) _ fun H3 e3 => ⟨p, zs, i, w, rfl, rfl, sq_of (e3 _ _ hz), hw, q w H3 (e2.trans e3) (hR _ _ _ e3 r1)⟩
theorem ev_callL {sp : Sp} {E : XK} {zs : List V} (h : EvL te σ H zs) (hb : ∀ H1, Ex H H1 → Ev tb σ H1 y) (hs : ∀ p H1, Ex H H1 → H1 p = some (.lst zs) → SpV sp [.ref p, y] H1 z) : Ev (tCall sp [] E (tCons te (tCons tb tNil))) σ H z := fun H1 e Q q =>
  h H1 e _ fun p H2 _ e2 hp => hb H2 (e.trans e2) H2 (Ex.refl H2) _ fun H3 e3 => hs p H3 ((e.trans e2).trans e3) (e3 _ _ hp) H3 (Ex.refl H3) Q (fun H4 e4 => q H4 ((e2.trans e3).trans e4)) E
theorem ev_callLL {sp : Sp} {E : XK} {zs ws : List V} (h : EvL te σ H zs) (hb : ∀ H1, Ex H H1 → EvL tb σ H1 ws) (hs : ∀ p q H1, Ex H H1 → H1 p = some (.lst zs) → H1 q = some (.lst ws) → SpV sp [.ref p, .ref q] H1 z) : Ev (tCall sp [] E (tCons te (tCons tb tNil))) σ H z := fun H1 e Q q =>
  h H1 e _ fun p H2 _ e2 hp => hb H2 (e.trans e2) H2 (Ex.refl H2) _ fun p2 H3 _ e3 hp2 => hs p p2 H3 ((e.trans e2).trans e3) (e3 _ _ hp) hp2 H3 (Ex.refl H3) Q (fun H4 e4 => q H4 ((e2.trans e3).trans e4)) E
theorem s_asgP {i : Nat} {P : V → Hp → Prop} (h : EvP te σ H P) (k : ∀ v H1, Ex H H1 → P v H1 → D.nx (σ.set i (some v)) H1) : tAsg te (gName i) D σ H := h H (Ex.refl H) _ fun v H1 e p => k v H1 e p
theorem s_dropIf {c : Bool} (h : EvT t σ H c) (h1 : c = true → ∀ H1, Ex H H1 → tDrop ta D σ H1) (h2 : c = false → ∀ H1, Ex H H1 → tDrop tb D σ H1) : tDrop (tIf t ta tb) D σ H := h H (Ex.refl H) _ fun H1 e => by
  cases c with
  | true => exact h1 rfl H1 e
  | false => exact h2 rfl H1 e
theorem s_pop {l : Addr} {zs : List V} {w : V} (ha : Ev ta σ H (.ref l)) (hl : H l = some (.lst zs)) (hw : zs[zs.length - 1]? = some w) (k : ∀ H1, Ex H H1 → D.nx σ (upd H1 l (.lst zs.dropLast))) : tDrop (tBM0 K "list" rPop ta) D σ H :=
  ha H (Ex.refl H) _ fun H1 e1 => ⟨.inl ⟨rfl, zs, sq_of (e1 l _ hl)⟩, l, zs, w, rfl, rfl, e1 l _ hl, hw, k H1 e1⟩
end
end XP
/-! ## Rules of our own: three comparisons in a row, xs[i] += e, a list's count of True -/
namespace XP
open PySem PySem.Spec PyProof.Rows L2 Evl
/-- a op b op' c op'' d -/
def tChain3 (r1 r2 r3 : R2) (ta tb tc td : TE) : TE := fun σ H Q => ta σ H fun x H1 => tb σ H1 fun y H2 => r1 x y H2 fun z H3 => ∃ k, z = .bl k ∧
  (if k = true then tc σ H3 fun x3 H4 => r2 y x3 H4 fun z2 H5 => ∃ k2, z2 = .bl k2 ∧ (if k2 = true then td σ H5 fun x4 H6 => r3 x3 x4 H6 Q else Q (.bl false) H5) else Q (.bl false) H3)
section
variable {X : Cx} {a b c d : Expr} {ta tb tc td : TE} {pos : Pos}
theorem pe_chain3 {o1 o2 o3 : CmpOp} {r1 r2 r3 : R2} (h1 : OpR X (compareOp o1) r1) (h2 : OpR X (compareOp o2) r2) (h3 : OpR X (compareOp o3) r3) (ha : PE X a ta) (hb : PE X b tb) (hc : PE X c tc) (hd : PE X d td)
    (hm : lastMarks [o1, o2, o3] [b, c, d] = false := by with_unfolding_all rfl) : PE X (.Compare a [o1, o2, o3] [b, c, d] pos) (tChain3 r1 r2 r3 ta tb tc td) := by
  refine ⟨fun pins s σ H Q I h => Compare_chain (thn (ha.run pins s σ H _ I h) fun va sa ⟨x, Ha, Ia, ra, qa⟩ => chain_link (thn (hb.run pins sa σ Ha _ Ia qa) fun vb sb ⟨y, Hb, Ib, rb, qb⟩ => thn (h1 pins sb σ Hb x y va vb _ Ib ra rb qb) fun w1 s1 hw1 => ?_)) hm⟩
  obtain ⟨z1, H1, I1, rz1, k1, rfl, q1⟩ := hw1
  obtain rfl : w1 = Value.bool k1 := rz1
  refine wpAny_truthy_bool ?_
  cases k1
  · exact ite_ff ⟨V.bl false, H1, I1, rfl, q1⟩
  · refine ite_tt (chain_link (thn (hc.run pins s1 σ H1 _ I1 q1) fun vc sc ⟨y3, Hc, Ic, rc, qc⟩ => thn (h2 pins sc σ Hc y y3 vb vc _ Ic rb rc qc) fun w2 s2 hw2 => ?_))
    obtain ⟨z2, H2, I2, rz2, k2, rfl, q2⟩ := hw2
    obtain rfl : w2 = Value.bool k2 := rz2
    refine wpAny_truthy_bool ?_
    cases k2
    · exact ite_ff ⟨V.bl false, H2, I2, rfl, q2⟩
    · exact ite_tt (chain_last (thn (hd.run pins s2 σ H2 _ I2 q2) fun vd sd ⟨y4, Hd, Id, rd, qd⟩ => h3 pins sd σ Hd y3 y4 vc vd Q Id rc rd qd))
/-- xs[i] as a value, for xs[i] op= e -/
theorem get_listK {K : PySem.W.Frag} (hK : X.K = K) : PGet X (fun o i H Q => ∃ p zs k v, o = .ref p ∧ i = .int k ∧ SqL K H p zs ∧ 0 ≤ k ∧ zs[k.toNat]? = some v ∧ Q v H) := by
  subst hK
  intro pins s σ H o i ov iv Q I ro ri h
  obtain ⟨p, zs, k, v, rfl, rfl, hq, h0, hv, q⟩ := h
  obtain rfl : ov = Value.ref p := ro
  obtain ⟨t, rfl⟩ := ri
  obtain ⟨its, r, pl, hz⟩ := I.list hq
  obtain ⟨w, ew, rw'⟩ := r.get hv
  have hn := line63
  have hl := r.length
  have hk : k.toNat < zs.length := (List.getElem?_eq_some_iff.mp hv).1
  refine wpAny_getItem_list (x := w) pl.isList h0 (by omega) (by simpa using ew) ?_
  exact ⟨v, H, I, rw', q⟩
def tAugL (K : PySem.W.Frag) (to ti te : TE) (f : Int → Int → Int) : TS :=
  tAugS to ti te (fun o i H Q => ∃ p zs k v, o = .ref p ∧ i = .int k ∧ SqL K H p zs ∧ 0 ≤ k ∧ zs[k.toNat]? = some v ∧ Q v H) (ipI f) rSetL
theorem ps_augL {K : PySem.W.Frag} {o i e : Expr} {to ti te : TE} {f : Int → Int → Int} {op : Operator} {tpos : Pos} (hK : X.K = K) (ho : PE X o to) (hi : PE X i ti) (he : PE X e te) (hp : PIp X op (ipI f))
    (ha : ∀ ov iv new, augStore i ov iv new = (do holding [new, ov, iv] (setItem ov iv new); release [new, ov, iv] []; pure .next) := by intros; rfl) : PS X (.AugAssign (.Subscript o i tpos) op e pos) (tAugL K to ti te f) :=
  ps_augS ho hi (get_listK hK) he hp set_list ha
/-- xs.count(True) of a list of truths -/
def rCountB (K : PySem.W.Frag) : V → List V → Hp → VK → Prop := fun x xs H Q => ∃ (p : Addr) (bs : List Bool) (k : Bool), x = .ref p ∧ xs = [.bl k] ∧ SqL K H p (bs.map V.bl) ∧ Q (.int (bs.count k : Nat)) H
theorem readsAll_bools (h : Heap) : ∀ bs : List Bool, ReadsAll h (bs.map Value.bool) (bs.map PyData.bool) []
  | [] => .nil
  | b :: r => ReadsAll.cons (as := []) (bs := []) (.bool b) (readsAll_bools h r)
theorem countIn_bools (k : Bool) : ∀ bs : List Bool, countIn (.bool k) (bs.map PyData.bool) = ((bs.count k : Nat) : Int)
  | [] => rfl
  | b :: r => by
    rw [List.map_cons, countIn, countIn_bools k r, List.count_cons]
    cases b <;> cases k <;> simp [PySem.Spec.same] <;> omega
theorem mt_countB {K : PySem.W.Frag} (hK : X.K = K) : MtR X "list.count" (rCountB K) := by
  subst hK
  intro pins s σ H x xs v us Q I rx rxs h
  obtain ⟨p, bs, k, rfl, rfl, hs, q⟩ := h
  obtain rfl : v = Value.ref p := rx
  obtain ⟨u, rfl, ru⟩ := rxs.one
  obtain rfl : u = Value.bool k := ru
  obtain ⟨its, rv, pl, hlen⟩ := I.list hs
  have e := rv.bls
  subst e
  refine count_list_bools pl.isList (readsAll_bools s.heap bs) (List.all_eq_true.mpr fun d hd => by obtain ⟨b, _, rfl⟩ := List.mem_map.mp hd; rfl) ?_
  rw [countIn_bools]
  exact ⟨.int ((bs.count k : Nat) : Int), H, I.tok _, ⟨_, rfl⟩, q⟩
end
section
variable {K : PySem.W.Frag} {σ : L2.St} {H H' : Hp} {ta tb tc td te tx : TE} {x y z v : V} {i j : Int} {D : Ends} {tz : TS}
/-- 0 <= i < j <= n and the like -/
theorem ev_chain3 {g1 g2 g3 : Int → Int → Bool} {i1 i2 i3 i4 : Int} (ha : Ev ta σ H (.int i1)) (hb : Ev tb σ H (.int i2)) (hc : Ev tc σ H (.int i3)) (hd : Ev td σ H (.int i4)) :
    Ev (tChain3 (rI0 fun a b => .bl (g1 a b)) (rI0 fun a b => .bl (g2 a b)) (rI0 fun a b => .bl (g3 a b)) ta tb tc td) σ H (.bl (g1 i1 i2 && (g2 i2 i3 && g3 i3 i4))) := fun H1 e Q q =>
  ha H1 e _ fun H2 e2 => hb H2 (e.trans e2) _ fun H3 e3 => ⟨i1, i2, rfl, rfl, _, rfl, by
    cases k1 : g1 i1 i2 with
    | false =>
      refine iteF ?_
      rw [k1] at q
      exact q H3 (e2.trans e3)
    | true =>
      refine iteT (hc H3 ((e.trans e2).trans e3) _ fun H4 e4 => ⟨i2, i3, rfl, rfl, _, rfl, ?_⟩)
      rw [k1] at q
      cases k2 : g2 i2 i3 with
      | false =>
        refine iteF ?_
        rw [k2] at q
        exact q H4 ((e2.trans e3).trans e4)
      | true =>
        refine iteT (hd H4 (((e.trans e2).trans e3).trans e4) _ fun H5 e5 => ⟨i3, i4, rfl, rfl, ?_⟩)
        rw [k2] at q
        exact q H5 (((e2.trans e3).trans e4).trans e5)⟩
/-- a < b <= c -/
theorem ev_chain2 {g1 g2 : Int → Int → Bool} {i1 i2 i3 : Int} (ha : Ev ta σ H (.int i1)) (hb : Ev tb σ H (.int i2)) (hc : Ev tc σ H (.int i3)) :
    Ev (tChain (rI0 fun a b => .bl (g1 a b)) (rI0 fun a b => .bl (g2 a b)) ta tb tc) σ H (.bl (g1 i1 i2 && g2 i2 i3)) := fun H1 e Q q =>
  ha H1 e _ fun H2 e2 => hb H2 (e.trans e2) _ fun H3 e3 => ⟨i1, i2, rfl, rfl, _, rfl, by
    cases k1 : g1 i1 i2 with
    | false =>
      refine iteF ?_
      rw [k1] at q
      exact q H3 (e2.trans e3)
    | true =>
      refine iteT (hc H3 ((e.trans e2).trans e3) _ fun H4 e4 => ⟨i2, i3, rfl, rfl, ?_⟩)
      rw [k1] at q
      exact q H4 ((e2.trans e3).trans e4)⟩
/-- [*xs, e, ..] -/
theorem ea_star {t : TA} {a : Addr} {zs vs : List V} (h : Ev te σ H (.ref a)) (hz : SqL K H a zs) (ht : EvA t σ H vs) : EvA (StX.tStar K te t) σ H (zs ++ vs) := fun H1 e Q q =>
  h H1 e _ fun H2 e2 => ⟨a, zs, rfl, .inr (ex_l (e.trans e2) hz), ht H2 (e.trans e2) _ fun H3 e3 => q H3 (e2.trans e3)⟩
/-- xs[i] += e -/
theorem q_augL {l : Addr} {ns : List Int} {f : Int → Int → Int} {k : Nat} {a b : Int} (ho : Ev ta σ H (.ref l)) (hi : Ev tb σ H (.int (k : Int))) (he : Ev te σ H (.int b)) (hl : Ll H l ns) (hk : ns[k]? = some a)
    (g : ∀ H1, Ex H H1 → tz D σ (upd H1 l (.lst ((ns.set k (f a b)).map V.int)))) : tSeq (tAugL K ta tb te f) tz D σ H :=
  ho H (Ex.refl H) _ fun H1 e1 => hi H1 e1 _ fun H2 e2 => ⟨l, ns.map V.int, k, .int a, rfl, rfl, Ll.sq ((e1.trans e2) _ _ hl), by omega, by rw [Int.toNat_natCast, List.getElem?_map, hk]; rfl,
    he H2 (e1.trans e2) _ fun H3 e3 => ⟨a, b, rfl, rfl, l, ns.map V.int, k, k, rfl, rfl, (((e1.trans e2).trans e3) _ _ hl), Evl.ixN_nat (by rw [List.length_map]; exact (List.getElem?_eq_some_iff.mp hk).1), by
      rw [← List.map_set] at *
      exact g H3 ((e1.trans e2).trans e3)⟩⟩
end
end XP
/-! ## An error that a clause names and a local name keeps: try: .. except C as n: y = n -/
namespace XP
open PySem PySem.Spec PyProof.Rows L2 Evl
/-- an error object of the class cls stands at e -/
def ErrO (cls : Value) (e : Addr) : HO := .ext fun h => ∃ ob : Obj, h.get? e = some ob ∧ Zc cls none ob ∧ ∃ fs, ob.data = .fields fs
section
variable {X : Cx} {pins : List (Addr × Obj)} {σ : L2.St} {H : Hp} {s : Shared}
/-- a pinned error object is tracked from here on -/
theorem tracked_err {e : Addr} {ob : Obj} {cls : Value} (I : Inv X ((e, ob) :: pins) σ H s) (hz : Zc cls none ob) (hd : ∃ fs, ob.data = .fields fs) (hnew : X.s_0.heap.get? e = none) (hcell : ∀ x c, X.env.cells.lookup x = some c → c ≠ e) (hpin : ∀ p ∈ X.pn ++ pins, p.1 ≠ e) :
    Inv X pins σ (upd H e (ErrO cls e)) s := by
  obtain ⟨hg, hn, hL, hF, _⟩ := I.pin (e, ob) (List.mem_append_right _ List.mem_cons_self)
  have away : ∀ b o, X.s_0.heap.get? b = some o → b ≠ e := fun b o h z => by
    subst z
    rw [hnew] at h
    cases h
  have more : ∀ p ∈ X.pn ++ pins, p ∈ X.pn ++ (e, ob) :: pins := fun p hp => (List.mem_append.mp hp).elim (fun q => List.mem_append_left _ q) fun q => List.mem_append_right _ (List.mem_cons_of_mem _ q)
  exact {
    ok := I.ok, os := I.os, bare := I.bare, loc := I.loc, cell := I.cell, len := I.len
    base := {
      keep := I.base.keep, slot := I.base.slot, there := I.base.there
      free := fun b o h n x => (upd_ne (away b o h)).trans (I.base.free b o h n x)
      tups := fun b zs h => (upd_ne (ne_of_none (I.base.tups b zs h) hn)).trans (I.base.tups b zs h)
      frzs := fun b o u h => (upd_ne (ne_of_none (I.base.frzs b o u h) hn)).trans (I.base.frzs b o u h)
      tbls := fun b ps h => by
        obtain ⟨m, k⟩ := I.base.tbls b ps h
        exact ⟨m, (upd_ne (ne_of_none k hn)).trans k⟩ }
    free := (upd_ne (Ne.symm hL)).trans I.free
    freeC := fun x c h => (upd_ne (hcell x c h)).trans (I.freeC x c h)
    pin := fun p hp => by
      obtain ⟨k1, k2, k3⟩ := I.pin p (more p hp)
      exact ⟨k1, (upd_ne (hpin p hp)).trans k2, k3⟩
    hok := I.hok.laidN (fun _ _ q => q) hn ⟨⟨ob, hg, hz, hd⟩, ⟨ob, hg⟩, fun h1 h2 ⟨o, q, r⟩ k => ⟨o, k o q, r⟩⟩ }
/-- what the clause wishes of an error of the body; slot i the clause's name, slot j the name that keeps it -/
def wKeep (K : PySem.W.Frag) (c : Value) (i j : Nat) (Wout : WX) (D : Ends) : WX := fun cls d σ H =>
  ∃ b, PySem.W.exmOne K cls c = some b ∧ (b = true → d = none ∧ ∀ e, H e = none → D.nx (((σ.set i (some (.ref e))).set j (some (.ref e))).set i none) (upd H e (ErrO cls e))) ∧ (b = false → Wout cls d σ H)
theorem ps_try_keep {x n y : Str} {c : Value} {i j : Nat} {body : List Stmt} {np py pn1 pas pos' pos : Pos} {tb : WX → TS} {Wout : WX} (hs : X.stack = X.env :: X.outer) (hf : X.env.frame = some X.env.locals) (hex : X.ex = []) (hN : X.N.Nodup) (hi : X.N[i]? = some n) (hj : X.N[j]? = some y)
    (hln : X.env.kindOf n = some .local) (hly : X.env.kindOf y = some .local) (hc : Names X x c) (tk : Takes X Wout)
    (hb : ∀ (W : WX) (pn : List (Addr × Obj)) (xe : Value → Shared → Prop), Takes (X.tr pn xe) W → PassesOwn (model X.prog X.w) X.A X.env xe → PSs (X.tr pn xe) body (tb W))
    (hd1 : (n == ("__debug__" : Str)) = false := by decide) (hd2 : (n == ("__classdict__" : Str)) = false := by decide) :
    PS X (.Try body [.ExceptHandler (some (.Name x np)) (some n) [.Assign [.Name y py] (.Name n pn1) pas] pos'] [] [] pos) (fun D σ H => tb (wKeep X.K c i j Wout D) D σ H) := by
  refine ⟨fun pins s σ H D I h => wpAny_Try_except ?_⟩
  have ok := I.ok
  have fra : X.A.frames = some (X.env :: X.outer) := ok.frames.trans (by rw [hs])
  refine wpAny_mono ((hb (wKeep X.K c i j Wout D) (X.pn ++ pins) _ ?taken PassesOwn.looking).run [] s σ H D (I.toTry _) h) (fun fl t hfl => ?_) fun e t he => he
  case taken =>
    intro u t xx
    obtain ⟨e, G, s1, pins1, σ1, H1, cls, d, rfl, J0, hG, up, sky, hn, hos, hbare, b, hexm, yes, no⟩ := xx
    have J1 : Inv X pins σ1 H1 s1 := J0.ofTry ok
    refine Sky.land Zc.steady fra hf (by rw [← hs]; exact sky) fun h2 fly2 up2 => ?_
    have J2 : Inv X pins σ1 H1 { t with heap := h2 } := J1.landed hG fly2.1 (up.trans up2) hos hbare
    obtain ⟨ob2, vs2, get2, zc2, dat2⟩ := fly2.there
    have nofrm : e ∉ frs (X.env :: X.outer) := fun hm => by
      obtain ⟨_, o, ho, hno⟩ := fly2.2.2.1.mem hm
      rw [get2] at ho
      cases ho
      exact hno _ dat2
    have nloc : e ≠ X.env.locals := fun z => nofrm (List.mem_filterMap.mpr ⟨X.env, List.mem_cons_self, by rw [hf, z]⟩)
    have nfs : e ∉ X.fs := fun hm => by
      obtain ⟨v, hv, q⟩ := List.mem_filterMap.mp hm
      exact nofrm (List.mem_filterMap.mpr ⟨v, List.mem_cons_of_mem _ hv, q⟩)
    have fresh1 : s1.heap.get? e = none := by
      cases q : s1.heap.get? e with
      | none => rfl
      | some o =>
        have k := hG e o q (by rw [hs]; exact nofrm)
        rw [fly2.2.1] at k
        cases k
    have fresh0 : X.s_0.heap.get? e = none := by
      cases q : X.s_0.heap.get? e with
      | none => rfl
      | some o =>
        obtain ⟨o', k⟩ := J1.base.there e o q (by rw [hex]; exact List.not_mem_nil)
        rw [fresh1] at k
        cases k
    have ncell : ∀ z cc, X.env.cells.lookup z = some cc → cc ≠ e := fun z cc hz w => by
      obtain ⟨v, o, ho, _⟩ := J1.cell z cc hz
      rw [w, fresh1] at ho
      cases ho
    have npin : ∀ p ∈ X.pn ++ pins, p.1 ≠ e := fun p hp w => by
      have k := (J1.pin p hp).1
      rw [w, fresh1] at k
      cases k
    have S2 := J2.suite get2 dat2 hn nloc nfs
    refine wpAny_handleBy_cons (codeAny_handlers_test ?_) fun z => nomatch z
    have looks : PySem.W.Looks (model X.prog X.w) h2 (typeOf (.ref e)) cls := fun A Q E s k q => wpAny_typeOf_ref (k _ _ get2) (by rw [zc2.1]; exact q)
    have isIn := PySem.W.exm_one (M := model X.prog X.w) J2.kIn looks hexm
    have named : ∀ {Q : Value → Shared → Prop} {E : Value → Shared → Prop}, Q c { t with heap := h2 } → wpAny (model X.prog X.w) (X.A.mark (some (.ref e))) (eval (.Name x np) X.env) Q E { t with heap := h2 } := fun q => by
      rcases hc with ⟨g1, g2, g3 | ⟨g3, g4, g5⟩⟩
      · exact ld_glob (X := X.suite e ((e, ob2) :: (X.pn ++ pins))) S2 g1 g3 q g2
      · exact ld_blt (X := X.suite e ((e, ob2) :: (X.pn ++ pins))) S2 g1 g3 g4 q g5 g2
    refine named (isIn.here ?_)
    cases b with
    | false =>
      show wpAny _ X.A (handleBy (.ref e) X.env []) _ _ _
      obtain ⟨_, _, _, ob, fs, T, oT, tf, ge, ze, de, h1, _⟩ := id fly2
      refine wpAny_handleBy_nil ?_
      unfold PySem.passOn
      refine wpAny_bind (wpAny_field ge de h1 ?_)
      rw [if_neg (show ¬ (Value.ref T == Value.none) = true from by simp)]
      have out : wpAny (model X.prog X.w) X.A (setFlight (.ref e) X.env.frame) (fun _ s4 => wpAny (model X.prog X.w) X.A (throw (.ref e) : Sem Flow) (SP X pins D) X.xe s4) X.xe { t with heap := h2 } := by
        rw [hf]
        exact HandSPX.setFlight_upZ fly2 fun h4 held up4 => wpAny_throw (tk _ _ ⟨e, G, s1, pins, σ1, H1, cls, d, rfl, J1, hG, (up.trans up2).trans up4, .inr (.inr (by rw [hs]; exact held)), hn, hos, hbare, no rfl⟩)
      first
        | exact wpAny_bind (wpAny_pure (wpAny_bind out))
        | exact wpAny_bind out
    | true =>
      obtain ⟨rfl, go⟩ := yes rfl
      refine codeAny_handlers_suite_as (HandSPX.lands_againZ fly2 fun h4 fly4 up4 => ?_)
      have J4 : Inv X pins σ1 H1 { t with heap := h4 } := J1.landed hG fly4.1 ((up.trans up2).trans up4) hos hbare
      obtain ⟨ob4, vs4, get4, zc4, dat4⟩ := fly4.there
      have S4 := J4.suite get4 dat4 hn nloc nfs
      refine store_ok (X := X.suite e ((e, ob4) :: (X.pn ++ pins))) (v := .ref e) S4 hN hi (.inl hln) rfl (fun s5 S5 => ?_) (.inr hln)
      have body1 : PSs (X.suite e ((e, ob4) :: (X.pn ++ pins))) [.Assign [.Name y py] (.Name n pn1) pas] (tAsg (tVar i) (gName j)) := pss_one (ps_set hN hj (.inl hly) (pe_var hi (.inl hln) hd1 hd2) (by rfl) (.inr hly))
      have hlenσ : σ1.length = X.N.length := J1.len
      have hil : i < X.N.length := (List.getElem?_eq_some_iff.mp hi).1
      refine wpAny_mono (body1.run [] s5 _ H1 { nx := fun σ6 H6 => σ6 = (σ1.set i (some (.ref e))).set j (some (.ref e)) ∧ H6 = H1, rt := fun _ _ => False } S5 ⟨.ref e, by rw [List.getElem?_set_self (by omega)], rfl, rfl⟩) (fun fl s6 hfl => ?_) fun _ _ z => False.elim z
      cases fl with
      | ret v =>
        obtain ⟨_, _, _, _, _, q⟩ := hfl
        exact False.elim q
      | brk =>
        obtain ⟨_, _, _, q⟩ := hfl
        exact False.elim q
      | cont =>
        obtain ⟨_, _, _, q⟩ := hfl
        exact False.elim q
      | next =>
        obtain ⟨σ6, H6, S6, rfl, rfl⟩ := hfl
        have J6 : Inv X ((e, ob4) :: pins) ((σ1.set i (some (.ref e))).set j (some (.ref e))) H6 s6 :=
          ⟨ok, S6.os, S6.bare, S6.base, S6.loc, S6.cell, S6.free, S6.freeC, fun p hp => S6.pin p (List.mem_append_left _ ((List.mem_append.mp hp).elim (fun q => List.mem_cons_of_mem _ (List.mem_append_left _ q)) fun q => (List.mem_cons.mp q).elim (fun z => by rw [z]; exact List.mem_cons_self) fun z => List.mem_cons_of_mem _ (List.mem_append_right _ z))), S6.hok, S6.len⟩
        exact gone_ok J6 hN hi hln fun s7 J7 => ⟨_, _, tracked_err J7 zc4 ⟨_, dat4⟩ fresh0 ncell npin, go e hn⟩
  case _ =>
    cases fl with
    | next =>
      obtain ⟨σ', H', J', q⟩ := hfl
      exact wpAny_execs_nil ⟨σ', H', J'.ofTry ok, q⟩
    | brk =>
      obtain ⟨σ', H', J', q⟩ := hfl
      exact ⟨σ', H', J'.ofTry ok, q⟩
    | cont =>
      obtain ⟨σ', H', J', q⟩ := hfl
      exact ⟨σ', H', J'.ofTry ok, q⟩
    | ret u =>
      obtain ⟨v, σ', H', J', r, q⟩ := hfl
      exact ⟨v, σ', H', J'.ofTry ok, r, q⟩
/-- isinstance(e, c) of such an error -/
def rIsX (K : PySem.W.Frag) : List V → Hp → VK → Prop := fun vs H Q => ∃ (e D : Addr) (c : V) (u : Value) (b : Bool), vs = [.ref e, c] ∧ H e = some (ErrO (.ref D) e) ∧ ExcC K D ∧ ClsV c u ∧ PySem.W.kitOne K (.ref D) u = some b ∧ Q (.bl b) H
theorem isxK {K : PySem.W.Frag} (hK : X.K = K) : CallR X (.builtin "isinstance") (rIsX K) := by
  subst hK
  intro pins s σ H xs us Q I r h
  obtain ⟨e, D, c, u, b, rfl, he, C, hc, hk, q⟩ := h
  obtain ⟨u1, u2, rfl, r1, r2⟩ := vals2 r
  obtain rfl : u1 = Value.ref e := r1
  obtain rfl := hc.eq r2
  obtain ⟨⟨ob, g, ⟨z1, z2⟩, fs, df⟩, _, _⟩ := I.hok e _ he
  have at1 : PySem.W.InstAt s.heap e ob D none := by
    obtain ⟨k1, k2, k3, k4⟩ := ob
    simp only at z1 z2 df
    subst z1 z2 df
    exact ⟨g, rfl, rfl, trivial⟩
  exact PySem.W.kia_one (PySem.W.handS_kitx_exc C.hg C.hk C.hs C.hd C.ha C.hn C.ht C.hm) I.kIn at1 hk (fun z => nomatch z) fun tk => ⟨.bl b, H, I.kept (t' := tk) fun _ _ z => z, rfl, q⟩
end
/-- isinstance's answer of a class, by the top's facts -/
theorem kit_same {K : PySem.W.Frag} {D : Addr} : PySem.W.kitOne K (.ref D) (.ref D) = some true := if_pos (by simp)
theorem kit_own {K : PySem.W.Frag} {D C : Addr} {b : Bool} (hn : (Value.ref D == Value.ref C) = false) (hd : PySem.W.hasDictIn K C = true) (ht : PySem.W.typeIn K (.ref C) = some (.type "type")) (hs : PySem.W.subIn K (.ref D) (.ref C) = some b) : PySem.W.kitOne K (.ref D) (.ref C) = some b := by
  obtain ⟨cd, hc, _⟩ := PySem.W.any_some hd
  have e2 : ((PySem.W.clsIn K C).isSome && PySem.W.typeIn K (.ref C) == some (.type "type")) = true := by
    rw [hc, ht]
    rfl
  unfold PySem.W.kitOne
  rw [if_neg (by rw [hn]; exact Bool.false_ne_true)]
  show (if _ then _ else _) = _
  rw [if_pos e2]
  exact hs
theorem kit_built {K : PySem.W.Frag} {D : Addr} {T : String} {b : Bool} (hm : PySem.W.kitMeta T = true) (hs : PySem.W.subIn K (.ref D) (.type T) = some b) : PySem.W.kitOne K (.ref D) (.type T) = some b := by
  unfold PySem.W.kitOne
  rw [if_neg (by intro z; cases z)]
  show (if _ then _ else _) = _
  rw [if_pos hm]
  exact hs
end XP
/-! ## More words: tuples, methods by value, displays of new things, ranges from a number on -/
namespace XP
open PySem PySem.Spec PyProof.Rows L2 Evl
section
variable {K : PySem.W.Frag} {σ : L2.St} {H H' : Hp} {ta tb te tx : TE} {t u : TT} {x y z v : V} {r : R2} {a b p : Addr} {xs ys : List Int} {i j : Int} {D : Ends} {tz tu tw : TS}
/-- a method of a list, by value -/
theorem ev_bmL {m : V → List V → Hp → VK → Prop} {l : Addr} {zs vs : List V} {tr : TA} (ha : Ev ta σ H (.ref l)) (hl : SqL K H l zs) (ht : EvA tr σ H vs) (hm : ∀ H1, Ex H H1 → ∀ Q : VK, Q z H1 → m (.ref l) vs H1 Q) : Ev (tBM K "list" m ta tr) σ H z := fun H1 e Q q =>
  ha H1 e _ fun H2 e2 => ⟨.inl ⟨rfl, zs, ex_l (e.trans e2) hl⟩, ht H2 (e.trans e2) _ fun H3 e3 => hm H3 ((e.trans e2).trans e3) Q (q H3 (e2.trans e3))⟩
theorem ev_countB {l : Addr} {bs : List Bool} {k : Bool} {tr : TA} (ha : Ev ta σ H (.ref l)) (hl : SqL K H l (bs.map V.bl)) (ht : EvA tr σ H [.bl k]) : Ev (tBM K "list" (rCountB K) ta tr) σ H (.int ((bs.count k : Nat) : Int)) :=
  ev_bmL ha hl ht fun H1 e _ q => ⟨l, bs, k, rfl, rfl, ex_l e hl, q⟩
theorem ev_indexB {l : Addr} {bs : List Bool} {k : Bool} {n : Nat} {tr : TA} (ha : Ev ta σ H (.ref l)) (hl : SqL K H l (bs.map V.bl)) (ht : EvA tr σ H [.bl k]) (hn : bs[n]? = some k) (hno : ∀ m c, m < n → bs[m]? = some c → c ≠ k) : Ev (tBM K "list" (rIndex K) ta tr) σ H (.int (n : Int)) :=
  ev_bmL ha hl ht fun H1 e _ q => ⟨l, bs.map V.bl, .bl k, n, .bl k, rfl, rfl, ex_l e hl, rfl, List.all_eq_true.mpr fun d hd => by
    obtain ⟨c, _, rfl⟩ := List.mem_map.mp hd
    rfl, by rw [List.getElem?_map, hn]; rfl, by cases k <;> rfl, fun m z' hm hz => by
    rw [List.getElem?_map] at hz
    cases hc : bs[m]? with
    | none => rw [hc] at hz; cases hz
    | some c =>
      rw [hc] at hz
      cases hz
      have := hno m c hm hc
      revert this
      cases c <;> cases k <;> simp [eqV], q⟩
/-- isinstance of an error -/
theorem rc_isx {e D : Addr} {c : V} {w : Value} {k : Bool} (he : H e = some (ErrO (.ref D) e)) (C : ExcC K D) (hc : ClsV c w) (hk : PySem.W.kitOne K (.ref D) w = some k) : RC (rIsX K) [.ref e, c] H (.bl k) := fun H1 ex _ q =>
  ⟨e, D, c, w, k, rfl, ex _ _ he, C, hc, hk, q H1 (Ex.refl H1)⟩
/-- t[i] of a tuple -/
theorem ev_ixT {l : Addr} {zs : List V} {n : Nat} (ha : Ev ta σ H (.ref l)) (hb : Ev tb σ H (.int (n : Int))) (h : H l = some (.tup zs)) (hn : zs[n]? = some v) : Ev (tOp (rIxT K) ta tb) σ H v := ev_op ha hb (rv_ixT (st_of h) (atI_nat hn))
/-- a choice between two new tuples -/
theorem eu_if {c : Bool} {zs : List V} (h : EvT t σ H c) (h1 : c = true → EvU ta σ H zs) (h2 : c = false → EvU tb σ H zs) : EvU (tIf t ta tb) σ H zs := fun H1 e Q q => h H1 e _ fun H2 e2 => by
  cases c with
  | true => exact h1 rfl H2 (e.trans e2) Q fun p H3 hp e3 h3 => q p H3 (fresh_back e2 hp) (e2.trans e3) h3
  | false => exact h2 rfl H2 (e.trans e2) Q fun p H3 hp e3 h3 => q p H3 (fresh_back e2 hp) (e2.trans e3) h3
def SpU (sp : Sp) (vs : List V) (H : Hp) (zs : List V) : Prop := ∀ H1, Ex H H1 → ∀ Q : VK, (∀ p H2, H1 p = none → Ex H1 H2 → H2 p = some (.tup zs) → Q (.ref p) H2) → ∀ E : XK, sp vs H1 Q E
theorem eu_call {sp : Sp} {dvs vs zs : List V} {E : XK} {tr : TA} (h : EvA tr σ H vs) (hs : SpU sp (vs ++ dvs) H zs) : EvU (tCall sp dvs E tr) σ H zs := fun H1 e Q q =>
  h H1 e _ fun H2 e2 => hs H2 (e.trans e2) Q (fun p H3 hp e3 h3 => q p H3 (fresh_back e2 hp) (e2.trans e3) h3) E
def RetU (zs : List V) (H : Hp) (Q : VK) : Prop := ∀ p H2, H p = none → Ex H H2 → H2 p = some (.tup zs) → Q (.ref p) H2
/-- values of which P is known -/
def EvAP (tr : TA) (σ : L2.St) (H : Hp) (P : List V → Hp → Prop) : Prop := ∀ H1, Ex H H1 → ∀ Q : List V → Hp → Prop, (∀ vs H2, Ex H1 H2 → P vs H2 → Q vs H2) → tr σ H1 Q
def Mono {α : Type} (P : α → Hp → Prop) : Prop := ∀ c H1 H2, Ex H1 H2 → P c H1 → P c H2
theorem eap_nil : EvAP tNil σ H (fun vs _ => vs = []) := fun H1 _ _ q => q [] H1 (Ex.refl H1) rfl
theorem eap_cons {tr : TA} {P : List V → Hp → Prop} (h : Ev te σ H x) (hr : EvAP tr σ H P) : EvAP (tCons te tr) σ H (fun vs H' => ∃ us, vs = x :: us ∧ P us H') := fun H1 e _ q =>
  h H1 e _ fun H2 e2 => hr H2 (e.trans e2) _ fun us H3 e3 hp => q _ H3 (e2.trans e3) ⟨us, rfl, hp⟩
theorem eap_consL {tr : TA} {P : List V → Hp → Prop} {zs : List V} (h : EvL te σ H zs) (hr : EvAP tr σ H P) : EvAP (tCons te tr) σ H (fun vs H' => ∃ p us, vs = .ref p :: us ∧ H p = none ∧ H' p = some (.lst zs) ∧ P us H') := fun H1 e _ q =>
  h H1 e _ fun p H2 np e2 hp => hr H2 (e.trans e2) _ fun us H3 e3 hP => q _ H3 (e2.trans e3) ⟨p, us, rfl, fresh_back e np, e3 _ _ hp, hP⟩
theorem ep_lst {tr : TA} {P : List V → Hp → Prop} (h : EvAP tr σ H P) (hm : Mono P) (hl : ∀ vs H', P vs H' → vs.length ≤ 100000) : EvP (tLst tr) σ H (fun v H' => ∃ p vs, v = .ref p ∧ H p = none ∧ H' p = some (.lst vs) ∧ P vs H') := fun H1 e Q q =>
  h H1 e _ fun vs H2 e2 hp => ⟨sz_of (hl _ _ hp), fun p np => q _ _ (e2.trans (Ex.new np)) ⟨p, vs, rfl, fresh_back (e.trans e2) np, upd_same, hm _ _ _ (Ex.new np) hp⟩⟩
theorem mono_nil : Mono (fun (vs : List V) (_ : Hp) => vs = []) := fun _ _ _ _ h => h
theorem mono_cons {P : List V → Hp → Prop} (h : Mono P) : Mono (fun (vs : List V) (H' : Hp) => ∃ us, vs = x :: us ∧ P us H') := fun _ _ _ e ⟨us, h1, h2⟩ => ⟨us, h1, h _ _ _ e h2⟩
theorem mono_consL {P : List V → Hp → Prop} {zs : List V} (h : Mono P) : Mono (fun (vs : List V) (H' : Hp) => ∃ p us, vs = .ref p :: us ∧ H p = none ∧ H' p = some (.lst zs) ∧ P us H') := fun _ _ _ e ⟨p, us, h1, h2, h3, h4⟩ => ⟨p, us, h1, h2, e _ _ h3, h _ _ _ e h4⟩
/-- a list by a comprehension over range(lo, n) -/
theorem el_lcR2A {tr : TA} {k : Nat} {vs : List Nat} {lo n : Int} (g : Nat → V) (h : EvA tr σ H [.int lo, .int n]) (hn : 0 ≤ lo ∧ lo ≤ 40000 ∧ -40000 ≤ n ∧ n ≤ 40000) (hw : ∀ x, wipe ((wipe σ vs).set k (some x)) vs = wipe σ vs)
    (he : ∀ (i : Nat) H1, Ex H H1 → lo + (i : Int) < n → Ev te ((wipe σ vs).set k (some (.int (lo + (i : Int))))) H1 (g i)) :
    EvL (tLc (iRng2 tr) (gName k) tYes te vs) σ H ((List.range (n - lo).toNat).map g) := fun H0 e Q q =>
  h H0 e _ fun H1 e1 => ⟨lo, n, rfl, ⟨by omega, by omega, by omega, by omega⟩, fun Dl hD =>
    lc_range (lo := lo) (n := (n - lo).toNat) (Cw H1 (fun _ => true) g Dl) ⟨hD, Ex.new hD, upd_same⟩ (fun i H2 hi p => ⟨hw _, cw_turn p (by omega) et_yes fun _ => he i H1 (e.trans e1) (by omega)⟩)
      (fun H2 p => q Dl H2 (fresh_back e1 p.1) (e1.trans p.2.1) (by rw [← given_all]; exact p.2.2))⟩
/-- two ways of an if that go on alike are told apart ahead -/
theorem q_else {c : Bool} (h : EvT t σ H c) (h1 : c = true → ∀ H1, Ex H H1 → tu { D with nx := tz D } σ H1) (h2 : c = false → ∀ H1, Ex H H1 → tw { D with nx := tz D } σ H1) : tSeq (tIfS t tu tw) tz D σ H := q_if h h1 h2
end
end XP
/-! ## enumerate and zip_longest: loops and comprehensions whose target is a pair of names -/
namespace XP
open PySem PySem.Spec PyProof.Rows L2 Evl
abbrev g2n (K : PySem.W.Frag) (j k : Nat) : TG := gTup K 2 (gCons (gName j) (gCons (gName k) gNil))
theorem g2_at {K : PySem.W.Frag} {j k : Nat} {T : Addr} {x y : V} {σ : L2.St} {H : Hp} {Q : L2.St → Hp → Prop} (h : H T = some (.tup [x, y])) (q : Q ((σ.set j (some x)).set k (some y)) H) : g2n K j k (.ref T) σ H Q :=
  ⟨T, [x, y], rfl, st_of h, rfl, x, [y], rfl, y, [], rfl, rfl, q⟩
theorem cw_more {H H' H2 : Hp} {f : Nat → Bool} {v : Nat → V} {Dl : Addr} {i : Nat} (p : Cw H f v Dl i H') (e : Ex H' H2) : Cw H f v Dl i H2 := ⟨p.1, p.2.1.trans e, e _ _ p.2.2⟩
/-- over an iterator of new pairs -/
theorem lc_pair {K : PySem.W.Frag} {J : It} {n j k : Nat} {u v val : Nat → V} {f : Nat → Bool} {t : TT} {te : TE} {vs : List Nat} {σ : L2.St} {H1 : Hp} {Dl : Addr} {Qd : Hp → Prop} (hgo : ∀ i H, i < n → Ex H1 H → J.go i H) (hstop : ∀ H, Ex H1 H → J.stop n H)
    (hy : ∀ i H x H', i < n → Ex H1 H → J.yld i H x H' → ∃ T : Addr, x = .ref T ∧ H T = none ∧ H' = upd H T (.tup [u i, v i])) (hn : n ≤ 40000) (hw : ∀ x y, wipe (((wipe σ vs).set j (some x)).set k (some y)) vs = wipe σ vs)
    (ht : ∀ i H2, i < n → Ex H1 H2 → EvT t (((wipe σ vs).set j (some (u i))).set k (some (v i))) H2 (f i)) (he : ∀ i H2, i < n → Ex H1 H2 → f i = true → Ev te (((wipe σ vs).set j (some (u i))).set k (some (v i))) H2 (val i)) (hD : H1 Dl = none)
    (hd : ∀ H, Cw H1 f val Dl n H → Qd H) : ∃ W : Nat → Nat → Hp → Prop, (∃ m, W 0 m (upd H1 Dl (.lst []))) ∧ ∀ i m H, W i m H →
      (J.stop i H ∧ Qd H) ∨ (J.go i H ∧ ∃ Nx : Hp → Prop, (∀ H', Nx H' → ∃ m', m' < m ∧ W (i + 1) m' H') ∧ ∀ x H', J.yld i H x H' → g2n K j k x (wipe σ vs) H' fun σ2 H2 => wipe σ2 vs = wipe σ vs ∧ t σ2 H2 fun b H3 =>
        if b = true then te σ2 H3 fun y H4 => ∃ acc, H4 Dl = some (.lst acc) ∧ acc.length < sizeLine ∧ Nx (upd H4 Dl (.lst (acc ++ [y]))) else Nx H3) := by
  refine ⟨fun i m H => m = n - i ∧ i ≤ n ∧ Cw H1 f val Dl i H, ⟨n, rfl, Nat.zero_le _, hD, Ex.new hD, upd_same⟩, ?_⟩
  rintro i m H ⟨rfl, hi, p⟩
  by_cases hlt : i < n
  · refine .inr ⟨hgo i H hlt p.2.1, Cw H1 f val Dl (i + 1), fun H' p' => ⟨n - (i + 1), by omega, rfl, hlt, p'⟩, fun x H' y => ?_⟩
    obtain ⟨T, rfl, hT, rfl⟩ := hy i H x H' hlt p.2.1 y
    exact g2_at upd_same ⟨hw _ _, cw_turn (cw_more p (Ex.new hT)) (by omega) (ht i H1 hlt (Ex.refl H1)) (he i H1 hlt (Ex.refl H1))⟩
  · obtain rfl : i = n := by omega
    exact .inl ⟨hstop H p.2.1, hd H p⟩
section
variable {K : PySem.W.Frag} {σ : L2.St} {H : Hp} {ta tb te : TE} {t : TT} {a b : Addr} {xs ys : List V} {d : V} {j k : Nat} {vs : List Nat} {D : Ends} {tu tz : TS}
theorem sq_len {K : PySem.W.Frag} {H : Hp} {a : Addr} {xs : List V} : xs.length = xs.length := rfl
/-- [.. for i, x in enumerate(xs)] -/
theorem el_lcE {t1 : TA} (f : Nat → Bool) (val : Nat → V) (h1 : EvA t1 σ H [.ref a]) (hx : SqL K H a xs) (hn : xs.length ≤ 40000) (hw : ∀ x y, wipe (((wipe σ vs).set j (some x)).set k (some y)) vs = wipe σ vs)
    (ht : ∀ i z H2, xs[i]? = some z → Ex H H2 → EvT t (((wipe σ vs).set j (some (.int (i : Nat)))).set k (some z)) H2 (f i))
    (he : ∀ i z H2, xs[i]? = some z → Ex H H2 → f i = true → Ev te (((wipe σ vs).set j (some (.int (i : Nat)))).set k (some z)) H2 (val i)) :
    EvL (tLc (iEnum K t1) (g2n K j k) t te vs) σ H (given xs.length f val) := fun H0 e Q q =>
  h1 H0 e _ fun H1 e1 => by
    have e01 := e.trans e1
    refine ⟨a, xs, rfl, ex_l e01 hx, fun Dl hD => ?_⟩
    have at' : ∀ i, i < xs.length → xs[i]? = some (xs[i]?.getD .non) := fun i hi => by rw [List.getElem?_eq_getElem hi]; rfl
    refine lc_pair (n := xs.length) (u := fun i => .int (i : Nat)) (v := fun i => xs[i]?.getD .non) (f := f) (val := val) (fun i H3 hi e3 => ⟨xs, _, ex_l (e01.trans e3) hx, at' i hi⟩) (fun H3 e3 => ⟨xs, ex_l (e01.trans e3) hx, Nat.le_refl _⟩)
      (fun i H3 x H4 hi e3 y => ?_) hn hw (fun i H3 hi e3 => ht i _ H3 (at' i hi) (e01.trans e3)) (fun i H3 hi e3 => he i _ H3 (at' i hi) (e01.trans e3)) hD (fun H3 p => q Dl H3 (fresh_back e1 p.1) (e1.trans p.2.1) p.2.2)
    obtain ⟨T, x', rfl, hT, rfl, k1⟩ := y
    exact ⟨T, rfl, hT, by rw [k1 xs (ex_l (e01.trans e3) hx)]; rfl⟩
/-- for i, x in enumerate(xs) -/
theorem for_enum {Pv : Nat → L2.St → Hp → Prop} (h0 : Pv 0 σ H) (hl : ∀ i σ' H', i ≤ xs.length → Pv i σ' H' → SqL K H' a xs)
    (hs : ∀ i x T σ' H', xs[i]? = some x → Pv i σ' H' → H' T = none → tu { D with nx := Pv (i + 1), ct := Pv (i + 1), bk := D.nx } ((σ'.set j (some (.int (i : Nat)))).set k (some x)) (upd H' T (.tup [.int (i : Nat), x]))) (hd : ∀ σ' H', Pv xs.length σ' H' → D.nx σ' H') :
    ∃ W : Nat → Nat → L2.St → Hp → Prop, (∃ m, W 0 m σ H) ∧ ∀ i m σ H, W i m σ H →
      ((Ite K a).stop i H ∧ D.nx σ H) ∨ ((Ite K a).go i H ∧ ∃ N : L2.St → Hp → Prop, (∀ σ' H', N σ' H' → ∃ m', m' < m ∧ W (i + 1) m' σ' H') ∧ ∀ x H', (Ite K a).yld i H x H' → g2n K j k x σ H' fun σ2 H2 => tu { D with nx := N, ct := N, bk := D.nx } σ2 H2) := by
  refine ⟨fun i m σ H => m = xs.length - i ∧ i ≤ xs.length ∧ Pv i σ H, ⟨xs.length, rfl, Nat.zero_le _, h0⟩, ?_⟩
  rintro i m σ H ⟨rfl, hi, p⟩
  have q := hl i σ H hi p
  by_cases hlt : i < xs.length
  · refine .inr ⟨⟨xs, xs[i], q, by simp [hlt]⟩, Pv (i + 1), fun σ' H' p' => ⟨xs.length - (i + 1), by omega, rfl, hlt, p'⟩, fun x H' y => ?_⟩
    obtain ⟨T, z, rfl, hT, rfl, k1⟩ := y
    exact g2_at upd_same (hs i z T σ H (k1 xs q) p hT)
  · obtain rfl : i = xs.length := by omega
    exact .inl ⟨⟨xs, q, Nat.le_refl _⟩, hd σ H p⟩
/-- for i, x in enumerate(..), the list new -/
theorem q_forEN {Pv : Addr → Nat → L2.St → Hp → Prop} (h : EvL te σ H xs) (h0 : ∀ p H1, H p = none → Ex H H1 → H1 p = some (.lst xs) → Pv p 0 σ H1) (hl : ∀ p i σ' H', i ≤ xs.length → Pv p i σ' H' → SqL K H' p xs)
    (hs : ∀ p i x σ' H' H2, xs[i]? = some x → Pv p i σ' H' → Ex H' H2 → tu { D with nx := Pv p (i + 1), ct := Pv p (i + 1), bk := tz D } ((σ'.set j (some (.int (i : Nat)))).set k (some x)) H2) (hd : ∀ p σ' H', Pv p xs.length σ' H' → tz D σ' H') :
    tSeq (tFor (iEnum K (tCons te tNil)) (g2n K j k) tu) tz D σ H := h H (Ex.refl H) _ fun p H1 hp e h1 =>
  ⟨p, xs, rfl, sq_of h1, for_enum (D := { D with nx := tz D }) (Pv := Pv p) (h0 p H1 hp e h1) (hl p) (fun i x T σ' H' hx pv hT => hs p i x σ' H' _ hx pv (Ex.new hT)) (hd p)⟩
end
end XP
/-! ## Lists of lists, tuples of a text and a plain value; more words -/
namespace XP
open PySem PySem.Spec PyProof.Rows L2 Evl
def ldat (xs : List Int) : PyData := .list (xs.map PyData.int)
theorem ldat_depths : ∀ xss : List (List Int), PyData.depthAll (xss.map ldat) ≤ 1
  | [] => by simp [PyData.depthAll]
  | xs :: r => by
    have ih := ldat_depths r
    simp only [List.map_cons, PyData.depthAll, ldat, PyData.depth, PySem.W.ke_depthAll]
    omega
theorem ldat_lays : ∀ xss : List (List Int), PyData.canLayAll0 (xss.map ldat) = true
  | [] => by simp [PyData.canLayAll0]
  | xs :: r => by simp [PyData.canLayAll0, PyData.canLay0, ldat, PySem.W.ke_canLayAll0, ldat_lays r]
theorem shaped_lls (xss : List (List Int)) : SeqAt.shaped (.list (xss.map ldat)) = true := by
  have h := ldat_depths xss
  have h2 := ldat_lays xss
  simp only [SeqAt.shaped, PyData.canLay0, PyData.depth, h2, Bool.true_and, decide_eq_true_eq]
  exact decide_eq_true (Nat.le_trans (Nat.succ_le_succ h) (show 2 ≤ 64 by decide))
theorem eqvAll_lls : ∀ xss yss : List (List Int), PyData.eqvAll (xss.map ldat) (yss.map ldat) = decide (xss = yss)
  | [], [] => by simp [PyData.eqvAll]
  | [], _ :: _ => by simp [PyData.eqvAll]
  | _ :: _, [] => by simp [PyData.eqvAll]
  | xs :: r, ys :: t => by
    show (PyData.eqv (ldat xs) (ldat ys) && PyData.eqvAll (r.map ldat) (t.map ldat)) = _
    rw [eqvAll_lls r t]
    unfold ldat
    rw [eqv_ints, Bool.eq_iff_iff]
    simp
theorem eqv_lls (xss yss : List (List Int)) : PyData.eqv (.list (xss.map ldat)) (.list (yss.map ldat)) = decide (xss = yss) := by
  simp only [PyData.eqv]
  exact eqvAll_lls xss yss
/-- lists of whole numbers stand at the places zs -/
inductive Lls (H : Hp) : List V → List (List Int) → Prop
  | nil : Lls H [] []
  | cons {p : Addr} {xs : List Int} {zs : List V} {xss : List (List Int)} : Ll H p xs → Lls H zs xss → Lls H (.ref p :: zs) (xs :: xss)
theorem Lls.mono {H H' : Hp} (e : Ex H H') : ∀ {zs : List V} {xss : List (List Int)}, Lls H zs xss → Lls H' zs xss
  | _, _, .nil => .nil
  | _, _, .cons h r => .cons (e _ _ h) (r.mono e)
theorem Lls.dp {K : PySem.W.Frag} {H : Hp} : ∀ {zs : List V} {xss : List (List Int)}, Lls H zs xss → DpAll K H zs (xss.map ldat)
  | _, _, .nil => .nil
  | _, _, .cons h r => .cons (dp_ints h.sq) r.dp
theorem Lls.len {H : Hp} : ∀ {zs : List V} {xss : List (List Int)}, Lls H zs xss → zs.length = xss.length
  | _, _, .nil => rfl
  | _, _, .cons _ r => congrArg (· + 1) r.len
/-- a plain value -/
def scD : V → Option PyData
  | .non => some .none
  | .bl b => some (.bool b)
  | .int i => some (.int i)
  | _ => none
theorem sc_dp {K : PySem.W.Frag} {H : Hp} {x : V} {d : PyData} (h : scD x = some d) : Dp K H x d := by
  cases x <;> cases h
  all_goals first | exact .non | exact .bl _ | exact .int _
theorem sc_ok {x : V} {d : PyData} (h : scD x = some d) : PyData.canLay0 d = true ∧ PyData.depth d = 0 ∧ PyData.eqv d d = true := by
  cases x <;> cases h <;> simp [PyData.canLay0, PyData.depth, PyData.eqv]
section
variable {K : PySem.W.Frag} {σ : L2.St} {H H' : Hp} {ta tb te : TE} {t : TT} {x y z v : V} {r : R2} {a b p : Addr} {D : Ends} {tz : TS}
theorem rv_neLL {zs ws : List V} {xss yss : List (List Int)} (h1 : SqL K H a zs) (h2 : Lls H zs xss) (h3 : SqL K H b ws) (h4 : Lls H ws yss) : RV (rNeD K) (.ref a) (.ref b) H (.bl (!decide (xss = yss))) := fun H1 e Q q =>
  ⟨_, _, .lst (ex_l e h1) (h2.mono e).dp, .lst (ex_l e h3) (h4.mono e).dp, shaped_lls xss, shaped_lls yss, by rw [eqv_lls]; exact q H1 (Ex.refl H1)⟩
theorem rv_eqLL {zs ws : List V} {xss yss : List (List Int)} (h1 : SqL K H a zs) (h2 : Lls H zs xss) (h3 : SqL K H b ws) (h4 : Lls H ws yss) : RV (rEqD K) (.ref a) (.ref b) H (.bl (decide (xss = yss))) := fun H1 e Q q =>
  ⟨_, _, .lst (ex_l e h1) (h2.mono e).dp, .lst (ex_l e h3) (h4.mono e).dp, shaped_lls xss, shaped_lls yss, by rw [eqv_lls]; exact q H1 (Ex.refl H1)⟩
/-- (text, plain value) against its like -/
theorem rv_neTV {t u : Addr} {s : Str} {d : PyData} (h1 : H t = some (.tup [.str s, x])) (h2 : H u = some (.tup [.str s, x])) (hs : PyData.strOk s = true) (hx : scD x = some d) : RV (rNeD K) (.ref t) (.ref u) H (.bl false) := fun H1 e Q q => by
  obtain ⟨k1, k2, k3⟩ := sc_ok hx
  have sh : SeqAt.shaped (.tuple [.str s, d]) = true := by
    unfold SeqAt.shaped
    simp [PyData.canLay0, PyData.canLayAll0, PyData.depth, PyData.depthAll, hs, k1, k2]
  have eq1 : PyData.eqv (.tuple [.str s, d]) (.tuple [.str s, d]) = true := by simp [PyData.eqv, PyData.eqvAll, k3]
  refine ⟨.tuple [.str s, d], .tuple [.str s, d], .tup (st_of (e _ _ h1)) (.cons (.str s) (.cons (sc_dp hx) .nil)), .tup (st_of (e _ _ h2)) (.cons (.str s) (.cons (sc_dp hx) .nil)), sh, sh, ?_⟩
  rw [eq1]
  exact q H1 (Ex.refl H1)
/-- the second operand by what is known of it -/
theorem ev_opP {P : V → Hp → Prop} (ha : Ev ta σ H x) (hb : EvP tb σ H P) (hr : ∀ w H1, Ex H H1 → P w H1 → RV r x w H1 z) : Ev (tOp r ta tb) σ H z := fun H1 e Q q =>
  ha H1 e _ fun H2 e2 => hb H2 (e.trans e2) _ fun w H3 e3 p => hr w H3 ((e.trans e2).trans e3) p H3 (Ex.refl H3) Q fun H4 e4 => q H4 ((e2.trans e3).trans e4)
/-- a choice between two new lists of the same items -/
theorem el_if {c : Bool} {zs : List V} (h : EvT t σ H c) (h1 : c = true → EvL ta σ H zs) (h2 : c = false → EvL tb σ H zs) : EvL (tIf t ta tb) σ H zs := fun H1 e Q q => h H1 e _ fun H2 e2 => by
  cases c with
  | true => exact h1 rfl H2 (e.trans e2) Q fun p H3 hp e3 h3 => q p H3 (fresh_back e2 hp) (e2.trans e3) h3
  | false => exact h2 rfl H2 (e.trans e2) Q fun p H3 hp e3 h3 => q p H3 (fresh_back e2 hp) (e2.trans e3) h3
theorem eap_consU {tr : TA} {P : List V → Hp → Prop} {zs : List V} (h : EvU te σ H zs) (hr : EvAP tr σ H P) : EvAP (tCons te tr) σ H (fun vs H' => ∃ p us, vs = .ref p :: us ∧ H p = none ∧ H' p = some (.tup zs) ∧ P us H') := fun H1 e _ q =>
  h H1 e _ fun p H2 np e2 hp => hr H2 (e.trans e2) _ fun us H3 e3 hP => q _ H3 (e2.trans e3) ⟨p, us, rfl, fresh_back e np, e3 _ _ hp, hP⟩
theorem mono_consU {P : List V → Hp → Prop} {zs : List V} (h : Mono P) : Mono (fun (vs : List V) (H' : Hp) => ∃ p us, vs = .ref p :: us ∧ H p = none ∧ H' p = some (.tup zs) ∧ P us H') := fun _ _ _ e ⟨p, us, h1, h2, h3, h4⟩ => ⟨p, us, h1, h2, e _ _ h3, h _ _ _ e h4⟩
/-- x, y = what a call hands back -/
theorem q_asg2 {j k : Nat} {P : V → Hp → Prop} (h : EvP te σ H P) (hk : ∀ v H1, Ex H H1 → P v H1 → ∃ (T : Addr) (x y : V), v = .ref T ∧ H1 T = some (.tup [x, y]) ∧ tz D ((σ.set j (some x)).set k (some y)) H1) : tSeq (tAsg te (g2n K j k)) tz D σ H :=
  h H (Ex.refl H) _ fun v H1 e p => by
    obtain ⟨T, x, y, rfl, ht, q⟩ := hk v H1 e p
    exact g2_at ht q
theorem cut_upto (zs : List V) (k : Nat) : cutV zs none (some (k : Int)) = zs.take k := by
  unfold cutV
  rw [HT.sIx_none, HT.sIx_nat, List.drop_zero, Nat.sub_zero]
  by_cases h : k ≤ zs.length
  · rw [Nat.min_eq_left h]
  · rw [Nat.min_eq_right (by omega), List.take_length, List.take_of_length_le (by omega)]
theorem cut_butLast (zs : List V) : cutV zs none (some (-1)) = zs.dropLast := by
  unfold cutV
  rw [HT.sIx_none, List.drop_zero, Nat.sub_zero, List.dropLast_eq_take]
  have e : HT.sIx zs.length zs.length (some (-1)) = zs.length - 1 := by
    show (if (-1 : Int) < 0 then ((-1 : Int) + (zs.length : Int)).toNat else min (-1 : Int).toNat zs.length) = zs.length - 1
    rw [if_pos (by decide)]
    omega
  rw [e]
end
section
variable {K : PySem.W.Frag} {σ : L2.St} {H : Hp} {tl : TE} {g : TG} {tu tz : TS} {D : Ends}
/-- over a list of which something is known -/
theorem q_forLP {P : V → Hp → Prop} (h : EvP tl σ H P) (hk : ∀ v H1, Ex H H1 → P v H1 → ∃ (p : Addr) (zs : List V) (Pv : Nat → L2.St → Hp → Prop), v = .ref p ∧ H1 p = some (.lst zs) ∧ Pv 0 σ H1 ∧ (∀ i σ' H', i ≤ zs.length → Pv i σ' H' → SqL K H' p zs) ∧
    (∀ i x σ' H', zs[i]? = some x → Pv i σ' H' → g x σ' H' fun σ2 H2 => tu { D with nx := Pv (i + 1), ct := Pv (i + 1), bk := tz D } σ2 H2) ∧ ∀ σ' H', Pv zs.length σ' H' → tz D σ' H') : tSeq (tFor (iList K tl) g tu) tz D σ H :=
  h H (Ex.refl H) _ fun v H1 e p => by
    obtain ⟨a, zs, Pv, rfl, hz, h0, hl, hs, hd⟩ := hk v H1 e p
    exact ⟨a, rfl, ⟨zs, sq_of hz⟩, for_list (D := { D with nx := tz D }) Pv h0 hl hs hd⟩
end
end XP
/-! ## enumerate of a new list; appending what is known of; lists of new lists -/
namespace XP
open PySem PySem.Spec PyProof.Rows L2 Evl
section
variable {K : PySem.W.Frag} {σ : L2.St} {H H' : Hp} {ta tb te tl : TE} {t : TT} {xs ys : List V} {j k : Nat} {vs : List Nat} {D : Ends} {tu tz : TS}
theorem el_lcEN (f : Nat → Bool) (val : Nat → V) (h : EvL tl σ H xs) (hn : xs.length ≤ 40000) (hw : ∀ x y, wipe (((wipe σ vs).set j (some x)).set k (some y)) vs = wipe σ vs)
    (ht : ∀ i z H2, xs[i]? = some z → Ex H H2 → EvT t (((wipe σ vs).set j (some (.int (i : Nat)))).set k (some z)) H2 (f i))
    (he : ∀ i z H2, xs[i]? = some z → Ex H H2 → f i = true → Ev te (((wipe σ vs).set j (some (.int (i : Nat)))).set k (some z)) H2 (val i)) :
    EvL (tLc (iEnum K (tCons tl tNil)) (g2n K j k) t te vs) σ H (given xs.length f val) := fun H0 e Q q =>
  h H0 e _ fun a H1 _ e1 ha => by
    have e01 := e.trans e1
    have hx : SqL K H1 a xs := sq_of ha
    refine ⟨a, xs, rfl, hx, fun Dl hD => ?_⟩
    have at' : ∀ i, i < xs.length → xs[i]? = some (xs[i]?.getD .non) := fun i hi => by rw [List.getElem?_eq_getElem hi]; rfl
    refine lc_pair (n := xs.length) (u := fun i => .int (i : Nat)) (v := fun i => xs[i]?.getD .non) (f := f) (val := val) (fun i H3 hi e3 => ⟨xs, _, ex_l e3 hx, at' i hi⟩) (fun H3 e3 => ⟨xs, ex_l e3 hx, Nat.le_refl _⟩)
      (fun i H3 x H4 hi e3 y => ?_) hn hw (fun i H3 hi e3 => ht i _ H3 (at' i hi) (e01.trans e3)) (fun i H3 hi e3 => he i _ H3 (at' i hi) (e01.trans e3)) hD (fun H3 p => q Dl H3 (fresh_back e1 p.1) (e1.trans p.2.1) p.2.2)
    obtain ⟨T, x', rfl, hT, rfl, k1⟩ := y
    exact ⟨T, rfl, hT, by rw [k1 xs (ex_l e3 hx)]; rfl⟩
/-- xs.append(e), of e something known -/
theorem s_appP {l : Addr} {zs : List V} {P : V → Hp → Prop} (hl : H l = some (.lst zs)) (ha : Ev ta σ H (.ref l)) (h : EvP te σ H P) (hz : zs.length < 100000) (hk : ∀ v H1, Ex H H1 → P v H1 → D.nx σ (upd H1 l (.lst (zs ++ [v])))) :
    tDrop (tBM K "list" rAppend ta (tCons te tNil)) D σ H := ha H (Ex.refl H) _ fun H1 e1 =>
  ⟨Or.inl ⟨rfl, zs, sq_of (e1 l _ hl)⟩, h H1 e1 _ fun v H2 e2 p => ⟨l, zs, v, rfl, rfl, e2 l _ (e1 l _ hl), sz_lt hz, hk v H2 (e1.trans e2) p⟩⟩
theorem Lls.upd {p : Addr} {o : HO} : ∀ {zs : List V} {xss : List (List Int)}, Lls H zs xss → (∀ z ∈ zs, z ≠ .ref p) → Lls (upd H p o) zs xss
  | _, _, .nil, _ => .nil
  | _, _, .cons (p := q) h r, hz => .cons ((upd_ne fun e => hz _ List.mem_cons_self (by rw [e])).trans h) (r.upd fun z hm => hz z (List.mem_cons_of_mem _ hm))
theorem Lls.snoc {q : Addr} {ns : List Int} (h : Ll H q ns) : ∀ {zs : List V} {xss : List (List Int)}, Lls H zs xss → Lls H (zs ++ [.ref q]) (xss ++ [ns])
  | _, _, .nil => .cons h .nil
  | _, _, .cons h' r => .cons h' (r.snoc h)
theorem Lls.get : ∀ {zs : List V} {xss : List (List Int)} {k : Nat} {x : List Int}, Lls H zs xss → xss[k]? = some x → ∃ q, zs[k]? = some (.ref q) ∧ Ll H q x
  | _, _, 0, _, .cons h _, e => by cases e; exact ⟨_, rfl, h⟩
  | _, _, k + 1, _, .cons _ r, e => r.get (k := k) e
theorem Lls.at {zs : List V} {xss : List (List Int)} {k : Nat} {z : V} (h : Lls H zs xss) (e : zs[k]? = some z) : ∃ (q : Addr) (x : List Int), z = .ref q ∧ xss[k]? = some x ∧ Ll H q x := by
  have hk : k < xss.length := by
    rw [← h.len]
    exact (List.getElem?_eq_some_iff.mp e).1
  obtain ⟨q, h1, h2⟩ := h.get (List.getElem?_eq_getElem hk)
  rw [h1] at e
  cases e
  exact ⟨q, _, rfl, List.getElem?_eq_getElem hk, h2⟩
theorem EvL.p {zs : List V} (h : EvL te σ H zs) : EvP te σ H (fun v H1 => ∃ p : Addr, v = .ref p ∧ H p = none ∧ H1 p = some (.lst zs)) := fun H1 e Q q => h H1 e Q fun p H2 np e2 hp => q _ _ e2 ⟨p, rfl, fresh_back e np, hp⟩
end
section
variable {K : PySem.W.Frag} {σ : L2.St} {H H' : Hp} {ta tb te tl : TE} {t : TT} {xs ys : List V} {a : Addr} {j k : Nat} {vs : List Nat} {D : Ends} {tu tz : TS}
theorem Lls.ne {q : Addr} (hq : H q = none) : ∀ {zs : List V} {xss : List (List Int)}, Lls H zs xss → ∀ z ∈ zs, z ≠ .ref q
  | _, _, .nil, _, hz => by cases hz
  | _, _, .cons (p := p) h r, z, hz => by
    rcases List.mem_cons.mp hz with e | hz
    · rw [e]
      intro e2
      cases e2
      have h' : H q = _ := h
      rw [hq] at h'
      cases h'
    · exact r.ne hq z hz
/-- [a new list for x in xs] -/
theorem el_lcLL (g : Nat → List Int) (h : Ev tl σ H (.ref a)) (hx : SqL K H a xs) (hn : xs.length ≤ 40000) (hw : ∀ x, wipe ((wipe σ vs).set k (some x)) vs = wipe σ vs)
    (he : ∀ i x H2, xs[i]? = some x → Ex H H2 → EvL te ((wipe σ vs).set k (some x)) H2 ((g i).map V.int)) :
    EvP (tLc (iList K tl) (gName k) tYes te vs) σ H (fun v H' => ∃ (Dl : Addr) (zs : List V), v = .ref Dl ∧ H Dl = none ∧ H' Dl = some (.lst zs) ∧ Lls H' zs ((List.range xs.length).map g) ∧ ∀ z ∈ zs, ∃ q : Addr, z = .ref q ∧ H q = none) := fun H0 e Q q =>
  h H0 e _ fun H1 e1 => by
    have e01 := e.trans e1
    refine ⟨a, rfl, ⟨xs, ex_l e01 hx⟩, fun Dl hD => ?_⟩
    refine lc_list (xs := xs) (fun i H' => Ex H1 H' ∧ ∃ zs : List V, H' Dl = some (.lst zs) ∧ Lls H' zs ((List.range i).map g) ∧ ∀ z ∈ zs, z ≠ .ref Dl ∧ ∃ q : Addr, z = .ref q ∧ H1 q = none) ⟨Ex.new hD, [], upd_same, .nil, fun z hz => by cases hz⟩
      (fun i H' _ p => ex_l (e01.trans p.1) hx) (fun i x H' hi p => ⟨hw x, ?_⟩) (fun H' p => ?_)
    · obtain ⟨eH, zs, hDl, hL, hz⟩ := p
      have hlt := lt_of_get hi
      refine et_yes H' (Ex.refl H') _ fun H3 e3 => ?_
      show te _ H3 _
      refine he i x H3 hi (e01.trans (eH.trans e3)) H3 (Ex.refl H3) _ fun r H4 nr e4 hr => ?_
      have hD4 := (e3.trans e4) _ _ hDl
      have hrD : r ≠ Dl := fun z => by
        have := e3 _ _ hDl
        rw [← z, nr] at this
        cases this
      have ll := hL.len
      rw [List.length_map, List.length_range] at ll
      refine ⟨zs, hD4, sz_lt (by omega), ((eH.trans e3).trans e4).mut hD, zs ++ [.ref r], upd_same, ?_, fun z hm => ?_⟩
      · rw [List.range_succ, List.map_append]
        exact ((hL.mono (e3.trans e4)).snoc hr).upd fun y hy => by
          rcases List.mem_append.mp hy with hy | hy
          · exact (hz y hy).1
          · rw [List.mem_singleton.mp hy]
            exact fun e => hrD (by cases e; rfl)
      · rcases List.mem_append.mp hm with hm | hm
        · exact hz z hm
        · rw [List.mem_singleton.mp hm]
          exact ⟨fun e => hrD (by cases e; rfl), r, rfl, fresh_back (eH.trans e3) nr⟩
    · obtain ⟨eH, zs, hDl, hL, hz⟩ := p
      exact q _ _ (e1.trans eH) ⟨Dl, zs, rfl, fresh_back e01 hD, hDl, hL, fun z hm => by
        obtain ⟨q', e1', e2'⟩ := (hz z hm).2
        exact ⟨q', e1', fresh_back e01 e2'⟩⟩
/-- a call whose first argument is a new list -/
theorem el_callL3 {sp : Sp} {E : XK} {zs ws : List V} {tr : TA} {us : List V} (h : EvL te σ H zs) (hb : ∀ H1, Ex H H1 → EvA tr σ H1 us) (hs : ∀ p H1, Ex H H1 → H1 p = some (.lst zs) → SpL sp (.ref p :: us) H1 ws) : EvL (tCall sp [] E (tCons te tr)) σ H ws := fun H1 e Q q =>
  h H1 e _ fun p H2 _ e2 hp => hb H2 (e.trans e2) H2 (Ex.refl H2) _ fun H3 e3 => by
    have := hs p H3 ((e.trans e2).trans e3) (e3 _ _ hp) H3 (Ex.refl H3) Q (fun r H4 nr e4 hr => q r H4 (fresh_back (e2.trans e3) nr) ((e2.trans e3).trans e4) hr) E
    show sp ((V.ref p :: us) ++ []) H3 Q E
    rw [List.append_nil]
    exact this
end
/-! evaluation after which only an older heap is known to stand -/
def Ev0 (H0 : Hp) (te : TE) (σ : L2.St) (H : Hp) (v : V) : Prop := ∀ H1, Ex H H1 → ∀ Q : VK, (∀ H2, Ex H0 H2 → Q v H2) → te σ H1 Q
def EvT0 (H0 : Hp) (t : TT) (σ : L2.St) (H : Hp) (b : Bool) : Prop := ∀ H1, Ex H H1 → ∀ Q : Bool → Hp → Prop, (∀ H2, Ex H0 H2 → Q b H2) → t σ H1 Q
section
variable {K : PySem.W.Frag} {σ : L2.St} {H H' H0 : Hp} {ta tb te tl : TE} {t u : TT} {xs ys : List V} {v : V} {a b : Bool} {D : Ends} {tu tz : TS}
theorem ev0_call {sp : Sp} {vs : List V} {E : XK} {tr : TA} (h : EvA tr σ H vs) (hs : ∀ H1, Ex H H1 → ∀ Q : VK, (∀ H2, Ex H0 H2 → Q v H2) → ∀ E : XK, sp (vs ++ []) H1 Q E) : Ev0 H0 (tCall sp [] E tr) σ H v := fun H1 e Q q =>
  h H1 e _ fun H2 e2 => hs H2 (e.trans e2) Q q E
theorem et0_B (h : Ev0 H0 te σ H (.bl b)) : EvT0 H0 (tB te) σ H b := fun H1 e Q q => h H1 e _ fun H2 e2 => ⟨b, rfl, q H2 e2⟩
theorem et0_not (h : EvT0 H0 t σ H b) : EvT0 H0 (tNot t) σ H (!b) := fun H1 e Q q => h H1 e _ fun H2 e2 => q H2 e2
theorem et0_andT (h : EvT t σ H true) (h2 : EvT0 H0 u σ H b) : EvT0 H0 (tAnd t u) σ H b := fun H1 e Q q => h H1 e _ fun H2 e2 => by
  show u σ H2 Q
  exact h2 H2 (e.trans e2) Q q
theorem et0_orF (h : EvT t σ H false) (h2 : EvT0 H0 u σ H b) : EvT0 H0 (tOr t u) σ H b := fun H1 e Q q => h H1 e _ fun H2 e2 => by
  show u σ H2 Q
  exact h2 H2 (e.trans e2) Q q
theorem s_when0 (h : EvT0 H0 t σ H false) (hk : ∀ H1, Ex H0 H1 → D.nx σ H1) : tIfS t tu tNext D σ H := h H (Ex.refl H) _ fun H1 e => by
  show tNext D σ H1
  exact hk H1 e
theorem eap_consP {tr : TA} {P1 : V → Hp → Prop} {P : List V → Hp → Prop} (h : EvP te σ H P1) (hm : ∀ v H1 H2, Ex H1 H2 → P1 v H1 → P1 v H2) (hr : EvAP tr σ H P) : EvAP (tCons te tr) σ H (fun vs H' => ∃ x us, vs = x :: us ∧ P1 x H' ∧ P us H') := fun H1 e _ q =>
  h H1 e _ fun x H2 e2 p => hr H2 (e.trans e2) _ fun us H3 e3 hP => q _ H3 (e2.trans e3) ⟨x, us, rfl, hm _ _ _ e3 p, hP⟩
theorem ep_tup {tr : TA} {P : List V → Hp → Prop} (h : EvAP tr σ H P) (hm : Mono P) (hl : ∀ vs H', P vs H' → vs.length ≤ 100000) : EvP (tTup tr) σ H (fun v H' => ∃ p vs, v = .ref p ∧ H p = none ∧ H' p = some (.tup vs) ∧ P vs H') := fun H1 e Q q =>
  h H1 e _ fun vs H2 e2 hp => ⟨sz_of (hl _ _ hp), fun p np => q _ _ (e2.trans (Ex.new np)) ⟨p, vs, rfl, fresh_back (e.trans e2) np, upd_same, hm _ _ _ (Ex.new np) hp⟩⟩
theorem mono_consP {P1 : V → Hp → Prop} {P : List V → Hp → Prop} (hm : ∀ v H1 H2, Ex H1 H2 → P1 v H1 → P1 v H2) (h : Mono P) : Mono (fun (vs : List V) (H' : Hp) => ∃ x us, vs = x :: us ∧ P1 x H' ∧ P us H') := fun _ _ _ e ⟨x, us, h1, h2, h3⟩ => ⟨x, us, h1, hm _ _ _ e h2, h _ _ _ e h3⟩
theorem atI_end {zs : List V} {n : Nat} {z : V} (h : zs[n]? = some z) (hl : zs.length = n + 1) : atI zs (-1) = some z := by
  have hne : zs ≠ [] := fun e => by
    rw [e] at hl
    cases hl
  have e := List.dropLast_concat_getLast hne
  have e2 : zs.getLast hne = z := by
    rw [List.getLast_eq_getElem]
    have h2 := (List.getElem?_eq_some_iff.mp h).2
    rw [← h2]
    congr 1
    omega
  rw [e2] at e
  rw [← e]
  exact atI_last _ _
theorem Lls.put {q : Addr} {y : List Int} : ∀ {zs : List V} {xss : List (List Int)} {i : Nat}, Lls H zs xss → zs.Nodup → zs[i]? = some (.ref q) → Lls (L2.upd H q (.lst (y.map V.int))) zs (xss.set i y)
  | _, _, _, .nil, _, h => by cases h
  | _, _, 0, .cons (p := p) _ r, hn, e => by
    cases e
    obtain ⟨h1, h2⟩ := List.nodup_cons.mp hn
    exact .cons upd_same (r.upd fun z hz => fun e => h1 (by rw [← e]; exact hz))
  | _, _, i + 1, .cons (p := p) (zs := zs) h r, hn, e => by
    obtain ⟨h1, h2⟩ := List.nodup_cons.mp hn
    have e' : zs[i]? = some (V.ref q) := e
    have hpq : p ≠ q := fun z => by
      rw [z] at h1
      exact h1 (List.mem_of_getElem? e')
    exact .cons ((upd_ne hpq).trans h) (r.put h2 e)
end
theorem given_ints (n : Nat) (f : Nat → Bool) : given n f (fun i => V.int (i : Nat)) = (((List.range n).filter f).map fun (i : Nat) => (i : Int)).map V.int := by
  unfold given
  rw [List.map_map]
  rfl
end XP
/-! ## Still more words: three names at once, ranges from a number on with a test, numbers beside lists -/
namespace XP
open PySem PySem.Spec PyProof.Rows L2 Evl
abbrev g3n (K : PySem.W.Frag) (i j k : Nat) : TG := gTup K 3 (gCons (gName i) (gCons (gName j) (gCons (gName k) gNil)))
theorem g3_at {K : PySem.W.Frag} {i j k : Nat} {T : Addr} {x y z : V} {σ : L2.St} {H : Hp} {Q : L2.St → Hp → Prop} (h : H T = some (.tup [x, y, z])) (q : Q (((σ.set i (some x)).set j (some y)).set k (some z)) H) : g3n K i j k (.ref T) σ H Q :=
  ⟨T, [x, y, z], rfl, st_of h, rfl, x, [y, z], rfl, y, [z], rfl, z, [], rfl, rfl, q⟩
/-- a number, a list of numbers and another one -/
def nllD (n : Int) (xs ys : List Int) : PyData := .tuple [.int n, ldat xs, ldat ys]
theorem shaped_nll (n : Int) (xs ys : List Int) : SeqAt.shaped (nllD n xs ys) = true := by
  unfold SeqAt.shaped nllD ldat
  simp [PyData.canLay0, PyData.canLayAll0, PyData.depth, PyData.depthAll, PySem.W.ke_canLayAll0, PySem.W.ke_depthAll]
theorem eqv_nll (n m : Int) (xs ys us ws : List Int) : PyData.eqv (nllD n xs ys) (nllD m us ws) = decide (n = m ∧ xs = us ∧ ys = ws) := by
  unfold nllD
  simp only [PyData.eqv, PyData.eqvAll]
  unfold ldat
  rw [eqv_ints, eqv_ints, Bool.eq_iff_iff]
  simp
theorem dp_nll {K : PySem.W.Frag} {H : Hp} {t p q : Addr} {n : Int} {xs ys : List Int} (ht : H t = some (.tup [.int n, .ref p, .ref q])) (hp : Ll H p xs) (hq : Ll H q ys) : Dp K H (.ref t) (nllD n xs ys) :=
  .tup (st_of ht) (.cons (.int n) (.cons (dp_ints hp.sq) (.cons (dp_ints hq.sq) .nil)))
section
variable {K : PySem.W.Frag} {σ : L2.St} {H H' : Hp} {ta tb te tl : TE} {t : TT} {x y z v : V} {a b p : Addr} {xs ys : List Int} {D : Ends} {tz tu : TS}
theorem rv_neNLL {t t' p q p' q' : Addr} {n m : Int} {xs ys us ws : List Int} (ht : H t = some (.tup [.int n, .ref p, .ref q])) (hp : Ll H p xs) (hq : Ll H q ys) (ht' : H t' = some (.tup [.int m, .ref p', .ref q'])) (hp' : Ll H p' us) (hq' : Ll H q' ws) :
    RV (rNeD K) (.ref t) (.ref t') H (.bl (!decide (n = m ∧ xs = us ∧ ys = ws))) := fun H1 e Q k =>
  ⟨_, _, dp_nll (e _ _ ht) (e _ _ hp) (e _ _ hq), dp_nll (e _ _ ht') (e _ _ hp') (e _ _ hq'), shaped_nll _ _ _, shaped_nll _ _ _, by rw [eqv_nll]; exact k H1 (Ex.refl H1)⟩
/-- two written texts, equal -/
theorem rv_eqTT {t u : Addr} {c d : Str} (h1 : H t = some (.tup [.str c, .str d])) (h2 : H u = some (.tup [.str c, .str d])) (ha : PyData.strOk c = true) (hb : PyData.strOk d = true) : RV (rEqD K) (.ref t) (.ref u) H (.bl true) := fun H1 e Q q => by
  have sh : SeqAt.shaped (.tuple [.str c, .str d]) = true := by
    unfold SeqAt.shaped
    simp [PyData.canLay0, PyData.canLayAll0, PyData.depth, PyData.depthAll, ha, hb]
  have eq1 : PyData.eqv (.tuple [.str c, .str d]) (.tuple [.str c, .str d]) = true := by simp [PyData.eqv, PyData.eqvAll]
  refine ⟨.tuple [.str c, .str d], .tuple [.str c, .str d], .tup (st_of (e _ _ h1)) (.cons (.str c) (.cons (.str d) .nil)), .tup (st_of (e _ _ h2)) (.cons (.str c) (.cons (.str d) .nil)), sh, sh, ?_⟩
  rw [eq1]
  exact q H1 (Ex.refl H1)
theorem el_lcR2F {tr : TA} {k : Nat} {vs : List Nat} {lo n : Int} (f : Nat → Bool) (g : Nat → V) (h : EvA tr σ H [.int lo, .int n]) (hn : 0 ≤ lo ∧ lo ≤ 40000 ∧ -40000 ≤ n ∧ n ≤ 40000) (hw : ∀ x, wipe ((wipe σ vs).set k (some x)) vs = wipe σ vs)
    (ht : ∀ (i : Nat) H1, Ex H H1 → lo + (i : Int) < n → EvT t ((wipe σ vs).set k (some (.int (lo + (i : Int))))) H1 (f i))
    (he : ∀ (i : Nat) H1, Ex H H1 → lo + (i : Int) < n → f i = true → Ev te ((wipe σ vs).set k (some (.int (lo + (i : Int))))) H1 (g i)) :
    EvL (tLc (iRng2 tr) (gName k) t te vs) σ H (given (n - lo).toNat f g) := fun H0 e Q q =>
  h H0 e _ fun H1 e1 => ⟨lo, n, rfl, ⟨by omega, by omega, by omega, by omega⟩, fun Dl hD =>
    lc_range (lo := lo) (n := (n - lo).toNat) (Cw H1 f g Dl) ⟨hD, Ex.new hD, upd_same⟩ (fun i H2 hi p => ⟨hw _, cw_turn p (by omega) (ht i H1 (e.trans e1) (by omega)) fun hb => he i H1 (e.trans e1) (by omega) hb⟩)
      (fun H2 p => q Dl H2 (fresh_back e1 p.1) (e1.trans p.2.1) p.2.2)⟩
theorem s_retP {P : V → Hp → Prop} (h : EvP te σ H P) (k : ∀ v H1, Ex H H1 → P v H1 → D.rt v H1) : tRet te D σ H := h H (Ex.refl H) _ fun v H1 e p => k v H1 e p
/-- x, y, z = what a call hands back -/
theorem q_asg3 {i j k : Nat} {P : V → Hp → Prop} (h : EvP te σ H P) (hk : ∀ v H1, Ex H H1 → P v H1 → ∃ (T : Addr) (x y w : V), v = .ref T ∧ H1 T = some (.tup [x, y, w]) ∧ tz D (((σ.set i (some x)).set j (some y)).set k (some w)) H1) : tSeq (tAsg te (g3n K i j k)) tz D σ H :=
  h H (Ex.refl H) _ fun v H1 e p => by
    obtain ⟨T, x, y, w, rfl, ht, q⟩ := hk v H1 e p
    exact g3_at ht q
/-- the first operand by what is known of it -/
theorem ev_opP1 {P : V → Hp → Prop} {r : R2} (ha : EvP ta σ H P) (hb : ∀ w H1, Ex H H1 → P w H1 → Ev tb σ H1 y) (hr : ∀ w H1 H2, Ex H H1 → P w H1 → Ex H1 H2 → RV r w y H2 z) : Ev (tOp r ta tb) σ H z := fun H1 e Q q =>
  ha H1 e _ fun w H2 e2 p => hb w H2 (e.trans e2) p H2 (Ex.refl H2) _ fun H3 e3 => hr w H2 H3 (e.trans e2) p e3 H3 (Ex.refl H3) Q fun H4 e4 => q H4 ((e2.trans e3).trans e4)
/-- both operands by what is known of them -/
theorem ev_opPP {P R : V → Hp → Prop} {r : R2} (ha : EvP ta σ H P) (hb : ∀ w H1, Ex H H1 → P w H1 → EvP tb σ H1 R) (hr : ∀ w u H1 H2, Ex H H1 → P w H1 → Ex H1 H2 → R u H2 → RV r w u H2 z) : Ev (tOp r ta tb) σ H z := fun H1 e Q q =>
  ha H1 e _ fun w H2 e2 p => hb w H2 (e.trans e2) p H2 (Ex.refl H2) _ fun u H3 e3 p2 => hr w u H2 H3 (e.trans e2) p e3 p2 H3 (Ex.refl H3) Q fun H4 e4 => q H4 ((e2.trans e3).trans e4)
/-- [.. for x in a new list of numbers if ..] -/
theorem el_lcIN {k : Nat} {vs : List Nat} {ns : List Int} (p : Int → Bool) (g : Int → V) (h : EvL tl σ H (ns.map V.int)) (hz : ns.length ≤ 40000) (hw : ∀ x, wipe ((wipe σ vs).set k (some x)) vs = wipe σ vs)
    (ht : ∀ (z : Int) H1, Ex H H1 → z ∈ ns → EvT t ((wipe σ vs).set k (some (.int z))) H1 (p z)) (he : ∀ (z : Int) H1, Ex H H1 → z ∈ ns → p z = true → Ev te ((wipe σ vs).set k (some (.int z))) H1 (g z)) :
    EvL (tLc (iList K tl) (gName k) t te vs) σ H ((ns.filter p).map g) := by
  refine el_is (el_lcNL (fun i => p (ns.getD i 0)) (fun i => g (ns.getD i 0)) h (by rw [List.length_map]; exact hz) hw (fun i x H1 e1 hi => ?_) (fun i x H1 e1 hi hp => ?_)) (by rw [List.length_map]; exact given_getD p g)
  · obtain ⟨z, e, rfl⟩ := get_int hi
    rw [show ns.getD i 0 = z by simp [List.getD, e]]
    exact ht z H1 e1 (List.mem_of_getElem? e)
  · obtain ⟨z, e, rfl⟩ := get_int hi
    have ez : ns.getD i 0 = z := by simp [List.getD, e]
    rw [ez] at hp ⊢
    exact he z H1 e1 (List.mem_of_getElem? e) hp
theorem el_lcINA {k : Nat} {vs : List Nat} {ns : List Int} (g : Int → V) (h : EvL tl σ H (ns.map V.int)) (hz : ns.length ≤ 40000) (hw : ∀ x, wipe ((wipe σ vs).set k (some x)) vs = wipe σ vs)
    (he : ∀ (z : Int) H1, Ex H H1 → z ∈ ns → Ev te ((wipe σ vs).set k (some (.int z))) H1 (g z)) : EvL (tLc (iList K tl) (gName k) tYes te vs) σ H (ns.map g) := by
  refine el_is (el_lcIN (fun _ => true) g h hz hw (fun _ _ _ _ => et_yes) fun z H1 e1 hm _ => he z H1 e1 hm) ?_
  rw [List.filter_eq_self.mpr fun _ _ => rfl]
theorem ev_opPU {P : V → Hp → Prop} {r : R2} {zs : List V} (ha : EvP ta σ H P) (hb : ∀ w H1, Ex H H1 → P w H1 → EvU tb σ H1 zs) (hr : ∀ w u H1 H2, Ex H H1 → P w H1 → Ex H1 H2 → H2 u = some (.tup zs) → RV r w (.ref u) H2 z) : Ev (tOp r ta tb) σ H z := fun H1 e Q q =>
  ha H1 e _ fun w H2 e2 p => hb w H2 (e.trans e2) p H2 (Ex.refl H2) _ fun u H3 _ e3 hu => hr w u H2 H3 (e.trans e2) p e3 hu H3 (Ex.refl H3) Q fun H4 e4 => q H4 ((e2.trans e3).trans e4)
theorem rc_isiTup {zs : List V} (h : H a = some (.tup zs)) : RC (rIsi K) [.ref a, .ty "tuple"] H (.bl true) := rc_isi (.ty _) (fun H1 e => .base (.tup (e a _ h))) (kit_ty (by decide +kernel))
theorem rc_isiIB {i : Int} : RC (rIsi K) [.int i, .ty "bool"] H (.bl false) := rc_isi (.ty _) (fun _ _ => .base (.int _)) (kit_ty (by decide +kernel))
theorem rc_lenT {zs : List V} (h : SqT K H a zs) : RC (rLenK K) [.ref a] H (.int (zs.length : Int)) := fun H1 e _ q =>
  ⟨a, zs, rfl, .inr (ex_t e h), q H1 (Ex.refl H1)⟩
end
theorem cut_from (zs : List V) (k : Nat) : cutV zs (some (k : Int)) none = zs.drop k := by
  unfold cutV
  rw [HT.sIx_none, HT.sIx_nat]
  by_cases h : k ≤ zs.length
  · rw [Nat.min_eq_left h, List.take_of_length_le (by rw [List.length_drop]; exact Nat.le_refl _)]
  · rw [Nat.min_eq_right (by omega), List.drop_length, List.drop_of_length_le (by omega), List.take_nil]
/-- the part K by a name of one's own, within a comprehension -/
theorem pi_listK {X : Cx} {K : PySem.W.Frag} {tg l : Expr} {tl : TE} (h : X.K = K) (hl : PE X l tl) : PI X tg l (iList K tl) := h ▸ pi_list hl
/-! downward closed counts -/
theorem dc_count (P : Nat → Bool) : ∀ n : Nat, (∀ i j, i ≤ j → j < n → P j = true → P i = true) → ∀ i, i < ((List.range n).filter P).length ↔ i < n ∧ P i = true
  | 0, _, i => by simp
  | n + 1, h, i => by
    have ih := dc_count P n (fun i j h1 h2 => h i j h1 (by omega)) i
    rw [List.range_succ, List.filter_append, List.length_append]
    by_cases c : P n = true
    · have e1 : (List.range n).filter P = List.range n := List.filter_eq_self.mpr fun j hj => h j n (by have := List.mem_range.mp hj; omega) (by omega) c
      have e2 : List.filter P [n] = [n] := by rw [List.filter_cons, if_pos c]; rfl
      rw [e1, e2, List.length_range]
      constructor
      · intro hi
        simp at hi
        exact ⟨by omega, h i n (by omega) (by omega) c⟩
      · rintro ⟨hi, _⟩
        simp
        omega
    · have e2 : List.filter P [n] = [] := by rw [List.filter_cons, if_neg c]; rfl
      rw [e2, List.length_nil, Nat.add_zero, ih]
      constructor
      · rintro ⟨h1, h2⟩
        exact ⟨by omega, h2⟩
      · rintro ⟨h1, h2⟩
        refine ⟨?_, h2⟩
        rcases Nat.lt_or_ge i n with k | k
        · exact k
        · exact absurd (by rw [show n = i by omega]; exact h2) c
theorem given_length (n : Nat) (f : Nat → Bool) (v : Nat → V) : (given n f v).length = ((List.range n).filter f).length := by
  unfold given
  rw [List.length_map]
end XP
namespace K9
open PySem PySem.Spec PyProof.Rows L2 Evl XP
def topS (i : Nat) : Stmt := PySem.Challenge.pw_stairparts_k09_squares.main.body.getD i (.Pass ⟨0, 0, 0, 0⟩)
/-- slots: 0 thing -/
abbrev s_is_number : Stmt := topS 7
theorem sc_is_number : FnScope ["thing"] ["thing"] (defScope s_is_number) := ⟨rfl, rfl, rfl, by decide +kernel, rfl, by decide +kernel, by decide +kernel⟩
/-- slots: 0 thing -/
abbrev s_check_number : Stmt := topS 8
theorem sc_check_number : FnScope ["thing"] ["thing"] (defScope s_check_number) := ⟨rfl, rfl, rfl, by decide +kernel, rfl, by decide +kernel, by decide +kernel⟩
/-- slots: 0 thing, 1 whole, 2 ahead, 3 part -/
abbrev s_is_parting : Stmt := topS 9
theorem sc_is_parting : FnScope ["thing", "whole", "ahead", "part"] ["thing"] (defScope s_is_parting) := ⟨rfl, rfl, rfl, by decide +kernel, rfl, by decide +kernel, by decide +kernel⟩
/-- slots: 0 thing -/
abbrev s_check_parting : Stmt := topS 10
theorem sc_check_parting : FnScope ["thing"] ["thing"] (defScope s_check_parting) := ⟨rfl, rfl, rfl, by decide +kernel, rfl, by decide +kernel, by decide +kernel⟩
/-- slots: 0 parting, 1 place, 2 part -/
abbrev s_square_of : Stmt := topS 12
theorem sc_square_of : FnScope ["parting", "place", "part"] ["parting"] (defScope s_square_of) := ⟨rfl, rfl, rfl, by decide +kernel, rfl, by decide +kernel, by decide +kernel⟩
/-- slots: 0 parting, 1 number (cell), 2 beside, 3 beneath, 4 part -/
abbrev s_cut_square : Stmt := topS 13
theorem sc_cut_square : FnScope ["parting", "number", "beside", "beneath", "part"] ["parting"] (defScope s_cut_square) := ⟨rfl, rfl, rfl, by decide +kernel, rfl, by decide +kernel, by decide +kernel⟩
/-- slots: 0 beside, 1 beneath, 2 number (cell), 3 noughts, 4 part -/
abbrev s_put_square : Stmt := topS 14
theorem sc_put_square : FnScope ["beside", "beneath", "number", "noughts", "part"] ["beside", "beneath", "number"] (defScope s_put_square) := ⟨rfl, rfl, rfl, by decide +kernel, rfl, by decide +kernel, by decide +kernel⟩
/-- slots: 0 _law_number_here, 1 _law_k -/
abbrev s_law_mixed : Stmt := topS 16
theorem sc_law_mixed : FnScope ["_law_number_here", "_law_k"] ["_law_number_here", "_law_k"] (defScope s_law_mixed) := ⟨rfl, rfl, rfl, by decide +kernel, rfl, by decide +kernel, by decide +kernel⟩
/-- slots: 0 _law_script, 1 _law_k -/
abbrev s_law_number : Stmt := topS 17
theorem sc_law_number : FnScope ["_law_script", "_law_k"] ["_law_script", "_law_k"] (defScope s_law_number) := ⟨rfl, rfl, rfl, by decide +kernel, rfl, by decide +kernel, by decide +kernel⟩
/-- slots: 0 _law_script, 1 _law_first, 2 _law_number_here, 3 _law_most, 4 _law_many, 5 _law_found, 6 _law_k, 7 _law_part -/
abbrev s_law_parting_by : Stmt := topS 18
theorem sc_law_parting_by : FnScope ["_law_script", "_law_first", "_law_number_here", "_law_most", "_law_many", "_law_found", "_law_k", "_law_part"] ["_law_script", "_law_first"] (defScope s_law_parting_by) := ⟨rfl, rfl, rfl, by decide +kernel, rfl, by decide +kernel, by decide +kernel⟩
/-- slots: 0 _law_found, 1 _law_due, 2 _law_one -/
abbrev s_law_is_row : Stmt := topS 19
theorem sc_law_is_row : FnScope ["_law_found", "_law_due", "_law_one"] ["_law_found", "_law_due"] (defScope s_law_is_row) := ⟨rfl, rfl, rfl, by decide +kernel, rfl, by decide +kernel, by decide +kernel⟩
/-- slots: 0 _law_error, 1 _law_names -/
abbrev s_law_name : Stmt := topS 20
theorem sc_law_name : FnScope ["_law_error", "_law_names"] ["_law_error"] (defScope s_law_name) := ⟨rfl, rfl, rfl, by decide +kernel, rfl, by decide +kernel, by decide +kernel⟩
/-- slots: 0 _law_parting (cell), 1 _law_k, 2 _law_part -/
abbrev s_law_side : Stmt := topS 21
theorem sc_law_side : FnScope ["_law_parting", "_law_k", "_law_part"] ["_law_parting"] (defScope s_law_side) := ⟨rfl, rfl, rfl, by decide +kernel, rfl, by decide +kernel, by decide +kernel⟩
/-- slots: 0 _law_parting, 1 _law_side_here (cell), 2 _law_part -/
abbrev s_law_cut : Stmt := topS 22
theorem sc_law_cut : FnScope ["_law_parting", "_law_side_here", "_law_part"] ["_law_parting"] (defScope s_law_cut) := ⟨rfl, rfl, rfl, by decide +kernel, rfl, by decide +kernel, by decide +kernel⟩
/-- slots: 0 _law_beside, 1 _law_beneath, 2 _law_number_here (cell), 3 _law_rows, 4 _law_part -/
abbrev s_law_put : Stmt := topS 23
theorem sc_law_put : FnScope ["_law_beside", "_law_beneath", "_law_number_here", "_law_rows", "_law_part"] ["_law_beside", "_law_beneath", "_law_number_here"] (defScope s_law_put) := ⟨rfl, rfl, rfl, by decide +kernel, rfl, by decide +kernel, by decide +kernel⟩
/-- slots: 0 _law_beside, 1 _law_beneath, 2 _law_number_here, 3 _law_caught, 4 _law_found, 5 _law_error -/
abbrev s_law_told : Stmt := topS 24
theorem sc_law_told : FnScope ["_law_beside", "_law_beneath", "_law_number_here", "_law_caught", "_law_found", "_law_error"] ["_law_beside", "_law_beneath", "_law_number_here"] (defScope s_law_told) := ⟨rfl, rfl, rfl, by decide +kernel, rfl, by decide +kernel, by decide +kernel⟩
/-- slots: 0 _law_parting, 1 _law_handed, 2 _law_side_here, 3 _law_beside, 4 _law_beneath, 5 _law_turn, 6 _law_found, 7 _law_told_here -/
abbrev s_law_cut_right : Stmt := topS 25
theorem sc_law_cut_right : FnScope ["_law_parting", "_law_handed", "_law_side_here", "_law_beside", "_law_beneath", "_law_turn", "_law_found", "_law_told_here"] ["_law_parting"] (defScope s_law_cut_right) := ⟨rfl, rfl, rfl, by decide +kernel, rfl, by decide +kernel, by decide +kernel⟩
/-- slots: 0 _law_script, 1 _law_parting, 2 _law_number_here, 3 _law_beside, 4 _law_beneath, 5 _law_side_here (cell), 6 _law_handed, 7 _law_due, 8 _law_told_here, 9 _law_part -/
abbrev s_law : Stmt := topS 26
theorem sc_law : FnScope ["_law_script", "_law_parting", "_law_number_here", "_law_beside", "_law_beneath", "_law_side_here", "_law_handed", "_law_due", "_law_told_here", "_law_part"] ["_law_script"] (defScope s_law) := ⟨rfl, rfl, rfl, by decide +kernel, rfl, by decide +kernel, by decide +kernel⟩
def lcs_law_side_21 : PySem.Scope := {
                            kind := PySem.ScopeKind.function,
                            names := [
                              (PySem.Str.ofString ".0", PySem.NameKind.local),
                              (PySem.Str.ofString "_law_k", PySem.NameKind.cell),
                              (PySem.Str.ofString "len", PySem.NameKind.globalImplicit),
                              (PySem.Str.ofString "_law_parting", PySem.NameKind.free)],
                            isGenerator := false,
                            isCoroutine := false,
                            more := [] : PySem.Scope }
structure Tx (K : PySem.W.Frag) (mg : Str → Option Value) where
  a_is_number : Addr
  d_is_number : FuncData
  F_is_number : Fun K "is_number" "is_number" s_is_number a_is_number d_is_number
  b_is_number : Binds K d_is_number ["thing"] []
  g_is_number : mg "is_number" = some (.ref a_is_number)
  a_check_number : Addr
  d_check_number : FuncData
  F_check_number : Fun K "check_number" "check_number" s_check_number a_check_number d_check_number
  b_check_number : Binds K d_check_number ["thing"] []
  g_check_number : mg "check_number" = some (.ref a_check_number)
  a_is_parting : Addr
  d_is_parting : FuncData
  F_is_parting : Fun K "is_parting" "is_parting" s_is_parting a_is_parting d_is_parting
  b_is_parting : Binds K d_is_parting ["thing"] []
  g_is_parting : mg "is_parting" = some (.ref a_is_parting)
  a_check_parting : Addr
  d_check_parting : FuncData
  F_check_parting : Fun K "check_parting" "check_parting" s_check_parting a_check_parting d_check_parting
  b_check_parting : Binds K d_check_parting ["thing"] []
  g_check_parting : mg "check_parting" = some (.ref a_check_parting)
  a_square_of : Addr
  d_square_of : FuncData
  F_square_of : Fun K "square_of" "square_of" s_square_of a_square_of d_square_of
  b_square_of : Binds K d_square_of ["parting"] []
  g_square_of : mg "square_of" = some (.ref a_square_of)
  a_cut_square : Addr
  d_cut_square : FuncData
  F_cut_square : Fun K "cut_square" "cut_square" s_cut_square a_cut_square d_cut_square
  b_cut_square : Binds K d_cut_square ["parting"] []
  g_cut_square : mg "cut_square" = some (.ref a_cut_square)
  a_put_square : Addr
  d_put_square : FuncData
  F_put_square : Fun K "put_square" "put_square" s_put_square a_put_square d_put_square
  b_put_square : Binds K d_put_square ["beside", "beneath", "number"] []
  g_put_square : mg "put_square" = some (.ref a_put_square)
  a_law_mixed : Addr
  d_law_mixed : FuncData
  F_law_mixed : Fun K "_law_mixed" "_law_mixed" s_law_mixed a_law_mixed d_law_mixed
  b_law_mixed : Binds K d_law_mixed ["_law_number_here", "_law_k"] []
  g_law_mixed : mg "_law_mixed" = some (.ref a_law_mixed)
  a_law_number : Addr
  d_law_number : FuncData
  F_law_number : Fun K "_law_number" "_law_number" s_law_number a_law_number d_law_number
  b_law_number : Binds K d_law_number ["_law_script", "_law_k"] []
  g_law_number : mg "_law_number" = some (.ref a_law_number)
  a_law_parting_by : Addr
  d_law_parting_by : FuncData
  F_law_parting_by : Fun K "_law_parting_by" "_law_parting_by" s_law_parting_by a_law_parting_by d_law_parting_by
  b_law_parting_by : Binds K d_law_parting_by ["_law_script", "_law_first"] []
  g_law_parting_by : mg "_law_parting_by" = some (.ref a_law_parting_by)
  a_law_is_row : Addr
  d_law_is_row : FuncData
  F_law_is_row : Fun K "_law_is_row" "_law_is_row" s_law_is_row a_law_is_row d_law_is_row
  b_law_is_row : Binds K d_law_is_row ["_law_found", "_law_due"] []
  g_law_is_row : mg "_law_is_row" = some (.ref a_law_is_row)
  a_law_name : Addr
  d_law_name : FuncData
  F_law_name : Fun K "_law_name" "_law_name" s_law_name a_law_name d_law_name
  b_law_name : Binds K d_law_name ["_law_error"] []
  g_law_name : mg "_law_name" = some (.ref a_law_name)
  a_law_side : Addr
  d_law_side : FuncData
  F_law_side : Fun K "_law_side" "_law_side" s_law_side a_law_side d_law_side
  b_law_side : Binds K d_law_side ["_law_parting"] []
  g_law_side : mg "_law_side" = some (.ref a_law_side)
  a_law_cut : Addr
  d_law_cut : FuncData
  F_law_cut : Fun K "_law_cut" "_law_cut" s_law_cut a_law_cut d_law_cut
  b_law_cut : Binds K d_law_cut ["_law_parting"] []
  g_law_cut : mg "_law_cut" = some (.ref a_law_cut)
  a_law_put : Addr
  d_law_put : FuncData
  F_law_put : Fun K "_law_put" "_law_put" s_law_put a_law_put d_law_put
  b_law_put : Binds K d_law_put ["_law_beside", "_law_beneath", "_law_number_here"] []
  g_law_put : mg "_law_put" = some (.ref a_law_put)
  a_law_told : Addr
  d_law_told : FuncData
  F_law_told : Fun K "_law_told" "_law_told" s_law_told a_law_told d_law_told
  b_law_told : Binds K d_law_told ["_law_beside", "_law_beneath", "_law_number_here"] []
  g_law_told : mg "_law_told" = some (.ref a_law_told)
  a_law_cut_right : Addr
  d_law_cut_right : FuncData
  F_law_cut_right : Fun K "_law_cut_right" "_law_cut_right" s_law_cut_right a_law_cut_right d_law_cut_right
  b_law_cut_right : Binds K d_law_cut_right ["_law_parting"] []
  g_law_cut_right : mg "_law_cut_right" = some (.ref a_law_cut_right)
  a_law : Addr
  d_law : FuncData
  F_law : Fun K "law" "law" s_law a_law d_law
  b_law : Binds K d_law ["_law_script"] []
  g_law : mg "law" = some (.ref a_law)
  n_ValueError : mg "ValueError" = none
  n_all : mg "all" = none
  n_any : mg "any" = none
  n_bool : mg "bool" = none
  n_enumerate : mg "enumerate" = none
  n_int : mg "int" = none
  n_isinstance : mg "isinstance" = none
  n_len : mg "len" = none
  n_list : mg "list" = none
  n_max : mg "max" = none
  n_min : mg "min" = none
  n_range : mg "range" = none
  n_sorted : mg "sorted" = none
  n_sum : mg "sum" = none
  n_tuple : mg "tuple" = none
  u_GREATEST_WHOLE : Value
  c_GREATEST_WHOLE : mg "GREATEST_WHOLE" = some u_GREATEST_WHOLE
  r_GREATEST_WHOLE : RelV (.int 200) u_GREATEST_WHOLE
  C_NoFit : Addr
  g_NoFit : mg "NoFit" = some (.ref C_NoFit)
  C_NoNumber : Addr
  g_NoNumber : mg "NoNumber" = some (.ref C_NoNumber)
  C_NoParting : Addr
  g_NoParting : mg "NoParting" = some (.ref C_NoParting)
  C_PartError : Addr
  g_PartError : mg "PartError" = some (.ref C_PartError)
  x_NoFit : PySem.W.excIn K C_NoFit [.type "ValueError", .type "Exception", .type "BaseException", .type "object"] "ValueError.__new__" = true
  k_NoFit : PySem.W.keepIn K (.ref C_NoFit) = true
  s_NoFit : PySem.W.subIn K (.ref C_NoFit) (.type "BaseException") = some true
  t_NoFit : PySem.W.typeIn K (.ref C_NoFit) = some (.type "type")
  e_NoFit : ExcC K C_NoFit
  m_NoFit_PartError : PySem.W.exmOne K (.ref C_NoFit) (.ref C_PartError) = some true
  q_NoFit_NoParting : PySem.W.kitOne K (.ref C_NoFit) (.ref C_NoParting) = some false
  q_NoFit_NoFit : PySem.W.kitOne K (.ref C_NoFit) (.ref C_NoFit) = some true
  q_NoFit_NoNumber : PySem.W.kitOne K (.ref C_NoFit) (.ref C_NoNumber) = some false
  q_NoFit_ValueError : PySem.W.kitOne K (.ref C_NoFit) (.type "ValueError") = some true
/-! ### the draws: _law_mixed, _law_number, _law_parting_by -/
def mixed (n k : Int) : Int := ((n % 2147483647 + 7919 * k * k + 31 * k) * 48271 % 2147483647) * (69621 + 2 * k) % 2147483629
theorem mixed_nn (n k : Int) : 0 ≤ mixed n k := Int.emod_nonneg _ (by decide)
theorem mixed_lt (n k : Int) : mixed n k < 2147483629 := Int.emod_lt_of_pos _ (by decide)
def numb (ns : List Int) (k : Int) : Int := if ns = [] then mixed 17 k else mixed (ns.getD (k % (ns.length : Int)).toNat 0) k
theorem numb_nn (ns : List Int) (k : Int) : 0 ≤ numb ns k := by
  unfold numb
  split
  · exact mixed_nn _ _
  · exact mixed_nn _ _
theorem numb_lt (ns : List Int) (k : Int) : numb ns k < 2147483629 := by
  unfold numb
  split
  · exact mixed_lt _ _
  · exact mixed_lt _ _
/-- what a parting is -/
def IsP (p : List Int) : Prop := (∀ x ∈ p, 1 ≤ x) ∧ p.Pairwise (fun a b => b ≤ a) ∧ p.sum ≤ 200
theorem sum_nn : ∀ {p : List Int}, (∀ x ∈ p, 0 ≤ x) → 0 ≤ p.sum
  | [], _ => Int.le_refl _
  | x :: r, h => by
    have h1 := h x List.mem_cons_self
    have h2 := sum_nn (p := r) fun y hy => h y (List.mem_cons_of_mem _ hy)
    rw [List.sum_cons]
    omega
theorem len_le_sum : ∀ {p : List Int}, (∀ x ∈ p, 1 ≤ x) → (p.length : Int) ≤ p.sum
  | [], _ => Int.le_refl _
  | x :: r, h => by
    have h1 := h x List.mem_cons_self
    have h2 := len_le_sum (p := r) fun y hy => h y (List.mem_cons_of_mem _ hy)
    rw [List.sum_cons, List.length_cons]
    omega
theorem IsP.len {p : List Int} (h : IsP p) : p.length ≤ 200 := by
  have h1 := len_le_sum h.1
  have h2 := h.2.2
  omega
theorem le_sum : ∀ {p : List Int}, (∀ x ∈ p, 0 ≤ x) → ∀ x ∈ p, x ≤ p.sum
  | [], _, x, hx => by cases hx
  | y :: r, h, x, hx => by
    have h1 := h y List.mem_cons_self
    have h2 := sum_nn (p := r) fun z hz => h z (List.mem_cons_of_mem _ hz)
    rw [List.sum_cons]
    rcases List.mem_cons.mp hx with e | hx
    · omega
    · have h3 := le_sum (p := r) (fun z hz => h z (List.mem_cons_of_mem _ hz)) x hx
      omega
theorem sum_append (a b : List Int) : (a ++ b).sum = a.sum + b.sum := List.sum_append
theorem sum_perm {a b : List Int} (h : a.Perm b) : a.sum = b.sum := by
  induction h with
  | nil => rfl
  | cons x _ ih => rw [List.sum_cons, List.sum_cons, ih]
  | swap x y l => rw [List.sum_cons, List.sum_cons, List.sum_cons, List.sum_cons]; omega
  | trans _ _ ih1 ih2 => exact ih1.trans ih2
theorem desc_reverse {l : List Int} (h : l.Pairwise (· ≤ ·)) : l.reverse.Pairwise (fun a b => b ≤ a) := List.pairwise_reverse.mpr h
section
variable {P : Program} {w : World} {K : PySem.W.Frag} {mg : Str → Option Value} {base : Heap}
def sp_law_mixed : Sp := fun vs H Q _ => ∃ n k : Int, vs = [.int n, .int k] ∧ 0 ≤ k ∧ k ≤ 100000 ∧ RetV (.int (mixed n k)) H Q
theorem ok_law_mixed (T : Tx K mg) : FnOk P w K mg base CX0 1 T.a_law_mixed T.d_law_mixed ["_law_number_here", "_law_k"] sp_law_mixed := by
  refine T.F_law_mixed.ok sc_law_mixed (fun vs H Q E h => ?_) (fun cdv A outer s H vs Q E hr h => ?_)
  · obtain ⟨n, k, rfl, _⟩ := h
    rfl
  · obtain ⟨n, k, rfl, k0, k1, q⟩ := h
    refine ⟨_, (pss_cons (ps_set (i := 0) sc_law_mixed.nd rfl (Or.inl rfl) (pe_op op_mod (pe_op op_mul (pe_op op_add (pe_op op_add (pe_op op_mod (pv 0) pe_int) (pe_op op_mul (pe_op op_mul pe_int (pv 1)) (pv 1))) (pe_op op_mul pe_int (pv 1))) pe_int) pe_int))
    (pss_one (ps_ret (pe_op op_mod (pe_op op_mul (pv 0) (pe_op op_add pe_int (pe_op op_mul pe_int (pv 1)))) pe_int)))), ?_⟩
    refine q_asg (ev_rI (ev_rI (ev_rI0 (ev_rI0 (ev_rI (ev_var rfl) ev_c (by decide)) (ev_rI (ev_rI ev_c (ev_var rfl) (.inl (by decide))) (ev_var rfl) (.inr (by omega)))) (ev_rI ev_c (ev_var rfl) (.inl (by decide)))) ev_c (.inr (by decide))) ev_c (by decide)) fun H1 e1 => ?_
    refine s_ret (ev_rI (ev_rI (ev_var rfl) (ev_rI0 ev_c (ev_rI ev_c (ev_var rfl) (.inl (by decide)))) (.inr (by omega))) ev_c (by decide)) fun H2 e2 => ?_
    exact q H2 (e1.trans e2)
theorem spv_mixed {n k : Int} {H : Hp} (k0 : 0 ≤ k) (k1 : k ≤ 100000) : SpV sp_law_mixed [.int n, .int k] H (.int (mixed n k)) := fun H1 _ _ q _ => ⟨n, k, rfl, k0, k1, q⟩
def sp_law_number (K : PySem.W.Frag) : Sp := fun vs H Q _ => ∃ (a : Addr) (ns : List Int) (k : Int), vs = [.ref a, .int k] ∧ SqL K H a (ns.map V.int) ∧ 0 ≤ k ∧ k ≤ 100000 ∧ RetV (.int (numb ns k)) H Q
theorem ok_law_number (T : Tx K mg) : FnOk P w K mg base CX0 2 T.a_law_number T.d_law_number ["_law_script", "_law_k"] (sp_law_number K) := by
  refine T.F_law_number.ok sc_law_number (fun vs H Q E h => ?_) (fun cdv A outer s H vs Q E hr h => ?_)
  · obtain ⟨a, ns, k, rfl, _⟩ := h
    rfl
  · obtain ⟨a, ns, k, rfl, hS, k0, k1, q⟩ := h
    refine ⟨_, (pss_cons (ps_if (pt_cmpR (eqK (K := K) rfl hr.units) (pv 0) (pe_lst pa_nil) (nomark _))
      (pss_one (ps_ret (pe_call (ok_law_mixed T) (hr.mono (by decide)) (by rfl) T.g_law_mixed T.F_law_mixed.kp T.b_law_mixed .nil pass0 (pa_cons pe_int (pa_cons (pv 1) pa_nil)))))
      pss_nil)
    (pss_one (ps_ret (pe_call (ok_law_mixed T) (hr.mono (by decide)) (by rfl) T.g_law_mixed T.F_law_mixed.kp T.b_law_mixed .nil pass0 (pa_cons (pe_ix (ixlK (K := K) rfl) (pv 0) (pe_op op_mod (pv 1) (pe_callB (lenK (K := K) rfl) (by rfl) T.n_len PySem.boot_len (pa_cons (pv 0) pa_nil))) (fun _ _ => rfl)) (pa_cons (pv 1) pa_nil)))))), ?_⟩
    refine q_when (b := decide (ns = [])) (et_test (ev_opL (ev_var rfl) (el_lst (vs := []) ea_nil (by decide)) fun p H1 hp e1 => rv_eqL (ys := []) (ex_l e1 hS) (sq_of hp))) (fun hb H1 e1 => ?_) (fun hb H1 e1 => ?_)
    · have hn : ns = [] := of_decide_eq_true hb
      refine s_ret (ev_call (ea_cons ev_c (ea_cons (ev_var rfl) ea_nil)) (spv_mixed k0 k1)) fun H2 e2 => ?_
      have := q H2 (e1.trans e2)
      unfold numb at this
      rw [if_pos hn] at this
      exact this
    · have hn : ns ≠ [] := of_decide_eq_false hb
      have hl : 0 < ns.length := List.length_pos_iff.mpr hn
      have h1 : 0 ≤ k % (ns.length : Int) := Int.emod_nonneg _ (by omega)
      have h2 : k % (ns.length : Int) < ns.length := Int.emod_lt_of_pos _ (by omega)
      have el : ((ns.map V.int).length : Int) = (ns.length : Int) := by rw [List.length_map]
      refine s_ret (ev_call (ea_cons (ev_ixI (ev_var rfl) (ev_is (ev_rI (ev_var rfl) (ev_cb (ea_cons (ev_var rfl) ea_nil) (rc_len (ex_l e1 hS))) (by rw [el]; omega)) (by rw [el])) (ex_l e1 hS) h1 h2) (ea_cons (ev_var rfl) ea_nil)) (spv_mixed k0 k1)) fun H2 e2 => ?_
      have := q H2 (e1.trans e2)
      unfold numb at this
      rw [if_neg hn] at this
      exact this
theorem spv_number {a : Addr} {ns : List Int} {k : Int} {H : Hp} (hS : SqL K H a (ns.map V.int)) (k0 : 0 ≤ k) (k1 : k ≤ 100000) : SpV (sp_law_number K) [.ref a, .int k] H (.int (numb ns k)) := fun H1 e _ q _ => ⟨a, ns, k, rfl, ex_l e hS, k0, k1, q⟩
/-- one of a few written numbers -/
theorem at_few {zs : List Int} {i : Int} (h0 : 0 ≤ i) (h1 : i < zs.length) (lo hi : Int) (hz : ∀ z ∈ zs, lo ≤ z ∧ z ≤ hi) : ∃ z, atI (zs.map V.int) i = some (.int z) ∧ lo ≤ z ∧ z ≤ hi := by
  obtain ⟨j, rfl⟩ := Int.eq_ofNat_of_zero_le h0
  have hj : j < zs.length := by omega
  refine ⟨zs[j], atI_nat ?_, hz _ (List.getElem_mem hj)⟩
  rw [List.getElem?_map, List.getElem?_eq_getElem hj]
  rfl
/-- a list of whole numbers, new, of which P is known -/
def RetLP (P : List Int → Prop) (H : Hp) (Q : VK) : Prop := ∀ (p : Addr) (ys : List Int) (H2 : Hp), H p = none → Ex H H2 → Ll H2 p ys → P ys → Q (.ref p) H2
def sp_law_parting_by (K : PySem.W.Frag) : Sp := fun vs H Q _ => ∃ (a : Addr) (ns : List Int) (k : Int), vs = [.ref a, .int k] ∧ SqL K H a (ns.map V.int) ∧ ns.length ≤ 63 ∧ 0 ≤ k ∧ k ≤ 1000 ∧ RetLP IsP H Q
theorem ok_law_parting_by (T : Tx K mg) : FnOk P w K mg base CX0 3 T.a_law_parting_by T.d_law_parting_by ["_law_script", "_law_first"] (sp_law_parting_by K) := by
  refine T.F_law_parting_by.ok sc_law_parting_by (fun vs H Q E h => ?_) (fun cdv A outer s H vs Q E hr h => ?_)
  · obtain ⟨a, ns, k, rfl, _⟩ := h
    rfl
  · obtain ⟨a, ns, k, rfl, hS, hlen, k0, k1, q⟩ := h
    refine ⟨_, (pss_cons (ps_set (i := 2) sc_law_parting_by.nd rfl (Or.inl rfl) (pe_call (ok_law_number T) (hr.mono (by decide)) (by rfl) T.g_law_number T.F_law_number.kp T.b_law_number .nil pass0 (pa_cons (pv 0) (pa_cons (pv 1) pa_nil))))
    (pss_cons (ps_set (i := 3) sc_law_parting_by.nd rfl (Or.inl rfl) (pe_ix (ixlK (K := K) rfl) (pe_lst (pa_cons pe_int (pa_cons pe_int (pa_cons pe_int (pa_cons pe_int (pa_cons pe_int (pa_cons pe_int pa_nil))))))) (pe_op op_mod (pv 2) pe_int) (fun _ _ => rfl)))
    (pss_cons (ps_set (i := 4) sc_law_parting_by.nd rfl (Or.inl rfl) (pe_ix (ixlK (K := K) rfl) (pe_lst (pa_cons (pe_callB (lenK (K := K) rfl) (by rfl) T.n_len PySem.boot_len (pa_cons (pv 0) pa_nil)) (pa_cons pe_int (pa_cons pe_int (pa_cons pe_int pa_nil))))) (pe_op op_mod (pe_op op_fdiv (pv 2) pe_int) pe_int) (fun _ _ => rfl)))
    (pss_cons (ps_set (i := 5) sc_law_parting_by.nd rfl (Or.inl rfl) (pe_lst pa_nil))
    (pss_cons (ps_for PassesOwn.never rfl (pi_range1 rfl T.n_range (pa_cons (pe_callB (call_min2 rfl) (by rfl) T.n_min (by decide +kernel) (pa_cons (pv 4) (pa_cons pe_int pa_nil))) pa_nil)) (pg_name (i := 6) sc_law_parting_by.nd rfl (Or.inl rfl))
      (pss_cons (ps_set (i := 7) sc_law_parting_by.nd rfl (Or.inl rfl) (pe_op op_add pe_int (pe_op op_mod (pe_call (ok_law_number T) (hr.mono (by decide)) (by rfl) T.g_law_number T.F_law_number.kp T.b_law_number .nil pass0 (pa_cons (pv 0) (pa_cons (pe_op op_add (pe_op op_add (pv 1) pe_int) (pv 6)) pa_nil))) (pv 3))))
      (pss_one (ps_if (pt_cmpR op_le (pe_op op_add (pe_callB (sumK (K := K) rfl rfl) (by rfl) T.n_sum (by decide +kernel) (pa_cons (pv 5) pa_nil)) (pv 7)) pe_int (nomark _))
        (pss_one (ps_expr (pe_bm PySem.F.plainAttrs_list PySem.F.slot_list_append PySem.F.type_list_append mt_append (pv 5) (pa_cons (pv 7) pa_nil))))
        pss_nil))))
    (pss_cons (ps_set (i := 5) sc_law_parting_by.nd rfl (Or.inl rfl) (pe_callB (sortedK (K := K) rfl) (by rfl) T.n_sorted (by decide +kernel) (pa_cons (pv 5) pa_nil)))
    (pss_cons (ps_expr (pe_bm0 PySem.F.plainAttrs_list PySem.F.slot_list_reverse PySem.F.type_list_reverse mt_reverse (pv 5)))
    (pss_one (ps_ret (pv 5)))))))))), ?_⟩
    refine q_asg (ev_call (ea_cons (ev_var rfl) (ea_cons (ev_var rfl) ea_nil)) (spv_number hS k0 (by omega))) fun H1 e1 => ?_
    have n0 := numb_nn ns k
    generalize numb ns k = m at n0 ⊢
    obtain ⟨c, hc, c1, c2⟩ := at_few (zs := [2, 4, 7, 12, 30, 90]) (i := m % 6) (by omega) (by show m % 6 < 6; omega) 2 90 (by decide)
    refine q_asg (ev_ixN (el_lst (ea_cons ev_c (ea_cons ev_c (ea_cons ev_c (ea_cons ev_c (ea_cons ev_c (ea_cons ev_c ea_nil)))))) (by decide)) (fun H2 _ => ev_rI (ev_var rfl) ev_c (by decide)) hc) fun H2 e2 => ?_
    obtain ⟨l, hl, l1, l2⟩ := at_few (zs := [(ns.length : Int), 3, 6, 40]) (i := m / 6 % 4) (by omega) (by show m / 6 % 4 < 4; omega) 0 63 (by
      intro z hz
      simp only [List.mem_cons, List.not_mem_nil, or_false] at hz
      omega)
    have el : ((ns.map V.int).length : Int) = (ns.length : Int) := by rw [List.length_map]
    refine q_asg (ev_ixN (el_lst (ea_cons (ev_is (ev_cb (ea_cons (ev_var rfl) ea_nil) (rc_len (ex_l (e1.trans e2) hS))) (by rw [el])) (ea_cons ev_c (ea_cons ev_c (ea_cons ev_c ea_nil)))) (by show 4 ≤ 100000; decide)) (fun H2 _ => ev_rI (ev_rI (ev_var rfl) ev_c ⟨by decide, by decide⟩) ev_c (by decide)) hl) fun H3 e3 => ?_
    refine q_asgL (xs := []) (el_lst ea_nil (by decide)) fun p H4 np e4 hp => ?_
    have e14 : Ex H H4 := ((e1.trans e2).trans e3).trans e4
    have npH : H p = none := fresh_back ((e1.trans e2).trans e3) np
    have hm : (if (60 : Int) < l then (60 : Int) else l) ≤ 60 := by split <;> omega
    have hm0 : 0 ≤ (if (60 : Int) < l then (60 : Int) else l) := by split <;> omega
    refine q_forR1 (ea_cons (ev_cb (ea_cons (ev_var rfl) (ea_cons ev_c ea_nil)) rc_min2) ea_nil) ⟨hm0, by omega⟩
      (fun i σ' H' => ∃ (fs : List Int) (y1 y2 : Option V), σ' = [some (.ref a), some (.int k), some (.int m), some (.int c), some (.int l), some (.ref p), y1, y2] ∧ Ex H H' ∧ Ll H' p fs ∧ (∀ x ∈ fs, 1 ≤ x) ∧ fs.sum ≤ 200)
      (fun H5 e5 => ⟨[], none, none, rfl, e14.trans e5, e5 _ _ hp, (fun x hx => by cases hx), by decide⟩) (fun i σ' H' hi hP => ?_) (fun σ' H' hP => ?_)
    · obtain ⟨fs, y1, y2, rfl, eH, hf, f1, f2⟩ := hP
      have hS' := ex_l eH hS
      have b0 := numb_nn ns (k + 1 + (i : Int))
      refine q_asg (ev_rI0 ev_c (ev_rI (ev_call (ea_cons (ev_var rfl) (ea_cons (ev_rI0 (ev_rI0 (ev_var rfl) ev_c) (ev_var rfl)) ea_nil)) (spv_number hS' (by omega) (by omega))) (ev_var rfl) (by omega))) fun H5 e5 => ?_
      have d0 : 0 ≤ numb ns (k + 1 + (i : Int)) % c := Int.emod_nonneg _ (by omega)
      generalize hd : numb ns (k + 1 + (i : Int)) % c = d at d0 ⊢
      refine s_when (b := decide (fs.sum + (1 + d) ≤ 200)) (et_test (ev_rI0 (ev_rI0 (ev_cb (ea_cons (ev_var rfl) ea_nil) (rc_sum (ex_l e5 hf.sq))) (ev_var rfl)) ev_c)) (fun hb H6 e6 => ?_) (fun hb H6 e6 => ?_)
      · have hle := of_decide_eq_true hb
        have hfl := len_le_sum f1
        refine s_app (xs := fs.map V.int) ((e5.trans e6) _ _ hf) (ev_var rfl) (ev_var rfl) (by rw [List.length_map]; omega) fun H7 e7 => ?_
        refine ⟨fs ++ [1 + d], _, _, rfl, ((eH.trans (e5.trans e6)).trans e7).mut npH, ?_, fun x hx => ?_, ?_⟩
        · show upd H7 p _ p = _
          rw [upd_same, List.map_append]
          rfl
        · rcases List.mem_append.mp hx with hx | hx
          · exact f1 x hx
          · rw [List.mem_singleton.mp hx]
            omega
        · rw [sum_append]
          show fs.sum + ((1 + d) + 0) ≤ 200
          omega
      · exact ⟨fs, _, _, rfl, eH.trans (e5.trans e6), (e5.trans e6) _ _ hf, f1, f2⟩
    · obtain ⟨fs, y1, y2, rfl, eH, hf, f1, f2⟩ := hP
      refine q_asgP (evP_sorted (ea_cons (ev_var rfl) ea_nil) hf.sq) fun v H5 e5 hv => ?_
      obtain ⟨o, ys, rfl, no, hp1, ho, hy⟩ := hv
      have noH : H o = none := fresh_back eH no
      refine q_rev (ev_var rfl) hy fun H6 e6 => ?_
      refine s_ret (ev_var rfl) fun H7 e7 => ?_
      refine q o ys.reverse H7 noH (((eH.trans (e5.trans e6)).mut noH).trans e7) (e7 _ _ ?_) ⟨fun x hx => ?_, desc_reverse ho, ?_⟩
      · rw [upd_same, List.map_reverse]
      · exact f1 x (hp1.mem_iff.mp (List.mem_reverse.mp hx))
      · rw [sum_perm (List.reverse_perm ys), sum_perm hp1]
        exact f2
theorem evP_parting {a : Addr} {ns : List Int} {k : Int} {σ : L2.St} {H : Hp} {ta : TA} {E : XK} (h : EvA ta σ H [.ref a, .int k]) (hS : SqL K H a (ns.map V.int)) (hl : ns.length ≤ 63) (k0 : 0 ≤ k) (k1 : k ≤ 1000) :
    EvP (tCall (sp_law_parting_by K) [] E ta) σ H (fun v H1 => ∃ (p : Addr) (ys : List Int), v = .ref p ∧ H p = none ∧ Ll H1 p ys ∧ IsP ys) :=
  evP_call h fun H1 e Q q E => ⟨a, ns, k, rfl, ex_l e hS, hl, k0, k1, fun p ys H2 np e2 hp hy => q _ _ e2 ⟨p, ys, rfl, fresh_back e np, hp, hy⟩⟩
end
/-! ### stairparts.partings: is_number, is_parting, check_parting -/
def partB : Int → Int → List Int → Bool
  | _, _, [] => true
  | ahead, whole, x :: r => if x < 1 ∨ ahead < x then false else if 200 < whole + x then false else partB x (whole + x) r
theorem partB_iff : ∀ (p : List Int) (ahead whole : Int), whole ≤ 200 → (partB ahead whole p = true ↔ (∀ x ∈ p, 1 ≤ x ∧ x ≤ ahead) ∧ p.Pairwise (fun a b => b ≤ a) ∧ whole + p.sum ≤ 200)
  | [], ahead, whole, h => by
    refine ⟨fun _ => ⟨fun x hx => (by cases hx), .nil, ?_⟩, fun _ => rfl⟩
    show whole + 0 ≤ 200
    omega
  | x :: r, ahead, whole, h => by
    show (if x < 1 ∨ ahead < x then false else if 200 < whole + x then false else partB x (whole + x) r) = true ↔ _
    rw [List.sum_cons, List.pairwise_cons]
    by_cases c : x < 1 ∨ ahead < x
    · rw [if_pos c]
      refine ⟨fun z => (by cases z), fun ⟨h1, _, _⟩ => ?_⟩
      have := h1 x List.mem_cons_self
      omega
    · rw [if_neg c]
      by_cases c2 : 200 < whole + x
      · rw [if_pos c2]
        refine ⟨fun z => (by cases z), fun ⟨h1, _, h3⟩ => ?_⟩
        have := sum_nn (p := r) fun y hy => (by have := h1 y (List.mem_cons_of_mem _ hy); omega)
        omega
      · rw [if_neg c2, partB_iff r x (whole + x) (by omega)]
        refine ⟨fun ⟨h1, h2, h3⟩ => ⟨fun y hy => ?_, ⟨fun y hy => (h1 y hy).2, h2⟩, by omega⟩, fun ⟨h1, h2, h3⟩ => ⟨fun y hy => ⟨(h1 y (List.mem_cons_of_mem _ hy)).1, h2.1 y hy⟩, h2.2, by omega⟩⟩
        rcases List.mem_cons.mp hy with e | hy
        · omega
        · have := h1 y hy
          omega
def isPart (p : List Int) : Bool := partB 200 0 p
theorem isPart_iff {p : List Int} : isPart p = true ↔ IsP p := by
  unfold isPart
  rw [partB_iff p 200 0 (by decide)]
  refine ⟨fun ⟨h1, h2, h3⟩ => ⟨fun x hx => (h1 x hx).1, h2, by omega⟩, fun ⟨h1, h2, h3⟩ => ⟨fun x hx => ⟨h1 x hx, ?_⟩, h2, by omega⟩⟩
  have := le_sum (fun y hy => (by have := h1 y hy; omega)) x hx
  omega
theorem IsP.is {p : List Int} (h : IsP p) : isPart p = true := isPart_iff.mpr h
section
variable {P : Program} {w : World} {K : PySem.W.Frag} {mg : Str → Option Value} {base : Heap}
def sp_is_number (K : PySem.W.Frag) : Sp := fun vs H Q _ => ∃ (x : V) (t : Value) (b1 b2 : Bool), vs = [x] ∧ (∀ H1, Ex H H1 → TyX K H1 x t) ∧ PySem.W.kitOne K t (.type "int") = some b1 ∧ PySem.W.kitOne K t (.type "bool") = some b2 ∧ RetV (.bl (b1 && !b2)) H Q
theorem ok_is_number (T : Tx K mg) : FnOk P w K mg base CX0 1 T.a_is_number T.d_is_number ["thing"] (sp_is_number K) := by
  refine T.F_is_number.ok sc_is_number (fun vs H Q E h => ?_) (fun cdv A outer s H vs Q E hr h => ?_)
  · obtain ⟨x, t, b1, b2, rfl, _⟩ := h
    rfl
  · obtain ⟨x, t, b1, b2, rfl, ty, k1, k2, q⟩ := h
    refine ⟨_, (pss_one (ps_ret (pe_and (pe_callB (isiK (K := K) rfl) (by rfl) T.n_isinstance (by decide +kernel) (pa_cons (pv 0) (pa_cons (pe_bltn (v := .ty "int") (u := .type "int") (by rfl) T.n_int (by decide +kernel) rfl) pa_nil))) (pe_one (pe_not (pe_callB (isiK (K := K) rfl) (by rfl) T.n_isinstance (by decide +kernel) (pa_cons (pv 0) (pa_cons (pe_bltn (v := .ty "bool") (u := .type "bool") (by rfl) T.n_bool (by decide +kernel) rfl) pa_nil)))))))), ?_⟩
    exact s_ret (ev_andV (ev_cb (ea_cons (ev_var rfl) (ea_cons ev_c ea_nil)) (rc_isi (.ty _) ty k1)) fun _ => ev_notV (ev_cb (ea_cons (ev_var rfl) (ea_cons ev_c ea_nil)) (rc_isi (.ty _) ty k2))) fun H1 e1 => q H1 e1
theorem spv_number_int {i : Int} {H : Hp} : SpV (sp_is_number K) [.int i] H (.bl true) := fun H1 e Q q _ =>
  ⟨.int i, .type "int", true, false, rfl, fun _ _ => .base (.int _), kit_ty (by decide +kernel), kit_ty (by decide +kernel), q⟩
def sp_is_parting : Sp := fun vs H Q _ => ∃ (a : Addr) (ns : List Int), vs = [.ref a] ∧ Ll H a ns ∧ RetV (.bl (isPart ns)) H Q
theorem ok_is_parting (T : Tx K mg) : FnOk P w K mg base CX0 2 T.a_is_parting T.d_is_parting ["thing"] sp_is_parting := by
  refine T.F_is_parting.ok sc_is_parting (fun vs H Q E h => ?_) (fun cdv A outer s H vs Q E hr h => ?_)
  · obtain ⟨a, ns, rfl, _⟩ := h
    rfl
  · obtain ⟨a, ns, rfl, hL, q⟩ := h
    refine ⟨_, (pss_cons (ps_if (pt_not (pt_val (pe_callB (isiK (K := K) rfl) (by rfl) T.n_isinstance (by decide +kernel) (pa_cons (pv 0) (pa_cons (pe_bltn (v := .ty "list") (u := .type "list") (by rfl) T.n_list (by decide +kernel) rfl) pa_nil)))))
      (pss_one (ps_ret pe_bl))
      pss_nil)
    (pss_cons (ps_set (i := 1) sc_is_parting.nd rfl (Or.inl rfl) pe_int)
    (pss_cons (ps_set (i := 2) sc_is_parting.nd rfl (Or.inl rfl) (pe_glob rfl T.c_GREATEST_WHOLE T.r_GREATEST_WHOLE))
    (pss_cons (ps_for PassesOwn.never rfl (pi_list (pv 0)) (pg_name (i := 3) sc_is_parting.nd rfl (Or.inl rfl))
      (pss_cons (ps_if (PW.pt (pw_or (pt_not (pt_val (pe_call (ok_is_number T) (hr.mono (by decide)) (by rfl) T.g_is_number T.F_is_number.kp T.b_is_number .nil pass0 (pa_cons (pv 3) pa_nil)))) (pw_or (pt_cmpR op_lt (pv 3) pe_int (nomark _)) (pw_or1 (pt_cmpR op_gt (pv 3) (pv 2) (nomark _))))))
        (pss_one (ps_ret pe_bl))
        pss_nil)
      (pss_cons (ps_set (i := 2) sc_is_parting.nd rfl (Or.inl rfl) (pv 3))
      (pss_cons (ps_aug (i := 1) sc_is_parting.nd rfl (Or.inl rfl) (pv 3) ip_add)
      (pss_one (ps_if (pt_cmpR op_gt (pv 1) (pe_glob rfl T.c_GREATEST_WHOLE T.r_GREATEST_WHOLE) (nomark _))
        (pss_one (ps_ret pe_bl))
        pss_nil))))))
    (pss_one (ps_ret pe_bl)))))), ?_⟩
    refine q_when (et_not (et_B (ev_cb (ea_cons (ev_var rfl) (ea_cons ev_c ea_nil)) (rc_isiL hL)))) (fun hb => by cases hb) (fun _ H1 e1 => ?_)
    refine q_asg ev_c fun H2 e2 => ?_
    refine q_asg ev_c fun H3 e3 => ?_
    have e13 := (e1.trans e2).trans e3
    refine q_forLn (ev_var rfl) (ex_l e13 hL.sq) (fun i σ' H' => ∃ (ah wh : Int) (y : Option V), σ' = [some (.ref a), some (.int wh), some (.int ah), y] ∧ Ex H H' ∧ isPart ns = partB ah wh (ns.drop i))
      (fun H4 e4 => ⟨200, 0, none, rfl, e13.trans e4, rfl⟩) (fun i σ' H' _ hP => ?_) (fun i x σ' H' hx hP => ?_) (fun σ' H' hP => ?_)
    · obtain ⟨ah, wh, y, rfl, eH, _⟩ := hP
      exact ex_l eH hL.sq
    · obtain ⟨ah, wh, y, rfl, eH, hp⟩ := hP
      obtain ⟨z, hz, rfl⟩ := get_int hx
      rw [drop_one hz] at hp
      have hp' : isPart ns = if z < 1 ∨ ah < z then false else if 200 < wh + z then false else partB z (wh + z) (ns.drop (i + 1)) := hp
      refine q_when (b := decide (z < 1) || decide (ah < z)) (et_is (et_or (et_not (et_B (ev_call (ea_cons (ev_var rfl) ea_nil) spv_number_int))) fun _ => et_or (et_test (ev_rI0 (ev_var rfl) ev_c)) fun _ => et_test (ev_rI0 (ev_var rfl) (ev_var rfl))) rfl) (fun hb H4 e4 => ?_) (fun hb H4 e4 => ?_)
      · refine s_ret ev_c fun H5 e5 => ?_
        rw [Bool.or_eq_true, decide_eq_true_eq, decide_eq_true_eq] at hb
        rw [if_pos hb] at hp'
        have := q H5 (eH.trans (e4.trans e5))
        rw [hp'] at this
        exact this
      · rw [Bool.or_eq_false_iff, decide_eq_false_iff_not, decide_eq_false_iff_not] at hb
        rw [if_neg (by omega)] at hp'
        refine q_asg (ev_var rfl) fun H5 e5 => ?_
        refine q_aug rfl (ev_var rfl) fun H6 e6 => ?_
        refine s_when (b := decide (200 < wh + z)) (et_test (ev_rI0 (ev_var rfl) ev_c)) (fun hb H7 e7 => ?_) (fun hb H7 e7 => ?_)
        · refine s_ret ev_c fun H8 e8 => ?_
          rw [if_pos (of_decide_eq_true hb)] at hp'
          have := q H8 (eH.trans ((((e4.trans e5).trans e6).trans e7).trans e8))
          rw [hp'] at this
          exact this
        · rw [if_neg (of_decide_eq_false hb)] at hp'
          exact ⟨z, wh + z, _, rfl, eH.trans (((e4.trans e5).trans e6).trans e7), hp'⟩
    · obtain ⟨ah, wh, y, rfl, eH, hp⟩ := hP
      have hp' : isPart ns = true := by
        rw [hp, List.drop_of_length_le (by rw [List.length_map]; exact Nat.le_refl _)]
        rfl
      refine s_ret ev_c fun H5 e5 => ?_
      have := q H5 (eH.trans e5)
      rw [hp'] at this
      exact this
theorem spv_is_parting {a : Addr} {ns : List Int} {H : Hp} (hL : Ll H a ns) : SpV sp_is_parting [.ref a] H (.bl (isPart ns)) := fun H1 e _ q _ => ⟨a, ns, rfl, e _ _ hL, q⟩
def sp_check_parting : Sp := fun vs H Q _ => ∃ (a : Addr) (ns : List Int), vs = [.ref a] ∧ Ll H a ns ∧ IsP ns ∧ RetV .non H Q
theorem ok_check_parting (T : Tx K mg) : FnOk P w K mg base CX0 3 T.a_check_parting T.d_check_parting ["thing"] sp_check_parting := by
  refine T.F_check_parting.ok sc_check_parting (fun vs H Q E h => ?_) (fun cdv A outer s H vs Q E hr h => ?_)
  · obtain ⟨a, ns, rfl, _⟩ := h
    rfl
  · obtain ⟨a, ns, rfl, hL, hp, q⟩ := h
    refine ⟨_, (pss_one (ps_if (pt_not (pt_val (pe_call (ok_is_parting T) (hr.mono (by decide)) (by rfl) T.g_is_parting T.F_is_parting.kp T.b_is_parting .nil pass0 (pa_cons (pv 0) pa_nil))))
      (pss_one ps_never)
      pss_nil)), ?_⟩
    refine s_when (et_not (et_B (ev_call (ea_cons (ev_var rfl) ea_nil) (spv_is_parting hL)))) (fun hb => ?_) (fun _ H1 e1 => q H1 e1)
    rw [hp.is] at hb
    cases hb
theorem spv_check {a : Addr} {ns : List Int} {H : Hp} (hL : Ll H a ns) (hp : IsP ns) : SpV sp_check_parting [.ref a] H .non := fun H1 e _ q _ => ⟨a, ns, rfl, e _ _ hL, hp, q⟩
end
/-! ### stairparts.partings: check_number, where it is one -/
section
variable {P : Program} {w : World} {K : PySem.W.Frag} {mg : Str → Option Value} {base : Heap}
def sp_check_number : Sp := fun vs H Q _ => ∃ i : Int, vs = [.int i] ∧ 0 ≤ i ∧ RetV .non H Q
theorem ok_check_number (T : Tx K mg) : FnOk P w K mg base CX0 3 T.a_check_number T.d_check_number ["thing"] sp_check_number := by
  refine T.F_check_number.ok sc_check_number (fun vs H Q E h => ?_) (fun cdv A outer s H vs Q E hr h => ?_)
  · obtain ⟨i, rfl, _⟩ := h
    rfl
  · obtain ⟨i, rfl, h0, q⟩ := h
    refine ⟨_, (pss_one (ps_if (PW.pt (pw_or (pt_not (pt_val (pe_call (ok_is_number T) (hr.mono (by decide)) (by rfl) T.g_is_number T.F_is_number.kp T.b_is_number .nil pass0 (pa_cons (pv 0) pa_nil)))) (pw_or1 (pt_cmpR op_lt (pv 0) pe_int (nomark _)))))
      (pss_one ps_never)
      pss_nil)), ?_⟩
    refine s_when (et_or (et_not (et_B (ev_call (ea_cons (ev_var rfl) ea_nil) spv_number_int))) fun _ => et_test (ev_rI0 (ev_var rfl) ev_c)) (fun hb => ?_) (fun _ H1 e1 => q H1 e1)
    simp at hb
    omega
theorem spv_checkn {i : Int} {H : Hp} (h : 0 ≤ i) : SpV sp_check_number [.int i] H .non := fun _ _ _ q _ => ⟨i, rfl, h, q⟩
end
/-! ### the greatest of some numbers, 0 of none -/
def mx (ns : List Int) : Int := ns.foldl max 0
theorem foldl_max_ge : ∀ (ns : List Int) (d : Int), d ≤ ns.foldl max d
  | [], d => Int.le_refl d
  | x :: r, d => by
    have := foldl_max_ge r (max d x)
    rw [List.foldl_cons]
    omega
theorem foldl_max_mem : ∀ (ns : List Int) (d : Int), ∀ x ∈ ns, x ≤ ns.foldl max d
  | [], _, x, h => by cases h
  | y :: r, d, x, h => by
    rw [List.foldl_cons]
    rcases List.mem_cons.mp h with e | h
    · have := foldl_max_ge r (max d y)
      omega
    · exact foldl_max_mem r _ x h
theorem foldl_max_le : ∀ (ns : List Int) (d m : Int), d ≤ m → (∀ x ∈ ns, x ≤ m) → ns.foldl max d ≤ m
  | [], d, m, h, _ => h
  | x :: r, d, m, h, hx => by
    have := hx x List.mem_cons_self
    rw [List.foldl_cons]
    exact foldl_max_le r _ m (by omega) fun y hy => hx y (List.mem_cons_of_mem _ hy)
theorem mx_nn (ns : List Int) : 0 ≤ mx ns := foldl_max_ge ns 0
theorem mx_mem {ns : List Int} : ∀ x ∈ ns, x ≤ mx ns := foldl_max_mem ns 0
theorem mx_eq {ns : List Int} {m : Int} (h0 : 0 ≤ m) (hm : m ∈ ns) (hle : ∀ y ∈ ns, y ≤ m) : m = mx ns := by
  have h1 := mx_mem m hm
  have h2 := foldl_max_le ns 0 m h0 hle
  unfold mx at *
  omega
theorem mx_le {ns : List Int} (h : IsP ns) : mx ns ≤ 200 := foldl_max_le ns 0 200 (by decide) fun x hx => by
  have := le_sum (fun y hy => (by have := h.1 y hy; omega)) x hx
  have := h.2.2
  omega
/-! ### the mathematics of the square -/
/-- the square's number -/
def sq (p : List Int) : Nat := ((List.range p.length).filter fun (i : Nat) => decide ((i : Int) < p.getD i 0)).length
theorem at_getD {p : List Int} {i : Nat} (h : i < p.length) : p[i]? = some (p.getD i 0) := by
  rw [List.getD, List.getElem?_eq_getElem h]
  rfl
theorem desc_le {p : List Int} (h : p.Pairwise fun a b => b ≤ a) {i j : Nat} (hij : i ≤ j) (hj : j < p.length) : p.getD j 0 ≤ p.getD i 0 := by
  rcases Nat.lt_or_ge i j with c | c
  · have := List.pairwise_iff_getElem.mp h i j (by omega) hj c
    simp only [List.getD, List.getElem?_eq_getElem hj, List.getElem?_eq_getElem (show i < p.length by omega), Option.getD_some]
    exact this
  · rw [show j = i by omega]
    exact Int.le_refl _
theorem sq_iff {p : List Int} (h : p.Pairwise fun a b => b ≤ a) (i : Nat) : i < sq p ↔ i < p.length ∧ (i : Int) < p.getD i 0 := by
  unfold sq
  rw [dc_count (fun (i : Nat) => decide ((i : Int) < p.getD i 0)) p.length (fun i j hij hj hb => ?_) i, decide_eq_true_eq]
  have := desc_le h hij hj
  rw [decide_eq_true_eq] at hb ⊢
  omega
theorem sq_le (p : List Int) : sq p ≤ p.length := by
  unfold sq
  have := List.length_filter_le (fun i : Nat => decide ((i : Int) < p.getD i 0)) (List.range p.length)
  rw [List.length_range] at this
  exact this
def besideOf (p : List Int) (k : Nat) : List Int := ((p.take k).filter fun z => decide ((k : Int) < z)).map fun z => z - (k : Int)
/-- what put_square tells: none, a refusal -/
def putV (xs ys : List Int) (n : Int) : Option (List Int) :=
  if n < xs.length ∨ n < mx ys then none else if 200 < n ∨ 200 < n * n + xs.sum + ys.sum then none else some ((xs ++ List.replicate (n - xs.length).toNat 0).map (fun z => n + z) ++ ys)
theorem sum_shift (k : Int) : ∀ l : List Int, (l.map fun z => k + z).sum = k * l.length + l.sum
  | [] => by simp
  | x :: r => by
    rw [List.map_cons, List.sum_cons, List.sum_cons, sum_shift k r, List.length_cons, Int.natCast_add, Int.mul_add]
    omega
theorem sum_zeros : ∀ n : Nat, (List.replicate n (0 : Int)).sum = 0
  | 0 => rfl
  | n + 1 => by rw [List.replicate_succ, List.sum_cons, sum_zeros n]; rfl
theorem filter_zeros {k : Int} : ∀ l : List Int, l.Pairwise (fun a b => b ≤ a) → (∀ x ∈ l, k ≤ x) → l.filter (fun z => decide (k < z)) ++ List.replicate (l.length - (l.filter fun z => decide (k < z)).length) k = l
  | [], _, _ => rfl
  | x :: r, h, hk => by
    have ih := filter_zeros r (List.pairwise_cons.mp h).2 fun y hy => hk y (List.mem_cons_of_mem _ hy)
    by_cases c : k < x
    · rw [List.filter_cons, if_pos (decide_eq_true c), List.length_cons, List.length_cons, Nat.add_sub_add_right, List.cons_append, ih]
    · have hx := hk x List.mem_cons_self
      have e : x = k := by omega
      have e0 : (x :: r).filter (fun z => decide (k < z)) = [] := List.filter_eq_nil_iff.mpr fun y hy => by
        rcases List.mem_cons.mp hy with e' | hy
        · rw [e']
          simpa using c
        · have := (List.pairwise_cons.mp h).1 y hy
          simp
          omega
      rw [e0, List.length_nil, Nat.sub_zero, List.nil_append]
      refine (List.eq_replicate_iff.mpr ⟨rfl, fun y hy => ?_⟩).symm
      have h1 := hk y hy
      rcases List.mem_cons.mp hy with e' | hy
      · omega
      · have := (List.pairwise_cons.mp h).1 y hy
        omega
/-- cut and put together again -/
theorem put_cut {p : List Int} (h : IsP p) : putV (besideOf p (sq p)) (p.drop (sq p)) (sq p : Int) = some p ∧ IsP (besideOf p (sq p)) ∧ IsP (p.drop (sq p)) := by
  have hk := sq_le p
  have hl := h.len
  generalize hkk : sq p = k at hk
  have big : ∀ x ∈ p.take k, (k : Int) ≤ x := fun x hx => by
    obtain ⟨i, hi, rfl⟩ := List.mem_iff_getElem.mp hx
    rw [List.length_take] at hi
    rw [List.getElem_take]
    have h1 := (sq_iff h.2.1 (k - 1)).mp (by omega)
    have h2 := desc_le h.2.1 (show i ≤ k - 1 by omega) (by omega)
    have e : p.getD i 0 = p[i]'(by omega) := by simp [List.getD, show i < p.length by omega]
    omega
  have small : ∀ x ∈ p.drop k, x ≤ (k : Int) := fun x hx => by
    obtain ⟨i, hi, rfl⟩ := List.mem_iff_getElem.mp hx
    rw [List.length_drop] at hi
    rw [List.getElem_drop]
    have h1 : ¬ k < sq p := by omega
    rw [sq_iff h.2.1 k] at h1
    have h2 := desc_le h.2.1 (show k ≤ k + i by omega) (by omega)
    have e : p.getD (k + i) 0 = p[k + i]'(by omega) := by simp [List.getD, show k + i < p.length by omega]
    omega
  have lt : (p.take k).length = k := by rw [List.length_take]; omega
  have key := filter_zeros (k := (k : Int)) (p.take k) (h.2.1.sublist (List.take_sublist _ _)) big
  have lb : (besideOf p k).length = ((p.take k).filter fun z => decide ((k : Int) < z)).length := by
    unfold besideOf
    rw [List.length_map]
  have lle := List.length_filter_le (fun z => decide ((k : Int) < z)) (p.take k)
  have e1 : (besideOf p k ++ List.replicate ((k : Int) - (besideOf p k).length).toNat 0).map (fun z => (k : Int) + z) = p.take k := by
    rw [List.map_append, List.map_replicate, Int.add_zero, show ((k : Int) - (besideOf p k).length).toNat = (p.take k).length - ((p.take k).filter fun z => decide ((k : Int) < z)).length by omega]
    unfold besideOf
    rw [List.map_map]
    have e2 : (fun z => (k : Int) + z) ∘ (fun z => z - (k : Int)) = id := by
      funext z
      show (k : Int) + (z - k) = z
      omega
    rw [e2, List.map_id]
    exact key
  have s1 : (k : Int) * k + (besideOf p k).sum = (p.take k).sum := by
    have := congrArg List.sum e1
    rw [sum_shift, sum_append, sum_zeros, List.length_append, List.length_replicate] at this
    have e3 : (((besideOf p k).length + ((k : Int) - (besideOf p k).length).toNat : Nat) : Int) = k := by omega
    rw [e3] at this
    omega
  have s2 : p.sum = (p.take k).sum + (p.drop k).sum := by
    conv => lhs; rw [← List.take_append_drop k p]
    exact sum_append _ _
  have hs := h.2.2
  have nb : ∀ x ∈ besideOf p k, 1 ≤ x := fun x hx => by
    unfold besideOf at hx
    obtain ⟨y, hy, rfl⟩ := List.mem_map.mp hx
    have := (List.mem_filter.mp hy).2
    simp at this
    omega
  have nd : ∀ x ∈ p.drop k, 1 ≤ x := fun x hx => h.1 x (List.mem_of_mem_drop hx)
  have sb := sum_nn (p := besideOf p k) fun x hx => by have := nb x hx; omega
  have sd := sum_nn (p := p.drop k) fun x hx => by have := nd x hx; omega
  have kk : 0 ≤ (k : Int) * k := Int.mul_nonneg (by omega) (by omega)
  have m1 : ¬ ((k : Int) < (besideOf p k).length ∨ (k : Int) < mx (p.drop k)) := by
    have := foldl_max_le (p.drop k) 0 k (by omega) small
    unfold mx
    omega
  refine ⟨?_, ⟨nb, ?_, by omega⟩, ⟨nd, h.2.1.sublist (List.drop_sublist _ _), by omega⟩⟩
  · unfold putV
    rw [if_neg m1, if_neg (by omega), e1, List.take_append_drop]
  · unfold besideOf
    rw [List.pairwise_map]
    refine ((h.2.1.sublist (List.take_sublist _ _)).sublist List.filter_sublist).imp fun hab => ?_
    omega
/-- put together and cut again -/
theorem cut_put {xs ys r : List Int} {n : Int} (h0 : 0 ≤ n) (hx : IsP xs) (hy : IsP ys) (h : putV xs ys n = some r) : IsP r ∧ (sq r : Int) = n ∧ besideOf r (sq r) = xs ∧ r.drop (sq r) = ys := by
  unfold putV at h
  split at h
  · cases h
  rename_i c1
  split at h
  · cases h
  rename_i c2
  obtain ⟨k, rfl⟩ := Int.eq_ofNat_of_zero_le h0
  have h := Option.some.inj h
  have c3 : xs.length ≤ k := by omega
  have hym : ∀ x ∈ ys, x ≤ (k : Int) := fun x hx => by
    have := mx_mem x hx
    omega
  generalize hf : (xs ++ List.replicate ((k : Int) - xs.length).toNat 0).map (fun z => (k : Int) + z) = f at h
  have lf : f.length = k := by
    rw [← hf, List.length_map, List.length_append, List.length_replicate]
    omega
  have ef : f = xs.map (fun z => (k : Int) + z) ++ List.replicate (k - xs.length) (k : Int) := by
    rw [← hf, List.map_append, List.map_replicate, Int.add_zero, show ((k : Int) - xs.length).toNat = k - xs.length by omega]
  have big : ∀ x ∈ f, (k : Int) ≤ x := fun x hx' => by
    rw [ef] at hx'
    rcases List.mem_append.mp hx' with m | m
    · obtain ⟨z, hz, rfl⟩ := List.mem_map.mp m
      have := hx.1 z hz
      omega
    · rw [(List.mem_replicate.mp m).2]
      omega
  have pf : f.Pairwise fun a b => b ≤ a := by
    rw [ef, List.pairwise_append]
    refine ⟨?_, ?_, fun a ha b hb => ?_⟩
    · rw [List.pairwise_map]
      exact hx.2.1.imp fun hab => by omega
    · rw [List.pairwise_replicate]
      exact .inr (Int.le_refl _)
    · rw [(List.mem_replicate.mp hb).2]
      obtain ⟨z, hz, rfl⟩ := List.mem_map.mp ha
      have := hx.1 z hz
      omega
  have sf : f.sum = (k : Int) * k + xs.sum := by
    rw [← hf, sum_shift, sum_append, sum_zeros, List.length_append, List.length_replicate, show ((xs.length + ((k : Int) - xs.length).toNat : Nat) : Int) = k by omega]
    omega
  have pr : r.Pairwise fun a b => b ≤ a := by
    rw [← h, List.pairwise_append]
    exact ⟨pf, hy.2.1, fun a ha b hb => by have := big a ha; have := hym b hb; omega⟩
  have ir : IsP r := by
    refine ⟨fun x hx' => ?_, pr, ?_⟩
    · rw [← h] at hx'
      rcases List.mem_append.mp hx' with m | m
      · have := big x m
        have : 0 < f.length := List.length_pos_iff.mpr fun z => by rw [z] at m; cases m
        omega
      · exact hy.1 x m
    · rw [← h, sum_append, sf]
      omega
  have er : sq r = k := by
    have g1 : ∀ i, i < k → i < sq r := fun i hi => by
      rw [sq_iff pr]
      have e : r.getD i 0 = f[i] := by
        rw [← h, List.getD, List.getElem?_append_left (by omega), List.getElem?_eq_getElem (by omega)]
        rfl
      have := big f[i] (List.getElem_mem _)
      rw [e, ← h, List.length_append]
      omega
    have g2 : ¬ k < sq r := fun hk => by
      rw [sq_iff pr] at hk
      have lk : k < r.length := hk.1
      rw [← h, List.length_append] at lk
      have e : r.getD k 0 = ys[k - f.length]'(by omega) := by
        rw [← h, List.getD, List.getElem?_append_right (by omega), List.getElem?_eq_getElem (by omega)]
        rfl
      have := hym ys[k - f.length] (List.getElem_mem _)
      omega
    have := g1 (k - 1)
    omega
  refine ⟨ir, by rw [er], ?_, ?_⟩
  · rw [er]
    unfold besideOf
    have e1 : r.take k = f := by rw [← h, List.take_append_of_le_length (by omega), ← lf, List.take_length]
    rw [e1, ef, List.filter_append, List.filter_map]
    have e2 : List.filter ((fun z => decide ((k : Int) < z)) ∘ fun z => (k : Int) + z) xs = xs := List.filter_eq_self.mpr fun z hz => by
      have := hx.1 z hz
      simp
      omega
    have e3 : (List.replicate (k - xs.length) (k : Int)).filter (fun z => decide ((k : Int) < z)) = [] := List.filter_eq_nil_iff.mpr fun z hz => by
      rw [(List.mem_replicate.mp hz).2]
      simp
    rw [e2, e3, List.append_nil, List.map_map]
    have e4 : (fun z => z - (k : Int)) ∘ (fun z => (k : Int) + z) = id := by
      funext z
      show (k : Int) + z - k = z
      omega
    rw [e4, List.map_id]
  · rw [er, ← h, List.drop_append_of_le_length (by omega), ← lf, List.drop_length, List.nil_append]
/-! ### stairparts.squares -/
section
variable {P : Program} {w : World} {K : PySem.W.Frag} {mg : Str → Option Value} {base : Heap}
def sp_square_of : Sp := fun vs H Q _ => ∃ (a : Addr) (ns : List Int), vs = [.ref a] ∧ Ll H a ns ∧ IsP ns ∧ RetV (.int (sq ns : Int)) H Q
theorem ok_square_of (T : Tx K mg) : FnOk P w K mg base CX0 4 T.a_square_of T.d_square_of ["parting"] sp_square_of := by
  refine T.F_square_of.ok sc_square_of (fun vs H Q E h => ?_) (fun cdv A outer s H vs Q E hr h => ?_)
  · obtain ⟨a, ns, rfl, _⟩ := h
    rfl
  · obtain ⟨a, ns, rfl, hL, hp, q⟩ := h
    refine ⟨_, (pss_cons (ps_expr (pe_call (ok_check_parting T) (hr.mono (by decide)) (by rfl) T.g_check_parting T.F_check_parting.kp T.b_check_parting .nil pass0 (pa_cons (pv 0) pa_nil)))
    (pss_one (ps_ret (pe_callB (lenK (K := K) rfl) (by rfl) T.n_len PySem.boot_len (pa_cons (pe_lc (own := [("place", 1), ("part", 2)]) (g := g2n K 1 2) (by rfl) sc_square_of.nd (pi_enum (by rfl) T.n_enumerate (pa_cons (pv 0) pa_nil)) (blkOk_by (own := [("place", 1), ("part", 2)]) (N := ["parting", "place", "part"]) (sc := defScope s_square_of) (by decide +kernel)) (fun _ _ _ _ _ => (pg_tup rfl (pgs_cons (pg_name (i := 1) sc_square_of.nd rfl (Or.inl rfl)) (pgs_cons (pg_name (i := 2) sc_square_of.nd rfl (Or.inl rfl)) pgs_nil)))) (fun _ _ _ _ _ => pts_one (pt_cmpR op_gt (pv 2) (pv 1) (nomark _))) (fun _ _ _ _ _ => (pv 2))) pa_nil))))), ?_⟩
    refine q_drop (ev_call (ea_cons (ev_var rfl) ea_nil) (spv_check hL hp)) fun H1 e1 => ?_
    have hl := hp.len
    refine s_ret (ev_is (ev_cbL (el_lcE (fun i => decide ((i : Int) < ns.getD i 0)) (fun i => V.int (ns.getD i 0)) (ea_cons (ev_var rfl) ea_nil) (ex_l e1 hL.sq) (by rw [List.length_map]; omega) (fun _ _ => rfl) (fun i z H2 hz e2 => ?_) (fun i z H2 hz e2 _ => ?_)) fun p H2 _ hp => rc_len (sq_of hp)) (by rw [given_length, List.length_map]; rfl)) fun H2 e2 => q H2 (e1.trans e2)
    · obtain ⟨y, e, rfl⟩ := get_int hz
      rw [show ns.getD i 0 = y by simp [List.getD, e]]
      exact et_test (ev_rI0 (ev_var rfl) (ev_var rfl))
    · obtain ⟨y, e, rfl⟩ := get_int hz
      rw [show ns.getD i 0 = y by simp [List.getD, e]]
      exact ev_var rfl
theorem spv_square {a : Addr} {ns : List Int} {H : Hp} (hL : Ll H a ns) (hp : IsP ns) : SpV sp_square_of [.ref a] H (.int (sq ns : Int)) := fun H1 e _ q _ => ⟨a, ns, rfl, e _ _ hL, hp, q⟩
/-- a number and two lists, new -/
def RetC (n : Int) (xs ys : List Int) (H : Hp) (Q : VK) : Prop := ∀ (t p q : Addr) (H2 : Hp), H t = none → H p = none → H q = none → p ≠ q → Ex H H2 → H2 t = some (.tup [.int n, .ref p, .ref q]) → Ll H2 p xs → Ll H2 q ys → Q (.ref t) H2
def sp_cut_square : Sp := fun vs H Q _ => ∃ (a : Addr) (ns : List Int), vs = [.ref a] ∧ Ll H a ns ∧ IsP ns ∧ RetC (sq ns : Int) (besideOf ns (sq ns)) (ns.drop (sq ns)) H Q
theorem ne_fresh {H H1 : Hp} {p q : Addr} {o : HO} (h : H p = some o) (e : Ex H H1) (hq : H1 q = none) : p ≠ q := fun z => by
  have := e _ _ h
  rw [z, hq] at this
  cases this
theorem ne_fresh0 {H : Hp} {p q : Addr} {o : HO} (h : H p = some o) (hq : H q = none) : p ≠ q := ne_fresh h (Ex.refl H) hq
theorem ok_cut_square (T : Tx K mg) : FnOk P w K mg base CX0 5 T.a_cut_square T.d_cut_square ["parting"] sp_cut_square := by
  refine T.F_cut_square.ok sc_cut_square (fun vs H Q E h => ?_) (fun cdv A outer s H vs Q E hr h => ?_)
  · obtain ⟨a, ns, rfl, _⟩ := h
    rfl
  · obtain ⟨a, ns, rfl, hL, hp, q⟩ := h
    refine ⟨_, (pss_cons (ps_set (i := 1) sc_cut_square.nd rfl (Or.inr rfl) (pe_call (ok_square_of T) (hr.mono (by decide)) (by rfl) T.g_square_of T.F_square_of.kp T.b_square_of .nil pass0 (pa_cons (pv 0) pa_nil)))
    (pss_cons (ps_setLc (i := 2) (own := [("part", 4)]) (g := gName 4) (by rfl) sc_cut_square.nd rfl rfl (sw_true rfl rfl rfl (by decide +kernel)) (pi_list (pe_slice (sllK (K := K) rfl) (pv 0) po_none (po_some (pv 1)))) (blkOk_by (own := [("part", 4)]) (N := ["parting", "number", "beside", "beneath", "part"]) (sc := defScope s_cut_square) (by decide +kernel)) (fun _ _ _ _ _ => (pg_name (i := 4) sc_cut_square.nd rfl (Or.inl rfl))) (fun _ _ _ _ _ => pts_one (pt_cmpR op_gt (pv 4) (pv 1) (nomark _))) (fun _ _ _ _ _ => (pe_op op_sub (pv 4) (pv 1))))
    (pss_cons (ps_set (i := 3) sc_cut_square.nd rfl (Or.inl rfl) (pe_slice (sllK (K := K) rfl) (pv 0) (po_some (pv 1)) po_none))
    (pss_one (ps_ret (pe_tup (pa_cons (pv 1) (pa_cons (pv 2) (pa_cons (pv 3) pa_nil))))))))), ?_⟩
    have hl := hp.len
    refine q_asg (ev_call (ea_cons (ev_var rfl) ea_nil) (spv_square hL hp)) fun H1 e1 => ?_
    refine q_asgL (xs := (besideOf ns (sq ns)).map V.int) (el_is (el_lcIN (ns := ns.take (sq ns)) (fun z => decide ((sq ns : Int) < z)) (fun z => V.int (z - (sq ns : Int))) (el_is (el_sl (ev_var rfl) eo_none (eo_some (ev_var rfl)) (ex_l e1 hL.sq)) (by rw [cut_upto, ← List.map_take])) (by rw [List.length_take]; omega) (fun _ => rfl)
      (fun z H2 _ _ => et_test (ev_rI0 (ev_var rfl) (ev_var rfl))) fun z H2 _ _ _ => ev_rI0 (ev_var rfl) (ev_var rfl)) (by unfold besideOf; rw [List.map_map]; rfl)) fun p H2 np e2 hp2 => ?_
    refine q_asgL (xs := (ns.drop (sq ns)).map V.int) (el_is (el_sl (ev_var rfl) (eo_some (ev_var rfl)) eo_none (ex_l (e1.trans e2) hL.sq)) (by rw [cut_from, ← List.map_drop])) fun b H3 nb e3 hb3 => ?_
    refine s_retU (eu_tup (ea_cons (ev_var rfl) (ea_cons (ev_var rfl) (ea_cons (ev_var rfl) ea_nil))) (by show 3 ≤ 100000; decide)) fun t H4 nt e4 ht => ?_
    exact q t p b H4 (fresh_back ((e1.trans e2).trans e3) nt) (fresh_back e1 np) (fresh_back (e1.trans e2) nb) (ne_fresh0 hp2 nb) (((e1.trans e2).trans e3).trans e4) ht ((e3.trans e4) _ _ hp2) (e4 _ _ hb3)
def sp_put_square (C : Addr) : Sp := fun vs H Q E => ∃ (a b : Addr) (xs ys : List Int) (n : Int), vs = [.ref a, .ref b, .int n] ∧ Ll H a xs ∧ Ll H b ys ∧ IsP xs ∧ IsP ys ∧ 0 ≤ n ∧
  (putV xs ys n = none → ∀ H', Ex H H' → E (.ref C) none H') ∧ ∀ r, putV xs ys n = some r → RetL (r.map V.int) H Q
theorem ok_put_square (T : Tx K mg) : FnOk P w K mg base (L2.CX P w) 4 T.a_put_square T.d_put_square ["beside", "beneath", "number"] (sp_put_square T.C_NoFit) := by
  refine T.F_put_square.okX sc_put_square (fun vs H Q E h => ?_) (fun cdv A outer s H vs Q E hr h => ?_)
  · obtain ⟨a, b, xs, ys, n, rfl, _⟩ := h
    rfl
  · obtain ⟨a, b, xs, ys, n, rfl, hX, hY, px, py, h0, qn, qs⟩ := h
    refine ⟨_, (pss_cons (ps_expr (pe_call (ok_check_parting T) (hr.mono (by decide)) (by rfl) T.g_check_parting T.F_check_parting.kp T.b_check_parting .nil pass0 (pa_cons (pv 0) pa_nil)))
    (pss_cons (ps_expr (pe_call (ok_check_parting T) (hr.mono (by decide)) (by rfl) T.g_check_parting T.F_check_parting.kp T.b_check_parting .nil pass0 (pa_cons (pv 1) pa_nil)))
    (pss_cons (ps_expr (pe_call (ok_check_number T) (hr.mono (by decide)) (by rfl) T.g_check_number T.F_check_number.kp T.b_check_number .nil pass0 (pa_cons (pv 2) pa_nil)))
    (pss_cons (ps_if (PW.pt (pw_or (pt_cmpR op_gt (pe_callB (lenK (K := K) rfl) (by rfl) T.n_len PySem.boot_len (pa_cons (pv 0) pa_nil)) (pv 2) (nomark _)) (pw_or1 (pt_cmpR op_gt (pe_callBK (maxDK (K := K) rfl rfl hr.two) (by rfl) T.n_max (by decide +kernel) (pa_cons (pv 1) pa_nil) (pk_cons pe_int pk_nil)) (pv 2) (nomark _)))))
      (pss_one (ps_raise rfl (takes_of rfl rfl rfl rfl) (pmk_own PySem.F.excBase_ValueError T.x_NoFit T.g_NoFit T.k_NoFit (raises_own T.s_NoFit T.t_NoFit) rfl)))
      pss_nil)
    (pss_cons (ps_if (PW.pt (pw_or (pt_cmpR op_gt (pv 2) (pe_glob rfl T.c_GREATEST_WHOLE T.r_GREATEST_WHOLE) (nomark _)) (pw_or1 (pt_cmpR op_gt (pe_op op_add (pe_op op_add (pe_op op_mul (pv 2) (pv 2)) (pe_callB (sumK (K := K) rfl rfl) (by rfl) T.n_sum (by decide +kernel) (pa_cons (pv 0) pa_nil))) (pe_callB (sumK (K := K) rfl rfl) (by rfl) T.n_sum (by decide +kernel) (pa_cons (pv 1) pa_nil))) (pe_glob rfl T.c_GREATEST_WHOLE T.r_GREATEST_WHOLE) (nomark _)))))
      (pss_one (ps_raise rfl (takes_of rfl rfl rfl rfl) (pmk_own PySem.F.excBase_ValueError T.x_NoFit T.g_NoFit T.k_NoFit (raises_own T.s_NoFit T.t_NoFit) rfl)))
      pss_nil)
    (pss_cons (ps_set (i := 3) sc_put_square.nd rfl (Or.inl rfl) (pe_op op_rep (pe_lst (pa_cons pe_int pa_nil)) (pe_op op_sub (pv 2) (pe_callB (lenK (K := K) rfl) (by rfl) T.n_len PySem.boot_len (pa_cons (pv 0) pa_nil)))))
    (pss_one (ps_ret (pe_op op_cat (pe_lc (own := [("part", 4)]) (g := gName 4) (by rfl) sc_put_square.nd (pi_list (pe_op op_cat (pv 0) (pv 3))) (blkOk_by (own := [("part", 4)]) (N := ["beside", "beneath", "number", "noughts", "part"]) (sc := defScope s_put_square) (by decide +kernel)) (fun _ _ _ _ _ => (pg_name (i := 4) sc_put_square.nd rfl (Or.inl rfl))) (fun _ _ _ _ _ => pts_nil) (fun _ _ _ _ _ => (pe_op op_add (pv 2) (pv 4)))) (pv 1)))))))))), ?_⟩
    have lx := px.len
    have ly := py.len
    refine q_drop (ev_call (ea_cons (ev_var rfl) ea_nil) (spv_check hX px)) fun H1 e1 => ?_
    refine q_drop (ev_call (ea_cons (ev_var rfl) ea_nil) (spv_check (e1 _ _ hY) py)) fun H2 e2 => ?_
    refine q_drop (ev_call (ea_cons (ev_var rfl) ea_nil) (spv_checkn h0)) fun H3 e3 => ?_
    have e13 := (e1.trans e2).trans e3
    refine q_when (b := decide (n < xs.length) || decide (n < mx ys)) (et_is (et_or (et_test (ev_rI0 (ev_cb (ea_cons (ev_var rfl) ea_nil) (rc_len (ex_l e13 hX.sq))) (ev_var rfl))) fun _ => et_test (ev_rI0 (ev_maxD (m := mx ys) (ea_cons (ev_var rfl) ea_nil) (ea_cons ev_c ea_nil) (ex_l e13 hY.sq) (fun z => ?_) (fun k k1 k2 => ?_)) (ev_var rfl))) (by rw [List.length_map])) (fun hb H4 e4 => ?_) (fun hb H4 e4 => ?_)
    · rw [z]
      rfl
    · exact mx_eq (by have := py.1 k k1; omega) k1 k2
    · show E (.ref T.C_NoFit) none H4
      refine qn ?_ H4 (e13.trans e4)
      simp at hb
      unfold putV
      rw [if_pos (by omega)]
    · have c1 : ¬ (n < xs.length ∨ n < mx ys) := by
        simp at hb
        omega
      unfold putV at qn qs
      rw [if_neg c1] at qn qs
      refine q_when (b := decide (200 < n) || decide (200 < n * n + xs.sum + ys.sum)) (et_or (et_test (ev_rI0 (ev_var rfl) ev_c)) fun hn => et_test (ev_rI0 (ev_rI0 (ev_rI0 (ev_rI (ev_var rfl) (ev_var rfl) (.inl (by simp at hn; omega))) (ev_cb (ea_cons (ev_var rfl) ea_nil) (rc_sum (ex_l (e13.trans e4) hX.sq)))) (ev_cb (ea_cons (ev_var rfl) ea_nil) (rc_sum (ex_l (e13.trans e4) hY.sq)))) ev_c)) (fun hb H5 e5 => ?_) (fun hb H5 e5 => ?_)
      · show E (.ref T.C_NoFit) none H5
        refine qn ?_ H5 ((e13.trans e4).trans e5)
        simp at hb
        rw [if_pos (by omega)]
      · have c2 : ¬ (200 < n ∨ 200 < n * n + xs.sum + ys.sum) := by
          simp at hb
          omega
        rw [if_neg c2] at qs
        have e15 := (e13.trans e4).trans e5
        have elx : ((xs.map V.int).length : Int) = (xs.length : Int) := by rw [List.length_map]
        refine q_asgL (xs := (List.replicate (n - xs.length).toNat (0 : Int)).map V.int) (el_is (el_rep (zs := [V.int 0]) (k := n - xs.length) (el_lst (ea_cons ev_c ea_nil) (by show 1 ≤ 100000; decide)) (ev_rI0 (ev_var rfl) (ev_is (ev_cb (ea_cons (ev_var rfl) ea_nil) (rc_len (ex_l e15 hX.sq))) (by rw [elx]))) ⟨by omega, by omega⟩ (by show 1 * _ ≤ 100000; omega)) ?_) fun p H6 np e6 hp6 => ?_
        · rw [List.map_replicate]
          generalize (n - xs.length).toNat = m
          induction m with
          | zero => rfl
          | succ m ih =>
            rw [List.replicate_succ, List.replicate_succ, List.flatten_cons, ih]
            rfl
        · have e16 := e15.trans e6
          refine s_retL (el_is (el_catN (zs := ((xs ++ List.replicate (n - xs.length).toNat 0).map fun z => V.int (n + z))) (ws := ys.map V.int) (el_lcINA (ns := xs ++ List.replicate (n - xs.length).toNat 0) (fun z => V.int (n + z)) (el_is (el_cat (ev_var rfl) (ev_var rfl) (e16 _ _ hX) hp6 (by rw [List.length_map, List.length_map, List.length_replicate]; omega)) (by rw [List.map_append])) (by rw [List.length_append, List.length_replicate]; omega) (fun _ => rfl) fun z H7 _ _ => ev_rI0 (ev_var rfl) (ev_var rfl)) (ev_var rfl) (e16 _ _ hY) (by rw [List.length_map, List.length_map, List.length_append, List.length_replicate]; omega)) rfl) fun r H7 nr e7 hr => ?_
          refine qs _ rfl r H7 (fresh_back e16 nr) (e16.trans e7) ?_
          rw [hr]
          show some (HO.lst (_ ++ _)) = some (HO.lst (List.map V.int (_ ++ _)))
          rw [List.map_append (l₁ := List.map _ _), List.map_map (l := xs ++ _)]
          rfl
end
/-! ### how many are greater -/
def cnt (ns : List Int) (c : Int) : Int := ((ns.filter fun z => decide (c < z)).length : Int)
theorem cnt_nil (c : Int) : cnt [] c = 0 := rfl
theorem cnt_cons (x : Int) (r : List Int) (c : Int) : cnt (x :: r) c = (if c < x then 1 else 0) + cnt r c := by
  unfold cnt
  rw [List.filter_cons]
  by_cases h : c < x
  · rw [if_pos (decide_eq_true h), if_pos h, List.length_cons]
    omega
  · rw [if_neg (by simpa using h), if_neg h]
    omega
theorem cnt_nn (p : List Int) (c : Int) : 0 ≤ cnt p c := Int.natCast_nonneg _
theorem cnt_le (p : List Int) (c : Int) : cnt p c ≤ p.length := by
  unfold cnt
  have := List.length_filter_le (fun z => decide (c < z)) p
  omega
theorem cnt_zero {p : List Int} {c : Int} (h : ∀ x ∈ p, x ≤ c) : cnt p c = 0 := by
  unfold cnt
  rw [List.filter_eq_nil_iff.mpr fun x hx => by have := h x hx; simpa using this]
  rfl
theorem cnt_anti (p : List Int) {c d : Int} (h : c ≤ d) : cnt p d ≤ cnt p c := by
  induction p with
  | nil => exact Int.le_refl _
  | cons x r ih =>
    rw [cnt_cons, cnt_cons]
    by_cases h1 : d < x
    · rw [if_pos h1, if_pos (by omega)]
      omega
    · rw [if_neg h1]
      split <;> omega
theorem cnt_all {p : List Int} (h : ∀ x ∈ p, 1 ≤ x) : cnt p 0 = p.length := by
  induction p with
  | nil => rfl
  | cons x r ih =>
    have h1 := h x List.mem_cons_self
    rw [cnt_cons, if_pos (by omega), ih fun y hy => h y (List.mem_cons_of_mem _ hy), List.length_cons]
    omega
/-- the i-th row is longer than c just where more than i rows are -/
theorem cnt_iff : ∀ {p : List Int} {i : Nat} {x c : Int}, p.Pairwise (fun a b => b ≤ a) → p[i]? = some x → ((i : Int) < cnt p c ↔ c < x)
  | [], i, x, c, _, h => by simp at h
  | y :: r, 0, x, c, hp, h => by
    have e : y = x := Option.some.inj h
    subst e
    rw [cnt_cons]
    by_cases h1 : c < y
    · rw [if_pos h1]
      have := cnt_nn r c
      constructor <;> intro <;> omega
    · rw [if_neg h1, cnt_zero fun z hz => by have := (List.pairwise_cons.mp hp).1 z hz; omega]
      constructor <;> intro <;> omega
  | y :: r, i + 1, x, c, hp, h => by
    have h' : r[i]? = some x := h
    have ih := cnt_iff (c := c) (List.pairwise_cons.mp hp).2 h'
    rw [cnt_cons]
    by_cases h1 : c < y
    · rw [if_pos h1]
      constructor
      · intro h2
        exact ih.mp (by omega)
      · intro h2
        have := ih.mpr h2
        omega
    · have hx := (List.pairwise_cons.mp hp).1 x (List.mem_of_getElem? h')
      rw [if_neg h1, cnt_zero fun z hz => by have := (List.pairwise_cons.mp hp).1 z hz; omega]
      constructor <;> intro <;> omega
theorem mx_of : ∀ (p : List Int), mx p = 0 ∨ mx p ∈ p := fun p => by
  have key : ∀ (l : List Int) (d : Int), l.foldl max d = d ∨ l.foldl max d ∈ l := by
    intro l
    induction l with
    | nil => exact fun d => .inl rfl
    | cons x r ih =>
      intro d
      rw [List.foldl_cons]
      rcases ih (max d x) with e | e
      · by_cases h : x ≤ d
        · left
          rw [e]
          omega
        · right
          rw [e, show max d x = x by omega]
          exact List.mem_cons_self
      · exact .inr (List.mem_cons_of_mem _ e)
  exact key p 0
/-! ### _law_is_row -/
section
variable {P : Program} {w : World} {K : PySem.W.Frag} {mg : Str → Option Value} {base : Heap}
def sp_law_is_row : Sp := fun vs H Q _ => ∃ (a b : Addr) (xs ys : List Int), vs = [.ref a, .ref b] ∧ Ll H a xs ∧ Ll H b ys ∧ xs.length ≤ 40000 ∧ RetV (.bl (decide (xs = ys))) H Q
theorem all_true (xs : List Int) : ((xs.map fun _ => true).all id) = true := by
  rw [List.all_eq_true]
  intro b hb
  obtain ⟨_, _, rfl⟩ := List.mem_map.mp hb
  rfl
theorem ok_law_is_row (T : Tx K mg) : FnOk P w K mg base CX0 1 T.a_law_is_row T.d_law_is_row ["_law_found", "_law_due"] sp_law_is_row := by
  refine T.F_law_is_row.ok sc_law_is_row (fun vs H Q E h => ?_) (fun cdv A outer s H vs Q E hr h => ?_)
  · obtain ⟨a, b, xs, ys, rfl, _⟩ := h
    rfl
  · obtain ⟨a, b, xs, ys, rfl, hx, hy, hz, q⟩ := h
    refine ⟨_, (pss_cons (ps_if (PW.pt (pw_or (pt_not (pt_val (pe_callB (isiK (K := K) rfl) (by rfl) T.n_isinstance (by decide +kernel) (pa_cons (pv 0) (pa_cons (pe_bltn (v := .ty "list") (u := .type "list") (by rfl) T.n_list (by decide +kernel) rfl) pa_nil))))) (pw_or1 (pt_cmpR (neK (K := K) rfl hr.units) (pv 0) (pv 1) (nomark _)))))
      (pss_one (ps_ret pe_bl))
      pss_nil)
    (pss_one (ps_ret (pe_callB (allK (K := K) rfl rfl) (by rfl) T.n_all (by decide +kernel) (pa_cons (pe_lc (own := [("_law_one", 2)]) (g := gName 2) (by rfl) sc_law_is_row.nd (pi_list (pv 0)) (blkOk_by (own := [("_law_one", 2)]) (N := ["_law_found", "_law_due", "_law_one"]) (sc := defScope s_law_is_row) (by decide +kernel)) (fun _ _ _ _ _ => (pg_name (i := 2) sc_law_is_row.nd rfl (Or.inl rfl))) (fun _ _ _ _ _ => pts_nil) (fun _ _ _ _ _ => (pe_and (pe_callB (isiK (K := K) rfl) (by rfl) T.n_isinstance (by decide +kernel) (pa_cons (pv 2) (pa_cons (pe_bltn (v := .ty "int") (u := .type "int") (by rfl) T.n_int (by decide +kernel) rfl) pa_nil))) (pe_one (pe_not (pe_callB (isiK (K := K) rfl) (by rfl) T.n_isinstance (by decide +kernel) (pa_cons (pv 2) (pa_cons (pe_bltn (v := .ty "bool") (u := .type "bool") (by rfl) T.n_bool (by decide +kernel) rfl) pa_nil)))))))) pa_nil))))), ?_⟩
    refine q_when (et_or (et_not (et_B (ev_cb (ea_cons (ev_var rfl) (ea_cons ev_c ea_nil)) (rc_isiL hx)))) fun _ => et_test (ev_op (ev_var rfl) (ev_var rfl) (rv_neL hx.sq hy.sq))) (fun hb H1 e1 => ?_) (fun hb H1 e1 => ?_)
    · refine s_ret ev_c fun H2 e2 => ?_
      have hn : decide (xs = ys) = false := by
        cases h : decide (xs = ys) with
        | false => rfl
        | true => rw [h] at hb; cases hb
      have := q H2 (e1.trans e2)
      rw [hn] at this
      exact this
    · have hn : decide (xs = ys) = true := by
        cases h : decide (xs = ys) with
        | true => rfl
        | false => rw [h] at hb; cases hb
      refine s_ret (ev_cbL (el_is (el_lcIA (fun _ => V.bl true) (ev_var rfl) (Ll.sq (e1 _ _ hx)) hz (fun _ => rfl) fun z H2 _ _ => ev_andV (ev_cb (ea_cons (ev_var rfl) (ea_cons ev_c ea_nil)) rc_isiInt) fun _ => ev_notV (ev_cb (ea_cons (ev_var rfl) (ea_cons ev_c ea_nil)) rc_isiBool))
        (show xs.map (fun _ => V.bl true) = (xs.map fun _ => true).map V.bl from (List.map_map).symm)) fun p H2 _ hp => rc_all (sq_of hp)) fun H2 e2 => ?_
      rw [all_true]
      have := q H2 (e1.trans e2)
      rw [hn] at this
      exact this
theorem spv_row {a b : Addr} {xs ys : List Int} {H : Hp} (hx : Ll H a xs) (hy : Ll H b ys) (hz : xs.length ≤ 40000) : SpV sp_law_is_row [.ref a, .ref b] H (.bl (decide (xs = ys))) := fun H1 e _ q _ => ⟨a, b, xs, ys, rfl, e _ _ hx, e _ _ hy, hz, q⟩
end
/-! ### _law_name -/
section
variable {P : Program} {w : World} {K : PySem.W.Frag} {mg : Str → Option Value} {base : Heap}
/-- the name of the refusal NoFit -/
def sp_law_name (C : Addr) : Sp := fun vs H Q _ => ∃ e : Addr, vs = [.ref e] ∧ H e = some (ErrO (.ref C) e) ∧ RetV (.str "fit") H Q
theorem ok_law_name (T : Tx K mg) : FnOk P w K mg base CX0 1 T.a_law_name T.d_law_name ["_law_error"] (sp_law_name T.C_NoFit) := by
  refine T.F_law_name.ok sc_law_name (fun vs H Q E h => ?_) (fun cdv A outer s H vs Q E hr h => ?_)
  · obtain ⟨e, rfl, _⟩ := h
    rfl
  · obtain ⟨e, rfl, he, q⟩ := h
    refine ⟨_, (pss_cons (ps_set (i := 1) sc_law_name.nd rfl (Or.inl rfl) (pe_lst (pa_cons (pe_callB (isxK (K := K) rfl) (by rfl) T.n_isinstance (by decide +kernel) (pa_cons (pv 0) (pa_cons (pe_glob (v := .ref T.C_NoParting) rfl T.g_NoParting rfl) pa_nil))) (pa_cons (pe_callB (isxK (K := K) rfl) (by rfl) T.n_isinstance (by decide +kernel) (pa_cons (pv 0) (pa_cons (pe_glob (v := .ref T.C_NoFit) rfl T.g_NoFit rfl) pa_nil))) (pa_cons (pe_callB (isxK (K := K) rfl) (by rfl) T.n_isinstance (by decide +kernel) (pa_cons (pv 0) (pa_cons (pe_glob (v := .ref T.C_NoNumber) rfl T.g_NoNumber rfl) pa_nil))) pa_nil)))))
    (pss_cons (ps_if (PW.pt (pw_or (pt_cmpR op_ne (pe_bm PySem.F.plainAttrs_list PySem.F.slot_list_count PySem.F.type_list_count (mt_countB (K := K) rfl) (pv 1) (pa_cons pe_bl pa_nil)) pe_int (nomark _)) (pw_or1 (pt_not (pt_val (pe_callB (isxK (K := K) rfl) (by rfl) T.n_isinstance (by decide +kernel) (pa_cons (pv 0) (pa_cons (pe_bltn (v := .ty "ValueError") (u := .type "ValueError") (by rfl) T.n_ValueError (by decide +kernel) rfl) pa_nil))))))))
      (pss_one (ps_ret pe_str))
      pss_nil)
    (pss_one (ps_ret (pe_ix (ixlK (K := K) rfl) (pe_lst (pa_cons pe_str (pa_cons pe_str (pa_cons pe_str pa_nil)))) (pe_bm PySem.F.plainAttrs_list PySem.F.slot_list_index PySem.F.type_list_index mt_index (pv 1) (pa_cons pe_bl pa_nil)) (fun _ _ => rfl)))))), ?_⟩
    refine q_asgL (xs := [false, true, false].map V.bl) (el_lst (ea_cons (ev_cb (ea_cons (ev_var rfl) (ea_cons ev_c ea_nil)) (rc_isx he T.e_NoFit (.own _) T.q_NoFit_NoParting)) (ea_cons (ev_cb (ea_cons (ev_var rfl) (ea_cons ev_c ea_nil)) (rc_isx he T.e_NoFit (.own _) T.q_NoFit_NoFit)) (ea_cons (ev_cb (ea_cons (ev_var rfl) (ea_cons ev_c ea_nil)) (rc_isx he T.e_NoFit (.own _) T.q_NoFit_NoNumber)) ea_nil))) (by decide)) fun p H1 np e1 hp => ?_
    refine q_when (et_or (et_test (ev_ne (ev_countB (ev_var rfl) (sq_of hp) (ea_cons ev_c ea_nil)) ev_c rfl)) fun _ => et_not (et_B (ev_cb (ea_cons (ev_var rfl) (ea_cons ev_c ea_nil)) (rc_isx (e1 _ _ he) T.e_NoFit (.ty _) T.q_NoFit_ValueError)))) (fun hb => absurd hb (by decide)) (fun _ H2 e2 => ?_)
    refine s_ret (ev_ixN (i := 1) (el_lst (ea_cons ev_c (ea_cons ev_c (ea_cons ev_c ea_nil))) (by decide)) (fun H3 e3 => ev_indexB (n := 1) (ev_var rfl) (sq_of (e3 _ _ (e2 _ _ hp))) (ea_cons ev_c ea_nil) rfl (fun m c hm hc => ?_)) rfl) fun H3 e3 => q H3 ((e1.trans e2).trans e3)
    have : m = 0 := by omega
    subst this
    cases hc
    exact Bool.false_ne_true
theorem spv_name {e C : Addr} {H : Hp} (he : H e = some (ErrO (.ref C) e)) : SpV (sp_law_name C) [.ref e] H (.str "fit") := fun H1 ex _ q _ => ⟨e, rfl, ex _ _ he, q⟩
/-- two written texts against what was told -/
theorem rv_neTT {t u : Addr} {H : Hp} {a b : Str} (h1 : H t = some (.tup [.str a, .str b])) (h2 : H u = some (.tup [.str a, .str b])) (ha : PyData.strOk a = true) (hb : PyData.strOk b = true) : RV (rNeD K) (.ref t) (.ref u) H (.bl false) := fun H1 e Q q => by
  have sh : SeqAt.shaped (.tuple [.str a, .str b]) = true := by
    unfold SeqAt.shaped
    simp [PyData.canLay0, PyData.canLayAll0, PyData.depth, PyData.depthAll, ha, hb]
  have eq1 : PyData.eqv (.tuple [.str a, .str b]) (.tuple [.str a, .str b]) = true := by simp [PyData.eqv, PyData.eqvAll]
  refine ⟨.tuple [.str a, .str b], .tuple [.str a, .str b], .tup (st_of (e _ _ h1)) (.cons (.str a) (.cons (.str b) .nil)), .tup (st_of (e _ _ h2)) (.cons (.str a) (.cons (.str b) .nil)), sh, sh, ?_⟩
  rw [eq1]
  exact q H1 (Ex.refl H1)
end
/-! ### the law's helpers: _law_side, _law_cut, _law_put, _law_told, _law_cut_right -/
def sideF (p : List Int) (i : Nat) : Bool := decide (((p.filter fun z => decide (1 + (i : Int) ≤ z)).length : Int) ≥ 1 + (i : Int))
def sideL (p : List Int) : List Int := ((List.range p.length).filter (sideF p)).map fun (i : Nat) => 1 + (i : Int)
theorem sideF_iff {p : List Int} (h : IsP p) {i : Nat} (hi : i < p.length) : sideF p i = true ↔ i < sq p := by
  have e : ((p.filter fun z => decide (1 + (i : Int) ≤ z)).length : Int) = cnt p (i : Int) := by
    unfold cnt
    rw [List.filter_congr (q := fun z => decide ((i : Int) < z)) fun z _ => by rw [decide_eq_decide]; omega]
  unfold sideF
  rw [e, decide_eq_true_eq, sq_iff h.2.1]
  have := cnt_iff (c := (i : Int)) h.2.1 (at_getD hi)
  constructor
  · intro h1
    exact ⟨hi, this.mp (by omega)⟩
  · intro h1
    have := this.mpr h1.2
    omega
theorem side_eq {p : List Int} (h : IsP p) {k : Int} (h1 : k ∈ 0 :: sideL p) (h2 : ∀ y ∈ 0 :: sideL p, y ≤ k) : k = (sq p : Int) := by
  have hle := sq_le p
  have up : k ≤ sq p := by
    rcases List.mem_cons.mp h1 with e | m
    · omega
    · obtain ⟨i, hi, rfl⟩ := List.mem_map.mp m
      obtain ⟨g1, g2⟩ := List.mem_filter.mp hi
      have := (sideF_iff h (List.mem_range.mp g1)).mp g2
      omega
  have dn : (sq p : Int) ≤ k := by
    rcases Nat.eq_zero_or_pos (sq p) with z | z
    · have := h2 0 List.mem_cons_self
      omega
    · have hi : sq p - 1 < p.length := by omega
      have := h2 (1 + ((sq p - 1 : Nat) : Int)) (List.mem_cons_of_mem _ (List.mem_map.mpr ⟨sq p - 1, List.mem_filter.mpr ⟨List.mem_range.mpr hi, (sideF_iff h hi).mpr (by omega)⟩, rfl⟩))
      omega
  omega
theorem any_mx {ys : List Int} {n : Int} (h0 : 0 ≤ n) : (ys.map fun z => decide (n < z)).any id = decide (n < mx ys) := by
  rw [Bool.eq_iff_iff, List.any_eq_true, decide_eq_true_eq]
  constructor
  · rintro ⟨b, hb, e⟩
    obtain ⟨z, hz, rfl⟩ := List.mem_map.mp hb
    have h1 := mx_mem z hz
    have h2 := of_decide_eq_true e
    omega
  · intro h1
    rcases mx_of ys with e | e
    · omega
    · exact ⟨_, List.mem_map.mpr ⟨_, e, rfl⟩, decide_eq_true h1⟩
section
variable {P : Program} {w : World} {K : PySem.W.Frag} {mg : Str → Option Value} {base : Heap}
theorem ok_law_side (T : Tx K mg) : FnOk P w K mg base CX0 1 T.a_law_side T.d_law_side ["_law_parting"] sp_square_of := by
  refine T.F_law_side.ok sc_law_side (fun vs H Q E h => ?_) (fun cdv A outer s H vs Q E hr h => ?_)
  · obtain ⟨a, ns, rfl, _⟩ := h
    rfl
  · obtain ⟨a, ns, rfl, hL, hp, q⟩ := h
    refine ⟨_, (pss_one (ps_ret (pe_callB (maxK (K := K) rfl rfl) (by rfl) T.n_max (by decide +kernel) (pa_cons (pe_op op_cat (pe_lst (pa_cons pe_int pa_nil)) (pe_lc (own := [("_law_k", 1)]) (g := gName 1) (by rfl) sc_law_side.nd (pi_range2 (by rfl) T.n_range (pa_cons pe_int (pa_cons (pe_op op_add (pe_callB (lenK (K := K) rfl) (by rfl) T.n_len PySem.boot_len (pa_cons (pv 0) pa_nil)) pe_int) pa_nil))) (blkOk_by (own := [("_law_k", 1)]) (N := ["_law_parting", "_law_k", "_law_part"]) (sc := defScope s_law_side) (by decide +kernel)) (fun _ _ _ _ _ => (pg_name (i := 1) sc_law_side.nd rfl (Or.inr rfl))) (fun _ _ _ _ _ => pts_one (pt_cmpR op_ge (pe_callB (lenK (K := K) rfl) (by rfl) T.n_len PySem.boot_len (pa_cons (pe_lc (own := [("_law_part", 2)]) (g := gName 2) (by rfl) sc_law_side.nd (pi_listK (K := K) rfl (pv 0)) (blkOk_by (own := [("_law_part", 2)]) (N := ["_law_parting", "_law_k", "_law_part"]) (sc := (relS lcs_law_side_21 (defScope s_law_side))) (by decide +kernel)) (fun _ _ _ _ _ => (pg_name (i := 2) sc_law_side.nd rfl (Or.inl rfl))) (fun _ _ _ _ _ => pts_one (pt_cmpR op_ge (pv 2) (pv 1) (nomark _))) (fun _ _ _ _ _ => (pv 2))) pa_nil)) (pv 1) (nomark _))) (fun _ _ _ _ _ => (pv 1)))) pa_nil)))), ?_⟩
    have hl := hp.len
    have eln : ((ns.map V.int).length : Int) = (ns.length : Int) := by rw [List.length_map]
    refine s_ret (ev_cbL (zs := (0 :: sideL ns).map V.int) (el_is (el_catNN (zs := [V.int 0]) (el_lst (ea_cons ev_c ea_nil) (by show 1 ≤ 100000; decide)) (el_lcR2F (lo := 1) (n := (ns.length : Int) + 1) (sideF ns) (fun i => V.int (1 + (i : Int))) (ea_cons ev_c (ea_cons (ev_rI0 (ev_is (ev_cb (ea_cons (ev_var rfl) ea_nil) (rc_len hL.sq)) (by rw [eln])) ev_c) ea_nil)) ⟨by omega, by omega, by omega, by omega⟩ (fun _ => rfl)
      (fun i H1 e1 hi => et_test (ev_rI0 (ev_is (ev_cbL (el_lcI (fun z => decide (1 + (i : Int) ≤ z)) V.int (ev_var rfl) (ex_l e1 hL.sq) (by omega) (fun _ => rfl) (fun z H2 _ _ => et_test (ev_rI0 (ev_var rfl) (ev_var rfl))) fun z H2 _ _ _ => ev_var rfl) fun p H1 _ hp => rc_len (sq_of hp)) (by rw [List.length_map])) (ev_var rfl))) (fun i H1 e1 hi _ => ev_var rfl)) ?_) ?_) fun p H1 _ hp' => rc_maxOf (sq_of hp') (Nat.succ_pos _) fun k k1 k2 => side_eq hp k1 k2) fun H1 e1 => q H1 e1
    · rw [given_length]
      have := List.length_filter_le (sideF ns) (List.range ((ns.length : Int) + 1 - 1).toNat)
      rw [List.length_range] at this
      show 1 + _ ≤ 100000
      omega
    · unfold sideL given
      rw [List.map_cons, List.map_map, show ((ns.length : Int) + 1 - 1).toNat = ns.length by omega]
      rfl
theorem spv_side {a : Addr} {ns : List Int} {H : Hp} (hL : Ll H a ns) (hp : IsP ns) : SpV sp_square_of [.ref a] H (.int (sq ns : Int)) := fun H1 e _ q _ => ⟨a, ns, rfl, e _ _ hL, hp, q⟩
def RetC0 (n : Int) (xs ys : List Int) (H : Hp) (Q : VK) : Prop := ∀ (t p q : Addr) (H2 : Hp), H t = none → H p = none → H q = none → Ex H H2 → H2 t = some (.tup [.int n, .ref p, .ref q]) → Ll H2 p xs → Ll H2 q ys → Q (.ref t) H2
def sp_law_cut : Sp := fun vs H Q _ => ∃ (a : Addr) (ns : List Int), vs = [.ref a] ∧ Ll H a ns ∧ IsP ns ∧ RetC0 (sq ns : Int) (besideOf ns (sq ns)) (ns.drop (sq ns)) H Q
theorem ok_law_cut (T : Tx K mg) : FnOk P w K mg base CX0 2 T.a_law_cut T.d_law_cut ["_law_parting"] sp_law_cut := by
  refine T.F_law_cut.ok sc_law_cut (fun vs H Q E h => ?_) (fun cdv A outer s H vs Q E hr h => ?_)
  · obtain ⟨a, ns, rfl, _⟩ := h
    rfl
  · obtain ⟨a, ns, rfl, hL, hp, q⟩ := h
    refine ⟨_, (pss_cons (ps_set (i := 1) sc_law_cut.nd rfl (Or.inr rfl) (pe_call (ok_law_side T) (hr.mono (by decide)) (by rfl) T.g_law_side T.F_law_side.kp T.b_law_side .nil pass0 (pa_cons (pv 0) pa_nil)))
    (pss_one (ps_ret (pe_tup (pa_cons (pv 1) (pa_cons (pe_lc (own := [("_law_part", 2)]) (g := gName 2) (by rfl) sc_law_cut.nd (pi_list (pe_slice (sllK (K := K) rfl) (pv 0) po_none (po_some (pv 1)))) (blkOk_by (own := [("_law_part", 2)]) (N := ["_law_parting", "_law_side_here", "_law_part"]) (sc := defScope s_law_cut) (by decide +kernel)) (fun _ _ _ _ _ => (pg_name (i := 2) sc_law_cut.nd rfl (Or.inl rfl))) (fun _ _ _ _ _ => pts_one (pt_cmpR op_gt (pv 2) (pv 1) (nomark _))) (fun _ _ _ _ _ => (pe_op op_sub (pv 2) (pv 1)))) (pa_cons (pe_slice (sllK (K := K) rfl) (pv 0) (po_some (pv 1)) po_none) pa_nil))))))), ?_⟩
    have hl := hp.len
    refine q_asg (ev_call (ea_cons (ev_var rfl) ea_nil) (spv_side hL hp)) fun H1 e1 => ?_
    refine s_retP (ep_tup (eap_cons (ev_var rfl) (eap_consL (zs := (besideOf ns (sq ns)).map V.int) (el_is (el_lcIN (ns := ns.take (sq ns)) (fun z => decide ((sq ns : Int) < z)) (fun z => V.int (z - (sq ns : Int))) (el_is (el_sl (ev_var rfl) eo_none (eo_some (ev_var rfl)) (ex_l e1 hL.sq)) (by rw [cut_upto, ← List.map_take])) (by rw [List.length_take]; omega) (fun _ => rfl)
      (fun z H2 _ _ => et_test (ev_rI0 (ev_var rfl) (ev_var rfl))) fun z H2 _ _ _ => ev_rI0 (ev_var rfl) (ev_var rfl)) (by unfold besideOf; rw [List.map_map]; rfl))
      (eap_consL (zs := (ns.drop (sq ns)).map V.int) (el_is (el_sl (ev_var rfl) (eo_some (ev_var rfl)) eo_none (ex_l e1 hL.sq)) (by rw [cut_from, ← List.map_drop])) eap_nil))) (mono_cons (mono_consL (mono_consL mono_nil))) ?_) fun v H2 e2 hv => ?_
    · rintro vs H1 ⟨_, rfl, _, _, rfl, _, _, _, _, rfl, _, _, rfl⟩
      show 3 ≤ 100000
      decide
    · obtain ⟨t, vs, rfl, nt, ht, _, rfl, p, _, rfl, np, hp2, b, _, rfl, nb, hb, rfl⟩ := hv
      exact q t p b H2 (fresh_back e1 nt) (fresh_back e1 np) (fresh_back e1 nb) (e1.trans e2) ht hp2 hb
theorem evP_lcut {a : Addr} {ns : List Int} {σ : L2.St} {H : Hp} {ta : TA} {E : XK} (h : EvA ta σ H [.ref a]) (hL : Ll H a ns) (hp : IsP ns) :
    EvP (tCall sp_law_cut [] E ta) σ H (fun v H1 => ∃ t p q : Addr, v = .ref t ∧ H t = none ∧ H p = none ∧ H q = none ∧ H1 t = some (.tup [.int (sq ns : Int), .ref p, .ref q]) ∧ Ll H1 p (besideOf ns (sq ns)) ∧ Ll H1 q (ns.drop (sq ns))) :=
  evP_call h fun H1 e Q q E => ⟨a, ns, rfl, e _ _ hL, hp, fun t p b H2 nt np nb e2 ht h1 h2 => q _ _ e2 ⟨t, p, b, rfl, fresh_back e nt, fresh_back e np, fresh_back e nb, ht, h1, h2⟩⟩
theorem evP_pcut {a : Addr} {ns : List Int} {σ : L2.St} {H : Hp} {ta : TA} {E : XK} (h : EvA ta σ H [.ref a]) (hL : Ll H a ns) (hp : IsP ns) :
    EvP (tCall sp_cut_square [] E ta) σ H (fun v H1 => ∃ t p q : Addr, v = .ref t ∧ H t = none ∧ H p = none ∧ H q = none ∧ p ≠ q ∧ H1 t = some (.tup [.int (sq ns : Int), .ref p, .ref q]) ∧ Ll H1 p (besideOf ns (sq ns)) ∧ Ll H1 q (ns.drop (sq ns))) :=
  evP_call h fun H1 e Q q E => ⟨a, ns, rfl, e _ _ hL, hp, fun t p b H2 nt np nb ne e2 ht h1 h2 => q _ _ e2 ⟨t, p, b, rfl, fresh_back e nt, fresh_back e np, fresh_back e nb, ne, ht, h1, h2⟩⟩
def sp_law_put : Sp := fun vs H Q _ => ∃ (a b : Addr) (xs ys : List Int) (n : Int), vs = [.ref a, .ref b, .int n] ∧ Ll H a xs ∧ Ll H b ys ∧ IsP xs ∧ IsP ys ∧ 0 ≤ n ∧ n ≤ 200 ∧ (putV xs ys n = none → RetV .non H Q) ∧ ∀ r, putV xs ys n = some r → RetL (r.map V.int) H Q
theorem ok_law_put (T : Tx K mg) : FnOk P w K mg base CX0 1 T.a_law_put T.d_law_put ["_law_beside", "_law_beneath", "_law_number_here"] sp_law_put := by
  refine T.F_law_put.ok sc_law_put (fun vs H Q E h => ?_) (fun cdv A outer s H vs Q E hr h => ?_)
  · obtain ⟨a, b, xs, ys, n, rfl, _⟩ := h
    rfl
  · obtain ⟨a, b, xs, ys, n, rfl, hX, hY, px, py, h0, h1, qn, qs⟩ := h
    refine ⟨_, (pss_cons (ps_if (PW.pt (pw_or (pt_cmpR op_gt (pe_callB (lenK (K := K) rfl) (by rfl) T.n_len PySem.boot_len (pa_cons (pv 0) pa_nil)) (pv 2) (nomark _)) (pw_or1 (pt_val (pe_callB (anyK (K := K) rfl rfl) (by rfl) T.n_any (by decide +kernel) (pa_cons (pe_lc (own := [("_law_part", 4)]) (g := gName 4) (by rfl) sc_law_put.nd (pi_list (pv 1)) (blkOk_by (own := [("_law_part", 4)]) (N := ["_law_beside", "_law_beneath", "_law_number_here", "_law_rows", "_law_part"]) (sc := defScope s_law_put) (by decide +kernel)) (fun _ _ _ _ _ => (pg_name (i := 4) sc_law_put.nd rfl (Or.inl rfl))) (fun _ _ _ _ _ => pts_nil) (fun _ _ _ _ _ => (pe_cmpR op_gt (pv 4) (pv 2) (nomark _)))) pa_nil))))))
      (pss_one (ps_ret pe_non))
      pss_nil)
    (pss_cons (ps_if (pt_cmpR op_gt (pe_op op_add (pe_op op_add (pe_op op_mul (pv 2) (pv 2)) (pe_callB (sumK (K := K) rfl rfl) (by rfl) T.n_sum (by decide +kernel) (pa_cons (pv 0) pa_nil))) (pe_callB (sumK (K := K) rfl rfl) (by rfl) T.n_sum (by decide +kernel) (pa_cons (pv 1) pa_nil))) pe_int (nomark _))
      (pss_one (ps_ret pe_non))
      pss_nil)
    (pss_cons (ps_set (i := 3) sc_law_put.nd rfl (Or.inl rfl) (pe_op op_cat (pv 0) (pe_op op_rep (pe_lst (pa_cons pe_int pa_nil)) (pe_op op_sub (pv 2) (pe_callB (lenK (K := K) rfl) (by rfl) T.n_len PySem.boot_len (pa_cons (pv 0) pa_nil))))))
    (pss_one (ps_ret (pe_op op_cat (pe_lc (own := [("_law_part", 4)]) (g := gName 4) (by rfl) sc_law_put.nd (pi_list (pv 3)) (blkOk_by (own := [("_law_part", 4)]) (N := ["_law_beside", "_law_beneath", "_law_number_here", "_law_rows", "_law_part"]) (sc := defScope s_law_put) (by decide +kernel)) (fun _ _ _ _ _ => (pg_name (i := 4) sc_law_put.nd rfl (Or.inl rfl))) (fun _ _ _ _ _ => pts_nil) (fun _ _ _ _ _ => (pe_op op_add (pv 2) (pv 4)))) (pv 1))))))), ?_⟩
    have lx := px.len
    have ly := py.len
    refine q_when (b := decide (n < xs.length) || decide (n < mx ys)) (et_is (et_or (et_test (ev_rI0 (ev_cb (ea_cons (ev_var rfl) ea_nil) (rc_len hX.sq)) (ev_var rfl))) fun _ => et_B (ev_cbL (el_is (el_lcIA (fun z => V.bl (decide (n < z))) (ev_var rfl) hY.sq (by omega) (fun _ => rfl) fun z H2 _ _ => ev_rI0 (ev_var rfl) (ev_var rfl)) (show ys.map (fun z => V.bl (decide (n < z))) = (ys.map fun z => decide (n < z)).map V.bl from (List.map_map).symm)) fun p H2 _ hp => rc_any (sq_of hp))) (by rw [List.length_map, any_mx h0])) (fun hb H4 e4 => ?_) (fun hb H4 e4 => ?_)
    · refine s_ret ev_c fun H5 e5 => qn ?_ H5 (e4.trans e5)
      simp at hb
      unfold putV
      rw [if_pos (by omega)]
    · have c1 : ¬ (n < xs.length ∨ n < mx ys) := by
        simp at hb
        omega
      unfold putV at qn qs
      rw [if_neg c1] at qn qs
      refine q_when (b := decide (200 < n * n + xs.sum + ys.sum)) (et_test (ev_rI0 (ev_rI0 (ev_rI0 (ev_rI (ev_var rfl) (ev_var rfl) (.inl (by omega))) (ev_cb (ea_cons (ev_var rfl) ea_nil) (rc_sum (ex_l e4 hX.sq)))) (ev_cb (ea_cons (ev_var rfl) ea_nil) (rc_sum (ex_l e4 hY.sq)))) ev_c)) (fun hb H5 e5 => ?_) (fun hb H5 e5 => ?_)
      · refine s_ret ev_c fun H6 e6 => qn ?_ H6 ((e4.trans e5).trans e6)
        simp at hb
        rw [if_pos (by omega)]
      · have c2 : ¬ (200 < n ∨ 200 < n * n + xs.sum + ys.sum) := by
          simp at hb
          omega
        rw [if_neg c2] at qs
        have e15 := e4.trans e5
        have elx : ((xs.map V.int).length : Int) = (xs.length : Int) := by rw [List.length_map]
        refine q_asgL (xs := (xs ++ List.replicate (n - xs.length).toNat (0 : Int)).map V.int) (el_is (el_catR (ev_var rfl) (el_rep (zs := [V.int 0]) (k := n - xs.length) (el_lst (ea_cons ev_c ea_nil) (by show 1 ≤ 100000; decide)) (ev_rI0 (ev_var rfl) (ev_is (ev_cb (ea_cons (ev_var rfl) ea_nil) (rc_len (ex_l e15 hX.sq))) (by rw [elx]))) ⟨by omega, by omega⟩ (by show 1 * _ ≤ 100000; omega)) (e15 _ _ hX) ?_) ?_) fun p H6 np e6 hp6 => ?_
        · rw [List.length_map, List.length_flatten, List.map_replicate, List.sum_replicate_nat]
          show xs.length + _ * 1 ≤ 100000
          omega
        · rw [List.map_append, List.map_replicate]
          congr 1
          generalize (n - xs.length).toNat = m
          induction m with
          | zero => rfl
          | succ m ih =>
            rw [List.replicate_succ, List.replicate_succ, List.flatten_cons, ih]
            rfl
        · have e16 := e15.trans e6
          refine s_retL (el_is (el_catN (zs := ((xs ++ List.replicate (n - xs.length).toNat 0).map fun z => V.int (n + z))) (ws := ys.map V.int) (el_lcIA (ns := xs ++ List.replicate (n - xs.length).toNat 0) (fun z => V.int (n + z)) (ev_var rfl) (sq_of hp6) (by rw [List.length_append, List.length_replicate]; omega) (fun _ => rfl) fun z H7 _ _ => ev_rI0 (ev_var rfl) (ev_var rfl)) (ev_var rfl) (e16 _ _ hY) (by rw [List.length_map, List.length_map, List.length_append, List.length_replicate]; omega)) rfl) fun r H7 nr e7 hr => ?_
          refine qs _ rfl r H7 (fresh_back e16 nr) (e16.trans e7) ?_
          rw [hr]
          show some (HO.lst (_ ++ _)) = some (HO.lst (List.map V.int (_ ++ _)))
          rw [List.map_append (l₁ := List.map _ _), List.map_map (l := xs ++ _)]
          rfl
theorem spv_put {a b : Addr} {xs ys : List Int} {n : Int} {H : Hp} (hX : Ll H a xs) (hY : Ll H b ys) (px : IsP xs) (py : IsP ys) (h0 : 0 ≤ n) (h1 : n ≤ 200) (hn : putV xs ys n = none) : SpV sp_law_put [.ref a, .ref b, .int n] H .non := fun H1 e _ q _ =>
  ⟨a, b, xs, ys, n, rfl, e _ _ hX, e _ _ hY, px, py, h0, h1, fun _ => q, fun r hr => by rw [hn] at hr; cases hr⟩
theorem spl_put {a b : Addr} {xs ys r : List Int} {n : Int} {H : Hp} (hX : Ll H a xs) (hY : Ll H b ys) (px : IsP xs) (py : IsP ys) (h0 : 0 ≤ n) (h1 : n ≤ 200) (hr : putV xs ys n = some r) : SpL sp_law_put [.ref a, .ref b, .int n] H (r.map V.int) := fun H1 e _ q _ =>
  ⟨a, b, xs, ys, n, rfl, e _ _ hX, e _ _ hY, px, py, h0, h1, (fun hn => by rw [hr] at hn; cases hn), fun r' hr' => by
    rw [hr] at hr'
    cases hr'
    exact q⟩
def sp_law_told : Sp := fun vs H Q _ => ∃ (a b : Addr) (xs ys : List Int) (n : Int), vs = [.ref a, .ref b, .int n] ∧ Ll H a xs ∧ Ll H b ys ∧ IsP xs ∧ IsP ys ∧ 0 ≤ n ∧ (putV xs ys n = none → RetU [.str "refused", .str "fit"] H Q) ∧
  ∀ r, putV xs ys n = some r → ∀ p t H2, H p = none → H t = none → Ex H H2 → Ll H2 p r → H2 t = some (.tup [.str "told", .ref p]) → Q (.ref t) H2
theorem ok_law_told (T : Tx K mg) : FnOk P w K mg base CX0 5 T.a_law_told T.d_law_told ["_law_beside", "_law_beneath", "_law_number_here"] sp_law_told := by
  refine T.F_law_told.ok sc_law_told (fun vs H Q E h => ?_) (fun cdv A outer s H vs Q E hr h => ?_)
  · obtain ⟨a, b, xs, ys, n, rfl, _⟩ := h
    rfl
  · obtain ⟨a, b, xs, ys, n, rfl, hX, hY, px, py, h0, qn, qs⟩ := h
    refine ⟨_, (pss_cons (ps_set (i := 3) sc_law_told.nd rfl (Or.inl rfl) pe_non)
    (pss_cons (ps_set (i := 4) sc_law_told.nd rfl (Or.inl rfl) pe_non)
    (pss_cons (ps_try_keep (tb := (fun W => tAsg (tCallS (sp_put_square T.C_NoFit) (WE W) (tCons (tVar 0) (tCons (tVar 1) (tCons (tVar 2) tNil)))) (gName 4))) (Wout := fun _ _ _ _ => False) (i := 5) (j := 3) rfl rfl rfl sc_law_told.nd rfl rfl rfl rfl ⟨rfl, by decide, Or.inl T.g_PartError⟩ takes0
      (fun W pn xe tk _ => (pss_one (ps_set (i := 4) sc_law_told.nd rfl (Or.inl rfl) (pe_callS (ok_put_square T) (hr.mono (by decide)) (by rfl) T.g_put_square T.F_put_square.kp T.b_put_square (fun σ => passAt tk σ) (by exact (pa_cons (pv 0) (pa_cons (pv 1) (pa_cons (pv 2) pa_nil)))))))))
    (pss_one (ps_ret (pe_ifExp (pt_cmpR op_isN (pv 3) pe_non (nomark _)) (pe_tup (pa_cons pe_str (pa_cons (pv 4) pa_nil))) (pe_tup (pa_cons pe_str (pa_cons (pe_call (ok_law_name T) (hr.mono (by decide)) (by rfl) T.g_law_name T.F_law_name.kp T.b_law_name .nil pass0 (pa_cons (pv 3) pa_nil)) pa_nil))))))))), ?_⟩
    refine q_asg ev_c fun H1 e1 => ?_
    refine q_asg ev_c fun H2 e2 => ?_
    have e12 := e1.trans e2
    refine ⟨.ref a, rfl, .ref b, rfl, .int n, rfl, a, b, xs, ys, n, rfl, e12 _ _ hX, e12 _ _ hY, px, py, h0, fun hn H3 e3 => ⟨true, T.m_NoFit_PartError, fun _ => ⟨rfl, fun e he => ?_⟩, fun z => by cases z⟩, fun r hr p H3 np e3 hp3 => ?_⟩
    · have e4 : Ex H (upd H3 e (ErrO (.ref T.C_NoFit) e)) := (e12.trans e3).trans (Ex.new he)
      refine s_retU (eu_if (et_test (ev_isN (ev_var rfl))) (fun z => by cases z) fun _ => eu_tup (ea_cons ev_c (ea_cons (ev_call (ea_cons (ev_var rfl) ea_nil) (spv_name upd_same)) ea_nil)) (by show 2 ≤ 100000; decide)) fun t H4 nt e5 ht => qn hn t H4 (fresh_back e4 nt) (e4.trans e5) ht
    · refine s_retU (eu_if (et_test (ev_isN (ev_var rfl))) (fun _ => eu_tup (ea_cons ev_c (ea_cons (ev_var rfl) ea_nil)) (by show 2 ≤ 100000; decide)) fun z => by cases z) fun t H4 nt e5 ht => ?_
      exact qs r hr p t H4 (fresh_back e12 np) (fresh_back (e12.trans e3) nt) ((e12.trans e3).trans e5) (e5 _ _ hp3) ht
theorem spu_told {a b : Addr} {xs ys : List Int} {n : Int} {H : Hp} (hX : Ll H a xs) (hY : Ll H b ys) (px : IsP xs) (py : IsP ys) (h0 : 0 ≤ n) (hn : putV xs ys n = none) : SpU sp_law_told [.ref a, .ref b, .int n] H [.str "refused", .str "fit"] := fun H1 e _ q _ =>
  ⟨a, b, xs, ys, n, rfl, e _ _ hX, e _ _ hY, px, py, h0, fun _ => q, fun r hr => by rw [hn] at hr; cases hr⟩
theorem evP_told {a b : Addr} {xs ys r : List Int} {n : Int} {σ : L2.St} {H : Hp} {ta : TA} {E : XK} (h : EvA ta σ H [.ref a, .ref b, .int n]) (hX : Ll H a xs) (hY : Ll H b ys) (px : IsP xs) (py : IsP ys) (h0 : 0 ≤ n) (hr : putV xs ys n = some r) :
    EvP (tCall sp_law_told [] E ta) σ H (fun v H1 => ∃ p t : Addr, v = .ref t ∧ H p = none ∧ H t = none ∧ Ll H1 p r ∧ H1 t = some (.tup [.str "told", .ref p])) :=
  evP_call h fun H1 e Q q E => ⟨a, b, xs, ys, n, rfl, e _ _ hX, e _ _ hY, px, py, h0, (fun hn => by rw [hr] at hn; cases hn), fun r' hr' p t H2 np nt e2 hpp ht => by
    rw [hr] at hr'
    cases hr'
    exact q _ _ e2 ⟨p, t, rfl, fresh_back e np, fresh_back e nt, hpp, ht⟩⟩
def sp_law_cut_right : Sp := fun vs H Q _ => ∃ (a : Addr) (ns : List Int), vs = [.ref a] ∧ Ll H a ns ∧ IsP ns ∧ RetV (.bl true) H Q
theorem ok_law_cut_right (T : Tx K mg) : FnOk P w K mg base CX0 6 T.a_law_cut_right T.d_law_cut_right ["_law_parting"] sp_law_cut_right := by
  refine T.F_law_cut_right.ok sc_law_cut_right (fun vs H Q E h => ?_) (fun cdv A outer s H vs Q E hr h => ?_)
  · obtain ⟨a, ns, rfl, _⟩ := h
    rfl
  · obtain ⟨a, ns, rfl, hL, hp, q⟩ := h
    refine ⟨_, (pss_cons (ps_set (i := 1) sc_law_cut_right.nd rfl (Or.inl rfl) (pe_callTy (listK (K := K) rfl) (by rfl) T.n_list (by decide +kernel) (pa_cons (pv 0) pa_nil)))
    (pss_cons (ps_asg (pe_call (ok_law_cut T) (hr.mono (by decide)) (by rfl) T.g_law_cut T.F_law_cut.kp T.b_law_cut .nil pass0 (pa_cons (pv 0) pa_nil)) (show PG _ _ (g3n K 2 3 4) from (pg_tup rfl (pgs_cons (pg_name (i := 2) sc_law_cut_right.nd rfl (Or.inl rfl)) (pgs_cons (pg_name (i := 3) sc_law_cut_right.nd rfl (Or.inl rfl)) (pgs_cons (pg_name (i := 4) sc_law_cut_right.nd rfl (Or.inl rfl)) pgs_nil))))))
    (pss_cons (ps_for PassesOwn.never rfl (pi_range1 rfl T.n_range (pa_cons pe_int pa_nil)) (pg_name (i := 5) sc_law_cut_right.nd rfl (Or.inl rfl))
      (pss_cons (ps_set (i := 6) sc_law_cut_right.nd rfl (Or.inl rfl) (pe_call (ok_cut_square T) (hr.mono (by decide)) (by rfl) T.g_cut_square T.F_cut_square.kp T.b_cut_square .nil pass0 (pa_cons (pv 1) pa_nil)))
      (pss_cons (ps_if (PW.pt (pw_or (pt_not (pt_val (pe_callB (isiK (K := K) rfl) (by rfl) T.n_isinstance (by decide +kernel) (pa_cons (pv 6) (pa_cons (pe_bltn (v := .ty "tuple") (u := .type "tuple") (by rfl) T.n_tuple (by decide +kernel) rfl) pa_nil))))) (pw_or (pt_cmpR op_ne (pe_callB (lenK (K := K) rfl) (by rfl) T.n_len PySem.boot_len (pa_cons (pv 6) pa_nil)) pe_int (nomark _)) (pw_or (pt_cmpR op_ne (pe_call (ok_square_of T) (hr.mono (by decide)) (by rfl) T.g_square_of T.F_square_of.kp T.b_square_of .nil pass0 (pa_cons (pv 1) pa_nil)) (pv 2) (nomark _)) (pw_or1 (pt_cmpR (neK (K := K) rfl hr.units) (pv 1) (pv 0) (nomark _)))))))
        (pss_one (ps_ret pe_bl))
        pss_nil)
      (pss_cons (ps_if (PW.pt (pw_or (pt_val (pe_callB (isiK (K := K) rfl) (by rfl) T.n_isinstance (by decide +kernel) (pa_cons (pe_ix (ixtK (K := K) rfl) (pv 6) pe_int (fun _ _ => rfl)) (pa_cons (pe_bltn (v := .ty "bool") (u := .type "bool") (by rfl) T.n_bool (by decide +kernel) rfl) pa_nil)))) (pw_or (pt_cmpR op_ne (pe_ix (ixtK (K := K) rfl) (pv 6) pe_int (fun _ _ => rfl)) (pv 2) (nomark _)) (pw_or1 (pt_val (pe_callB (isiK (K := K) rfl) (by rfl) T.n_isinstance (by decide +kernel) (pa_cons (pe_call (ok_square_of T) (hr.mono (by decide)) (by rfl) T.g_square_of T.F_square_of.kp T.b_square_of .nil pass0 (pa_cons (pv 1) pa_nil)) (pa_cons (pe_bltn (v := .ty "bool") (u := .type "bool") (by rfl) T.n_bool (by decide +kernel) rfl) pa_nil))))))))
        (pss_one (ps_ret pe_bl))
        pss_nil)
      (pss_cons (ps_if (PW.pt (pw_or (pt_not (pt_val (pe_call (ok_law_is_row T) (hr.mono (by decide)) (by rfl) T.g_law_is_row T.F_law_is_row.kp T.b_law_is_row .nil pass0 (pa_cons (pe_ix (ixtK (K := K) rfl) (pv 6) pe_int (fun _ _ => rfl)) (pa_cons (pv 3) pa_nil))))) (pw_or1 (pt_not (pt_val (pe_call (ok_law_is_row T) (hr.mono (by decide)) (by rfl) T.g_law_is_row T.F_law_is_row.kp T.b_law_is_row .nil pass0 (pa_cons (pe_ix (ixtK (K := K) rfl) (pv 6) pe_int (fun _ _ => rfl)) (pa_cons (pv 4) pa_nil))))))))
        (pss_one (ps_ret pe_bl))
        pss_nil)
      (pss_cons (ps_expr (pe_bm PySem.F.plainAttrs_list PySem.F.slot_list_append PySem.F.type_list_append mt_append (pe_ix (ixtK (K := K) rfl) (pv 6) pe_int (fun _ _ => rfl)) (pa_cons pe_int pa_nil)))
      (pss_cons (ps_expr (pe_bm PySem.F.plainAttrs_list PySem.F.slot_list_append PySem.F.type_list_append mt_append (pe_ix (ixtK (K := K) rfl) (pv 6) pe_int (fun _ _ => rfl)) (pa_cons pe_int pa_nil)))
      (pss_one (ps_if (PW.pt (pw_or (pt_cmpR (neK (K := K) rfl hr.units) (pe_ix (ixtK (K := K) rfl) (pv 6) pe_int (fun _ _ => rfl)) (pe_op op_cat (pv 3) (pe_lst (pa_cons pe_int pa_nil))) (nomark _)) (pw_or1 (pt_cmpR (neK (K := K) rfl hr.units) (pe_ix (ixtK (K := K) rfl) (pv 6) pe_int (fun _ _ => rfl)) (pe_op op_cat (pv 4) (pe_lst (pa_cons pe_int pa_nil))) (nomark _)))))
        (pss_one (ps_ret pe_bl))
        pss_nil)))))))))
    (pss_cons (ps_set (i := 7) sc_law_cut_right.nd rfl (Or.inl rfl) (pe_call (ok_law_told T) (hr.mono (by decide)) (by rfl) T.g_law_told T.F_law_told.kp T.b_law_told .nil pass0 (pa_cons (pv 3) (pa_cons (pv 4) (pa_cons (pv 2) pa_nil)))))
    (pss_one (ps_ret (pe_and (pe_cmpR op_eq (pe_ix (ixtK (K := K) rfl) (pv 7) pe_int (fun _ _ => rfl)) pe_str (nomark _)) (pe_one (pe_call (ok_law_is_row T) (hr.mono (by decide)) (by rfl) T.g_law_is_row T.F_law_is_row.kp T.b_law_is_row .nil pass0 (pa_cons (pe_ix (ixtK (K := K) rfl) (pv 7) pe_int (fun _ _ => rfl)) (pa_cons (pv 0) pa_nil))))))))))), ?_⟩
    have hl := hp.len
    obtain ⟨put, ib, id⟩ := put_cut hp
    have lb := ib.len
    have ld := id.len
    refine q_asgL (el_cb (ea_cons (ev_var rfl) ea_nil) (rcl_list hL.sq)) fun h H1 nh e1 hh => ?_
    refine q_asg3 (evP_lcut (ea_cons (ev_var rfl) ea_nil) (e1 _ _ hL) hp) fun v H2 e2 hv => ?_
    obtain ⟨t, p, b, rfl, nt, np, nb, ht, hp2, hb2⟩ := hv
    refine ⟨t, _, _, _, rfl, ht, ?_⟩
    have e12 := e1.trans e2
    refine q_forR1 (n := 2) (ea_cons ev_c ea_nil) ⟨by decide, by decide⟩ (fun i σ' H' => ∃ y z w : Option V, σ' = [some (.ref a), some (.ref h), some (.int (sq ns : Int)), some (.ref p), some (.ref b), y, z, w] ∧ Ex H2 H')
      (fun H3 e3 => ⟨none, none, none, rfl, e3⟩) (fun i σ' H' hi hP => ?_) (fun σ' H' hP => ?_)
    · obtain ⟨y, z, w', rfl, eH⟩ := hP
      have hhH := eH _ _ (e2 _ _ hh)
      have hLH := eH _ _ (e12 _ _ hL)
      have hpH := eH _ _ hp2
      have hbH := eH _ _ hb2
      refine q_asgP (evP_pcut (ea_cons (ev_var rfl) ea_nil) hhH hp) fun v H3 e3 hv => ?_
      obtain ⟨u, x1, x2, rfl, nu, n1, n2, ne, hu, h1, h2⟩ := hv
      have hh3 := e3 _ _ hhH
      have hL3 := e3 _ _ hLH
      refine q_when (et_or (et_not (et_B (ev_cb (ea_cons (ev_var rfl) (ea_cons ev_c ea_nil)) (rc_isiTup hu)))) fun _ => et_or (et_test (ev_ne (ev_cb (ea_cons (ev_var rfl) ea_nil) (rc_lenT (st_of hu))) ev_c rfl)) fun _ => et_or (et_test (ev_ne (ev_call (ea_cons (ev_var rfl) ea_nil) (spv_square hh3 hp)) (ev_var rfl) rfl)) fun _ => et_test (ev_op (ev_var rfl) (ev_var rfl) (rv_neL (Ll.sq hh3) (Ll.sq hL3)))) (fun hb => by simp at hb) (fun _ H4 e4 => ?_)
      have hu4 := e4 _ _ hu
      refine q_when (et_or (et_B (ev_cb (ea_cons (ev_ixT (n := 0) (ev_var rfl) ev_c hu4 rfl) (ea_cons ev_c ea_nil)) rc_isiIB)) fun _ => et_or (et_test (ev_ne (ev_ixT (n := 0) (ev_var rfl) ev_c hu4 rfl) (ev_var rfl) rfl)) fun _ => et_B (ev_cb (ea_cons (ev_call (ea_cons (ev_var rfl) ea_nil) (spv_square (e4 _ _ hh3) hp)) (ea_cons ev_c ea_nil)) rc_isiIB)) (fun hb => by simp at hb) (fun _ H5 e5 => ?_)
      have e35 := e4.trans e5
      have hu5 := e5 _ _ hu4
      refine q_when (et_or (et_not (et_B (ev_call (ea_cons (ev_ixT (n := 1) (ev_var rfl) ev_c hu5 rfl) (ea_cons (ev_var rfl) ea_nil)) (spv_row (e35 _ _ h1) (e35 _ _ (e3 _ _ hpH)) (by omega))))) fun _ => et_not (et_B (ev_call (ea_cons (ev_ixT (n := 2) (ev_var rfl) ev_c hu5 rfl) (ea_cons (ev_var rfl) ea_nil)) (spv_row (e35 _ _ h2) (e35 _ _ (e3 _ _ hbH)) (by omega))))) (fun hb => by simp at hb) (fun _ H6 e6 => ?_)
      have e36 := e35.trans e6
      refine q_app (e36 _ _ h1) (ev_ixT (n := 1) (ev_var rfl) ev_c (e36 _ _ hu) rfl) ev_c (by rw [List.length_map]; omega) fun H7 e7 => ?_
      have m7 : Ex H' (upd H7 x1 (.lst ((besideOf ns (sq ns)).map V.int ++ [V.int 1]))) := ((e3.trans e36).trans e7).mut n1
      have nx1 : u ≠ x1 := fun z => by
        rw [z, h1] at hu
        cases hu
      have nx2 : u ≠ x2 := fun z => by
        rw [z, h2] at hu
        cases hu
      have h27 : upd H7 x1 (.lst ((besideOf ns (sq ns)).map V.int ++ [V.int 1])) x2 = some (.lst ((ns.drop (sq ns)).map V.int)) := by
        rw [upd_ne (Ne.symm ne)]
        exact (e36.trans e7) _ _ h2
      have hu7 : upd H7 x1 (.lst ((besideOf ns (sq ns)).map V.int ++ [V.int 1])) u = some (.tup [.int (sq ns : Int), .ref x1, .ref x2]) := by
        rw [upd_ne nx1]
        exact (e36.trans e7) _ _ hu
      refine q_app h27 (ev_ixT (n := 2) (ev_var rfl) ev_c hu7 rfl) ev_c (by rw [List.length_map]; omega) fun H8 e8 => ?_
      have m8 := (m7.trans e8).mut (o := .lst ((ns.drop (sq ns)).map V.int ++ [V.int 1])) n2
      generalize hX : upd H8 x2 (.lst ((ns.drop (sq ns)).map V.int ++ [V.int 1])) = HX at m8
      have g1 : Ll HX x1 (besideOf ns (sq ns) ++ [1]) := by
        rw [← hX]
        show upd H8 x2 _ x1 = _
        rw [upd_ne ne, e8 _ _ upd_same, List.map_append]
        rfl
      have g2 : Ll HX x2 (ns.drop (sq ns) ++ [1]) := by
        rw [← hX]
        show upd H8 x2 _ x2 = _
        rw [upd_same, List.map_append]
        rfl
      have gu : HX u = some (.tup [.int (sq ns : Int), .ref x1, .ref x2]) := by
        rw [← hX, upd_ne nx2]
        exact e8 _ _ hu7
      refine s_when (et_or (et_test (ev_opL (xs := (besideOf ns (sq ns) ++ [1]).map V.int) (ev_ixT (n := 1) (ev_var rfl) ev_c gu rfl) (el_is (el_catR (ev_var rfl) (el_lst (ea_cons ev_c ea_nil) (by show 1 ≤ 100000; decide)) (m8 _ _ hpH) (by rw [List.length_map]; show _ + 1 ≤ 100000; omega)) (by rw [List.map_append]; rfl)) fun o H9 ho e9 => rv_neL (Ll.sq (e9 _ _ g1)) (sq_of ho))) fun _ =>
        et_test (ev_opL (xs := (ns.drop (sq ns) ++ [1]).map V.int) (ev_ixT (n := 2) (ev_var rfl) ev_c gu rfl) (el_is (el_catR (ev_var rfl) (el_lst (ea_cons ev_c ea_nil) (by show 1 ≤ 100000; decide)) (m8 _ _ hbH) (by rw [List.length_map]; show _ + 1 ≤ 100000; omega)) (by rw [List.map_append]; rfl)) fun o H9 ho e9 => rv_neL (Ll.sq (e9 _ _ g2)) (sq_of ho))) (fun hb => by simp at hb) (fun _ H9 e9 => ?_)
      exact ⟨_, _, _, rfl, eH.trans (m8.trans e9)⟩
    · obtain ⟨y, z, w', rfl, eH⟩ := hP
      refine q_asgP (evP_told (ea_cons (ev_var rfl) (ea_cons (ev_var rfl) (ea_cons (ev_var rfl) ea_nil))) (eH _ _ hp2) (eH _ _ hb2) ib id (by omega) put) fun v H3 e3 hv => ?_
      obtain ⟨o, t2, rfl, no, nt2, ho, ht2⟩ := hv
      refine s_ret (ev_andV (ev_eq (ev_ixT (n := 0) (ev_var rfl) ev_c ht2 rfl) ev_c rfl) fun _ => ev_call (ea_cons (ev_ixT (n := 1) (ev_var rfl) ev_c ht2 rfl) (ea_cons (ev_var rfl) ea_nil)) (spv_row ho ((eH.trans e3) _ _ (e12 _ _ hL)) (by omega))) fun H4 e4 => ?_
      have := q H4 (((e12.trans eH).trans e3).trans e4)
      rw [decide_eq_true rfl, decide_eq_true rfl]
      exact this
theorem spv_cut_right {a : Addr} {ns : List Int} {H : Hp} (hL : Ll H a ns) (hp : IsP ns) : SpV sp_law_cut_right [.ref a] H (.bl true) := fun H1 e _ q _ => ⟨a, ns, rfl, e _ _ hL, hp, q⟩
end
/-! ### the law -/
theorem IsP_take {p : List Int} (h : IsP p) (k : Nat) : IsP (p.take k) := by
  refine ⟨fun x hx => h.1 x (List.mem_of_mem_take hx), h.2.1.sublist (List.take_sublist _ _), ?_⟩
  have e : p.sum = (p.take k).sum + (p.drop k).sum := by
    conv => lhs; rw [← List.take_append_drop k p]
    exact sum_append _ _
  have := sum_nn (p := p.drop k) fun x hx => by have := h.1 x (List.mem_of_mem_drop hx); omega
  have := h.2.2
  omega
theorem sum_le_map {f : Int → Int} : ∀ {p : List Int}, (∀ x ∈ p, f x ≤ x) → (p.map f).sum ≤ p.sum
  | [], _ => Int.le_refl _
  | x :: r, h => by
    have h1 := h x List.mem_cons_self
    have h2 := sum_le_map (p := r) fun y hy => h y (List.mem_cons_of_mem _ hy)
    rw [List.map_cons, List.sum_cons, List.sum_cons]
    omega
def least (c : Int) (z : Int) : Int := if c < z then c else z
theorem IsP_least {p : List Int} (h : IsP p) {c : Int} (hc : 1 ≤ c) : IsP (p.map (least c)) := by
  refine ⟨fun x hx => ?_, ?_, ?_⟩
  · obtain ⟨y, hy, rfl⟩ := List.mem_map.mp hx
    have := h.1 y hy
    unfold least
    split <;> omega
  · rw [List.pairwise_map]
    refine h.2.1.imp fun hab => ?_
    unfold least
    split <;> split <;> omega
  · have := sum_le_map (f := least c) (p := p) fun x _ => by unfold least; split <;> omega
    have := h.2.2
    omega
section
variable {P : Program} {w : World} {K : PySem.W.Frag} {mg : Str → Option Value} {base : Heap}
def sp_law (K : PySem.W.Frag) : Sp := fun vs H Q _ => ∃ (a : Addr) (ns : List Int), vs = [.ref a] ∧ SqL K H a (ns.map V.int) ∧ ns.length ≤ 63 ∧ ∀ H', Q (.bl true) H'
theorem ok_law (T : Tx K mg) : FnOk P w K mg base CX0 7 T.a_law T.d_law ["_law_script"] (sp_law K) := by
  refine T.F_law.ok sc_law (fun vs H Q E h => ?_) (fun cdv A outer s H vs Q E hr h => ?_)
  · obtain ⟨a, ns, rfl, _⟩ := h
    rfl
  · obtain ⟨a, ns, rfl, hS, hlen, q⟩ := h
    refine ⟨_, (pss_cons (ps_set (i := 1) sc_law.nd rfl (Or.inl rfl) (pe_call (ok_law_parting_by T) (hr.mono (by decide)) (by rfl) T.g_law_parting_by T.F_law_parting_by.kp T.b_law_parting_by .nil pass0 (pa_cons (pv 0) (pa_cons pe_int pa_nil))))
    (pss_cons (ps_if (pt_not (pt_val (pe_call (ok_law_cut_right T) (hr.mono (by decide)) (by rfl) T.g_law_cut_right T.F_law_cut_right.kp T.b_law_cut_right .nil pass0 (pa_cons (pv 1) pa_nil))))
      (pss_one (ps_ret pe_bl))
      pss_nil)
    (pss_cons (ps_set (i := 2) sc_law.nd rfl (Or.inl rfl) (pe_call (ok_law_number T) (hr.mono (by decide)) (by rfl) T.g_law_number T.F_law_number.kp T.b_law_number .nil pass0 (pa_cons (pv 0) (pa_cons pe_int pa_nil))))
    (pss_cons (ps_set (i := 3) sc_law.nd rfl (Or.inl rfl) (pe_call (ok_law_parting_by T) (hr.mono (by decide)) (by rfl) T.g_law_parting_by T.F_law_parting_by.kp T.b_law_parting_by .nil pass0 (pa_cons (pv 0) (pa_cons pe_int pa_nil))))
    (pss_cons (ps_set (i := 4) sc_law.nd rfl (Or.inl rfl) (pe_call (ok_law_parting_by T) (hr.mono (by decide)) (by rfl) T.g_law_parting_by T.F_law_parting_by.kp T.b_law_parting_by .nil pass0 (pa_cons (pv 0) (pa_cons pe_int pa_nil))))
    (pss_cons (ps_set (i := 5) sc_law.nd rfl (Or.inr rfl) (pe_op op_mod (pv 2) pe_int))
    (pss_cut (ps_if (pt_cmpR op_eq (pe_op op_mod (pe_op op_fdiv (pv 2) pe_int) pe_int) pe_int (nomark _))
      (pss_cons (ps_setLc (i := 3) (own := [("_law_part", 9)]) (g := gName 9) (by rfl) sc_law.nd rfl rfl (sw_true rfl rfl rfl (by decide +kernel)) (pi_list (pe_slice (sllK (K := K) rfl) (pv 3) po_none (po_some (pv 5)))) (blkOk_by (own := [("_law_part", 9)]) (N := ["_law_script", "_law_parting", "_law_number_here", "_law_beside", "_law_beneath", "_law_side_here", "_law_handed", "_law_due", "_law_told_here", "_law_part"]) (sc := defScope s_law) (by decide +kernel)) (fun _ _ _ _ _ => (pg_name (i := 9) sc_law.nd rfl (Or.inl rfl))) (fun _ _ _ _ _ => pts_nil) (fun _ _ _ _ _ => (pe_callB (call_min2 rfl) (by rfl) T.n_min (by decide +kernel) (pa_cons (pv 9) (pa_cons pe_int pa_nil)))))
      (pss_one (ps_setLc (i := 4) (own := [("_law_part", 9)]) (g := gName 9) (by rfl) sc_law.nd rfl rfl (sw_true rfl rfl rfl (by decide +kernel)) (pi_list (pe_slice (sllK (K := K) rfl) (pv 4) po_none (po_some pe_int))) (blkOk_by (own := [("_law_part", 9)]) (N := ["_law_script", "_law_parting", "_law_number_here", "_law_beside", "_law_beneath", "_law_side_here", "_law_handed", "_law_due", "_law_told_here", "_law_part"]) (sc := defScope s_law) (by decide +kernel)) (fun _ _ _ _ _ => (pg_name (i := 9) sc_law.nd rfl (Or.inl rfl))) (fun _ _ _ _ _ => pts_one (pt_cmpR op_gt (pv 5) pe_int (nomark _))) (fun _ _ _ _ _ => (pe_callB (call_min2 rfl) (by rfl) T.n_min (by decide +kernel) (pa_cons (pv 9) (pa_cons (pv 5) pa_nil)))))))
      pss_nil)
    (pss_cons (ps_set (i := 6) sc_law.nd rfl (Or.inl rfl) (pe_lst (pa_cons (pe_callTy (listK (K := K) rfl) (by rfl) T.n_list (by decide +kernel) (pa_cons (pv 3) pa_nil)) (pa_cons (pe_callTy (listK (K := K) rfl) (by rfl) T.n_list (by decide +kernel) (pa_cons (pv 4) pa_nil)) pa_nil))))
    (pss_cons (ps_set (i := 7) sc_law.nd rfl (Or.inl rfl) (pe_call (ok_law_put T) (hr.mono (by decide)) (by rfl) T.g_law_put T.F_law_put.kp T.b_law_put .nil pass0 (pa_cons (pv 3) (pa_cons (pv 4) (pa_cons (pv 5) pa_nil)))))
    (pss_cons (ps_set (i := 8) sc_law.nd rfl (Or.inl rfl) (pe_call (ok_law_told T) (hr.mono (by decide)) (by rfl) T.g_law_told T.F_law_told.kp T.b_law_told .nil pass0 (pa_cons (pe_ix (ixlK (K := K) rfl) (pv 6) pe_int (fun _ _ => rfl)) (pa_cons (pe_ix (ixlK (K := K) rfl) (pv 6) pe_int (fun _ _ => rfl)) (pa_cons (pv 5) pa_nil)))))
    (pss_cons (ps_if (pt_cmpR (neK (K := K) rfl hr.units) (pv 6) (pe_lst (pa_cons (pv 3) (pa_cons (pv 4) pa_nil))) (nomark _))
      (pss_one (ps_ret pe_bl))
      pss_nil)
    (pss_cons (ps_if (pt_cmpR op_isN (pv 7) pe_non (nomark _))
      (pss_one (ps_ret (pe_and (pe_cmpR (eqK (K := K) rfl hr.units) (pv 8) (pe_tup (pa_cons pe_str (pa_cons pe_str pa_nil))) (nomark _)) (pe_one (pe_cmpR (eqK (K := K) rfl hr.units) (pe_call (ok_law_told T) (hr.mono (by decide)) (by rfl) T.g_law_told T.F_law_told.kp T.b_law_told .nil pass0 (pa_cons (pv 3) (pa_cons (pv 4) (pa_cons (pe_op op_pow pe_int pe_int) pa_nil)))) (pe_tup (pa_cons pe_str (pa_cons pe_str pa_nil))) (nomark _))))))
      pss_nil)
    (pss_cons (ps_if (PW.pt (pw_or (pt_cmpR op_ne (pe_ix (ixtK (K := K) rfl) (pv 8) pe_int (fun _ _ => rfl)) pe_str (nomark _)) (pw_or (pt_not (pt_val (pe_call (ok_law_is_row T) (hr.mono (by decide)) (by rfl) T.g_law_is_row T.F_law_is_row.kp T.b_law_is_row .nil pass0 (pa_cons (pe_ix (ixtK (K := K) rfl) (pv 8) pe_int (fun _ _ => rfl)) (pa_cons (pv 7) pa_nil))))) (pw_or1 (pt_cmpR (neK (K := K) rfl hr.units) (pe_call (ok_law_cut T) (hr.mono (by decide)) (by rfl) T.g_law_cut T.F_law_cut.kp T.b_law_cut .nil pass0 (pa_cons (pv 7) pa_nil)) (pe_tup (pa_cons (pv 5) (pa_cons (pv 3) (pa_cons (pv 4) pa_nil)))) (nomark _))))))
      (pss_one (ps_ret pe_bl))
      pss_nil)
    (pss_cons (ps_expr (pe_bm PySem.F.plainAttrs_list PySem.F.slot_list_append PySem.F.type_list_append mt_append (pe_ix (ixtK (K := K) rfl) (pv 8) pe_int (fun _ _ => rfl)) (pa_cons pe_int pa_nil)))
    (pss_one (ps_ret (pe_and (pe_call (ok_law_cut_right T) (hr.mono (by decide)) (by rfl) T.g_law_cut_right T.F_law_cut_right.kp T.b_law_cut_right .nil pass0 (pa_cons (pv 7) pa_nil)) (pe_one (pe_cmpR (eqK (K := K) rfl hr.units) (pv 6) (pe_lst (pa_cons (pv 3) (pa_cons (pv 4) pa_nil))) (nomark _)))))))))))))))))))), ?_⟩
    refine q_asgP (evP_parting (ea_cons (ev_var rfl) (ea_cons ev_c ea_nil)) hS hlen (by decide) (by decide)) fun v H1 e1 hv => ?_
    obtain ⟨p, ys, rfl, np, hp, ip⟩ := hv
    refine q_when (et_not (et_B (ev_call (ea_cons (ev_var rfl) ea_nil) (spv_cut_right hp ip)))) (fun hb => by cases hb) (fun _ H2 e2 => ?_)
    have e12 := e1.trans e2
    refine q_asg (ev_call (ea_cons (ev_var rfl) (ea_cons ev_c ea_nil)) (spv_number (ex_l e12 hS) (by decide) (by decide))) fun H3 e3 => ?_
    have m0 := numb_nn ns 1
    generalize numb ns 1 = m at m0 ⊢
    refine q_asgP (evP_parting (ea_cons (ev_var rfl) (ea_cons ev_c ea_nil)) (ex_l (e12.trans e3) hS) hlen (by decide) (by decide)) fun v H4 e4 hv => ?_
    obtain ⟨b, xs, rfl, nb, hb, ix⟩ := hv
    refine q_asgP (evP_parting (ea_cons (ev_var rfl) (ea_cons ev_c ea_nil)) (ex_l ((e12.trans e3).trans e4) hS) hlen (by decide) (by decide)) fun v H5 e5 hv => ?_
    obtain ⟨c, zs, rfl, nc, hc, iz⟩ := hv
    refine q_asg (ev_rI (ev_var rfl) ev_c (by decide)) fun H6 e6 => ?_
    have k0 : 0 ≤ m % 16 := by omega
    have k1 : m % 16 < 16 := by omega
    generalize hk : m % 16 = k at k0 k1
    have hb6 := e6 _ _ (e5 _ _ hb)
    have hc6 := e6 _ _ hc
    have lx := ix.len
    have lz := iz.len
    refine q_cut (M := fun σ' H' => ∃ (b c : Addr) (xs zs : List Int), σ' = [some (.ref a), some (.ref p), some (.int m), some (.ref b), some (.ref c), some (.int k), none, none, none, none] ∧ Ll H' b xs ∧ Ll H' c zs ∧ IsP xs ∧ IsP zs) (s_when (b := decide (m / 15 % 2 = 1)) (et_is (et_test (ev_eq (ev_rI (ev_rI (ev_var rfl) ev_c ⟨by decide, by decide⟩) ev_c (by decide)) ev_c rfl)) (by rw [Bool.eq_iff_iff]; simp)) (fun hm H7 e7 => ?_) (fun hm H7 e7 => ?_)) fun σ' H' hM => ?_
    · refine q_asgL (xs := ((xs.take k.toNat).map (least 5)).map V.int) (el_is (el_lcINA (ns := xs.take k.toNat) (fun z => V.int (least 5 z)) (el_is (el_sl (ev_var rfl) eo_none (eo_some (ev_var rfl)) (ex_l e7 (Ll.sq hb6))) (by rw [show (k : Int) = ((k.toNat : Nat) : Int) by omega, cut_upto, ← List.map_take]; rfl)) (by rw [List.length_take]; omega) (fun _ => rfl) fun z H8 _ _ => ev_cb (ea_cons (ev_var rfl) (ea_cons ev_c ea_nil)) rc_min2) (by rw [List.map_map]; rfl)) fun b' H8 nb' e8 hb' => ?_
      refine s_asgL (xs := (if 0 < k then (zs.take 6).map (least k) else []).map V.int) (el_is (el_lcIN (ns := zs.take 6) (fun _ => decide (0 < k)) (fun z => V.int (least k z)) (el_is (el_sl (ev_var rfl) eo_none (eo_some ev_c) (ex_l (e7.trans e8) (Ll.sq hc6))) (by rw [show (6 : Int) = ((6 : Nat) : Int) from rfl, cut_upto, ← List.map_take])) (by rw [List.length_take]; omega) (fun _ => rfl) (fun z H9 _ _ => et_test (ev_rI0 (ev_var rfl) ev_c)) fun z H9 _ _ _ => ev_cb (ea_cons (ev_var rfl) (ea_cons (ev_var rfl) ea_nil)) rc_min2) ?_) fun c' H9 nc' e9 hc' => ?_
      · by_cases hk0 : 0 < k
        · rw [if_pos hk0, List.filter_eq_self.mpr fun _ _ => decide_eq_true hk0, List.map_map]
          rfl
        · rw [if_neg hk0, List.filter_eq_nil_iff.mpr fun _ _ => by simpa using hk0]
          rfl
      · refine ⟨b', c', _, _, rfl, e9 _ _ hb', hc', IsP_least (IsP_take ix _) (by decide), ?_⟩
        split
        · exact IsP_least (IsP_take iz _) (by omega)
        · exact isPart_iff.mp (by decide +kernel)
    · exact ⟨b, c, xs, zs, rfl, e7 _ _ hb6, e7 _ _ hc6, ix, iz⟩
    · clear hb hc hb6 hc6 lx lz ix iz
      obtain ⟨b, c, xs, zs, rfl, hb, hc, ix, iz⟩ := hM
      have lx := ix.len
      have lz := iz.len
      refine q_asgP (ep_lst (eap_consL (el_cb (ea_cons (ev_var rfl) ea_nil) (rcl_list hb.sq)) (eap_consL (el_cb (ea_cons (ev_var rfl) ea_nil) (rcl_list hc.sq)) eap_nil)) (mono_consL (mono_consL mono_nil)) (fun vs H1 hv => by
        obtain ⟨_, _, rfl, _, _, _, _, rfl, _, _, rfl⟩ := hv
        show 2 ≤ 100000
        decide)) fun v H8 e8 hv => ?_
      obtain ⟨h, vs, rfl, nh, hh, b1, _, rfl, nb1, hb1, c1, _, rfl, nc1, hc1, rfl⟩ := hv
      have hb8 := e8 _ _ hb
      have hc8 := e8 _ _ hc
      have item0 : atI [V.ref b1, V.ref c1] 0 = some (.ref b1) := rfl
      have item1 : atI [V.ref b1, V.ref c1] 1 = some (.ref c1) := rfl
      have L1 : ∀ {H}, Ll H b1 xs → Ll H c1 zs → Lls H [V.ref b1, V.ref c1] [xs, zs] := fun h1 h2 => .cons h1 (.cons h2 .nil)
      have newD : ∀ {σ : L2.St} {H : Hp}, σ[3]? = some (some (.ref b)) → σ[4]? = some (some (.ref c)) → Ll H b xs → Ll H c zs → EvP (tLst (tCons (tVar 3) (tCons (tVar 4) tNil))) σ H (fun v H' => ∃ o : Addr, v = .ref o ∧ H' o = some (.lst [.ref b, .ref c])) := fun h3 h4 _ _ =>
        fun H1 e Q q => EvL.p (el_lst (vs := [.ref b, .ref c]) (ea_cons (ev_var h3) (ea_cons (ev_var h4) ea_nil)) (by show 2 ≤ 100000; decide)) H1 e Q fun v H2 e2 ⟨o, h1, _, h2⟩ => q v H2 e2 ⟨o, h1, h2⟩
      cases hput : putV xs zs k with
      | none =>
        refine q_asg (ev_call (ea_cons (ev_var rfl) (ea_cons (ev_var rfl) (ea_cons (ev_var rfl) ea_nil))) (spv_put hb8 hc8 ix iz k0 (by omega) hput)) fun H9 e9 => ?_
        refine q_asgU (eu_call (ea_cons (ev_op (ev_var rfl) ev_c (rv_ixL (sq_of (e9 _ _ hh)) item0)) (ea_cons (ev_op (ev_var rfl) ev_c (rv_ixL (sq_of (e9 _ _ hh)) item1)) (ea_cons (ev_var rfl) ea_nil))) (spu_told (e9 _ _ hb1) (e9 _ _ hc1) ix iz k0 hput)) fun t H10 nt e10 ht => ?_
        have e810 := e9.trans e10
        refine q_when (b := !decide ([xs, zs] = [xs, zs])) (et_test (ev_opP (ev_var rfl) (newD rfl rfl (e810 _ _ hb8) (e810 _ _ hc8)) fun w H11 e11 hw => ?_)) (fun hb => by simp at hb) (fun _ H11 e11 => ?_)
        · obtain ⟨o, rfl, ho⟩ := hw
          exact rv_neLL (xss := [xs, zs]) (yss := [xs, zs]) (sq_of (e11 _ _ (e810 _ _ hh))) (L1 (e11 _ _ (e810 _ _ hb1)) (e11 _ _ (e810 _ _ hc1))) (sq_of ho) (.cons (e11 _ _ (e810 _ _ hb8)) (.cons (e11 _ _ (e810 _ _ hc8)) .nil))
        · refine q_when (et_test (ev_isN (ev_var rfl))) (fun _ H12 e12 => ?_) (fun z => by cases z)
          have e812 := (e810.trans e11).trans e12
          have big : putV xs zs (10 ^ 20) = none := by
            unfold putV
            split
            · rfl
            · rw [if_pos (.inl (by decide))]
          refine s_ret (ev_andV (ev_opU (ev_var rfl) (eu_tup (ea_cons ev_c (ea_cons ev_c ea_nil)) (by show 2 ≤ 100000; decide)) fun u H13 hu e13 => rv_eqTT (e13 _ _ ((e11.trans e12) _ _ ht)) hu (by decide +kernel) (by decide +kernel)) fun _ => ev_opUU (eu_call (ea_cons (ev_var rfl) (ea_cons (ev_var rfl) (ea_cons (ev_rI ev_c ev_c ⟨by decide, by decide, by decide⟩) ea_nil))) (spu_told (e812 _ _ hb8) (e812 _ _ hc8) ix iz (by decide) big)) (eu_tup (ea_cons ev_c (ea_cons ev_c ea_nil)) (by show 2 ≤ 100000; decide)) fun t2 u H13 ht2 hu e13 => rv_eqTT ht2 hu (by decide +kernel) (by decide +kernel)) fun H13 e13 => ?_
          exact q _
      | some r =>
        obtain ⟨ir, er, eb, ed⟩ := cut_put k0 ix iz hput
        have lr := ir.len
        refine q_asgL (el_call (ea_cons (ev_var rfl) (ea_cons (ev_var rfl) (ea_cons (ev_var rfl) ea_nil))) (spl_put hb8 hc8 ix iz k0 (by omega) hput)) fun d H9 nd e9 hd => ?_
        refine q_asgP (evP_told (ea_cons (ev_op (ev_var rfl) ev_c (rv_ixL (sq_of (e9 _ _ hh)) item0)) (ea_cons (ev_op (ev_var rfl) ev_c (rv_ixL (sq_of (e9 _ _ hh)) item1)) (ea_cons (ev_var rfl) ea_nil))) (e9 _ _ hb1) (e9 _ _ hc1) ix iz k0 hput) fun v H10 e10 hv => ?_
        obtain ⟨o, t, rfl, no, nt, ho, ht⟩ := hv
        have e810 := e9.trans e10
        refine q_when (b := !decide ([xs, zs] = [xs, zs])) (et_test (ev_opP (ev_var rfl) (newD rfl rfl (e810 _ _ hb8) (e810 _ _ hc8)) fun w H11 e11 hw => ?_)) (fun hb => by simp at hb) (fun _ H11 e11 => ?_)
        · obtain ⟨o, rfl, ho⟩ := hw
          exact rv_neLL (xss := [xs, zs]) (yss := [xs, zs]) (sq_of (e11 _ _ (e810 _ _ hh))) (L1 (e11 _ _ (e810 _ _ hb1)) (e11 _ _ (e810 _ _ hc1))) (sq_of ho) (.cons (e11 _ _ (e810 _ _ hb8)) (.cons (e11 _ _ (e810 _ _ hc8)) .nil))
        · refine q_when (et_test (ev_isN (ev_var rfl))) (fun z => by cases z) (fun _ H12 e12 => ?_)
          have e1012 := e11.trans e12
          have e812 := e810.trans e1012
          have hd12 := (e10.trans e1012) _ _ hd
          refine q_when (et_or (et_test (ev_ne (ev_ixT (n := 0) (ev_var rfl) ev_c (e1012 _ _ ht) rfl) ev_c rfl)) fun _ => et_or (et_not (et_B (ev_call (ea_cons (ev_ixT (n := 1) (ev_var rfl) ev_c (e1012 _ _ ht) rfl) (ea_cons (ev_var rfl) ea_nil)) (spv_row (e1012 _ _ ho) hd12 (by omega))))) fun _ =>
            et_test (ev_opPU (z := .bl (!decide ((sq r : Int) = k ∧ besideOf r (sq r) = xs ∧ r.drop (sq r) = zs))) (evP_lcut (ea_cons (ev_var rfl) ea_nil) hd12 ir) (fun w H13 e13 _ => eu_tup (ea_cons (ev_var rfl) (ea_cons (ev_var rfl) (ea_cons (ev_var rfl) ea_nil))) (by show 3 ≤ 100000; decide)) fun w u H13 H14 e13 hw e14 hu => by
                obtain ⟨t1, p1, q1, rfl, _, _, _, ht1, hp1, hq1⟩ := hw
                exact rv_neNLL (e14 _ _ ht1) (e14 _ _ hp1) (e14 _ _ hq1) hu ((e812.trans (e13.trans e14)) _ _ hb8) ((e812.trans (e13.trans e14)) _ _ hc8))) (fun hb => by simp [er, eb, ed] at hb) (fun _ H13 e13 => ?_)
          have e1013 := e1012.trans e13
          refine q_app (e1013 _ _ ho) (ev_ixT (n := 1) (ev_var rfl) ev_c (e1013 _ _ ht) rfl) ev_c (by rw [List.length_map]; omega) fun H14 e14 => ?_
          have m14 : Ex H9 (upd H14 o (.lst (r.map V.int ++ [V.int 1]))) := ((e10.trans e1013).trans e14).mut no
          refine s_ret (ev_andV (ev_call (ea_cons (ev_var rfl) ea_nil) (spv_cut_right (m14 _ _ hd) ir)) fun _ => ev_opP (ev_var rfl) (newD rfl rfl (m14 _ _ (e9 _ _ hb8)) (m14 _ _ (e9 _ _ hc8))) fun w H15 e15 hw => by
            obtain ⟨o, rfl, ho⟩ := hw
            have m := (e9.trans m14).trans e15
            exact rv_eqLL (xss := [xs, zs]) (yss := [xs, zs]) (sq_of (m _ _ hh)) (L1 (m _ _ hb1) (m _ _ hc1)) (sq_of ho) (.cons (m _ _ hb8) (.cons (m _ _ hc8) .nil))) fun H15 e15 => ?_
          rw [decide_eq_true rfl]
          exact q _
end
theorem all_mk {l : PySem.W.OpenLaw} {w : World} {K : PySem.W.Frag} {h : Heap} {mg : Str → Option Value} {fa : Addr} (X : K.In h) (G : h.Ns mainGlobals mg) (hfa : mg "law" = some (.ref fa))
    {f1 : Addr} {od1 an1 : Option Addr} {sl1 : Array (Option Value)} {oc1 kV1 dc1 pm1 cd1 ct1 : Value}
    {f2 : Addr} {od2 an2 : Option Addr} {sl2 : Array (Option Value)} {oc2 kV2 dc2 pm2 cd2 ct2 : Value}
    {f3 : Addr} {od3 an3 : Option Addr} {sl3 : Array (Option Value)} {oc3 kV3 dc3 pm3 cd3 ct3 : Value}
    {f4 : Addr} {od4 an4 : Option Addr} {sl4 : Array (Option Value)} {oc4 kV4 dc4 pm4 cd4 ct4 : Value}
    {f5 : Addr} {od5 an5 : Option Addr} {sl5 : Array (Option Value)} {oc5 kV5 dc5 pm5 cd5 ct5 : Value}
    {f6 : Addr} {od6 an6 : Option Addr} {sl6 : Array (Option Value)} {oc6 kV6 dc6 pm6 cd6 ct6 : Value}
    {f7 : Addr} {od7 an7 : Option Addr} {sl7 : Array (Option Value)} {oc7 kV7 dc7 pm7 cd7 ct7 : Value}
    {f8 : Addr} {od8 an8 : Option Addr} {sl8 : Array (Option Value)} {oc8 kV8 dc8 pm8 cd8 ct8 : Value}
    {f9 : Addr} {od9 an9 : Option Addr} {sl9 : Array (Option Value)} {oc9 kV9 dc9 pm9 cd9 ct9 : Value}
    {f10 : Addr} {od10 an10 : Option Addr} {sl10 : Array (Option Value)} {oc10 kV10 dc10 pm10 cd10 ct10 : Value}
    {f11 : Addr} {od11 an11 : Option Addr} {sl11 : Array (Option Value)} {oc11 kV11 dc11 pm11 cd11 ct11 : Value}
    {f12 : Addr} {od12 an12 : Option Addr} {sl12 : Array (Option Value)} {oc12 kV12 dc12 pm12 cd12 ct12 : Value}
    {f13 : Addr} {od13 an13 : Option Addr} {sl13 : Array (Option Value)} {oc13 kV13 dc13 pm13 cd13 ct13 : Value}
    {f14 : Addr} {od14 an14 : Option Addr} {sl14 : Array (Option Value)} {oc14 kV14 dc14 pm14 cd14 ct14 : Value}
    {f15 : Addr} {od15 an15 : Option Addr} {sl15 : Array (Option Value)} {oc15 kV15 dc15 pm15 cd15 ct15 : Value}
    {f16 : Addr} {od16 an16 : Option Addr} {sl16 : Array (Option Value)} {oc16 kV16 dc16 pm16 cd16 ct16 : Value}
    {f17 : Addr} {od17 an17 : Option Addr} {sl17 : Array (Option Value)} {oc17 kV17 dc17 pm17 cd17 ct17 : Value}
    {f18 : Addr} {od18 an18 : Option Addr} {sl18 : Array (Option Value)} {oc18 kV18 dc18 pm18 cd18 ct18 : Value}
    {t_GREATEST_WHOLE : Tok}
    {C_NoFit : Addr}
    {C_NoNumber : Addr}
    {C_NoParting : Addr}
    {C_PartError : Addr}
    (a1 : PySem.W.nsIn K mainGlobals "is_number" = some (some (.ref f1)))
    (l1 : K.lookup f1 = some ⟨oc1, od1, .func (PySem.W.fnOf "is_number" "is_number" (defArgs s_is_number) (defBody s_is_number) (defScope s_is_number) .none kV1 dc1 pm1 an1 cd1 ct1), sl1⟩)
    (c1 : PySem.W.codeIn K cd1 "is_number" = true) (k1 : PySem.W.keepIn K (.ref f1) = true)
    (a2 : PySem.W.nsIn K mainGlobals "check_number" = some (some (.ref f2)))
    (l2 : K.lookup f2 = some ⟨oc2, od2, .func (PySem.W.fnOf "check_number" "check_number" (defArgs s_check_number) (defBody s_check_number) (defScope s_check_number) .none kV2 dc2 pm2 an2 cd2 ct2), sl2⟩)
    (c2 : PySem.W.codeIn K cd2 "check_number" = true) (k2 : PySem.W.keepIn K (.ref f2) = true)
    (a3 : PySem.W.nsIn K mainGlobals "is_parting" = some (some (.ref f3)))
    (l3 : K.lookup f3 = some ⟨oc3, od3, .func (PySem.W.fnOf "is_parting" "is_parting" (defArgs s_is_parting) (defBody s_is_parting) (defScope s_is_parting) .none kV3 dc3 pm3 an3 cd3 ct3), sl3⟩)
    (c3 : PySem.W.codeIn K cd3 "is_parting" = true) (k3 : PySem.W.keepIn K (.ref f3) = true)
    (a4 : PySem.W.nsIn K mainGlobals "check_parting" = some (some (.ref f4)))
    (l4 : K.lookup f4 = some ⟨oc4, od4, .func (PySem.W.fnOf "check_parting" "check_parting" (defArgs s_check_parting) (defBody s_check_parting) (defScope s_check_parting) .none kV4 dc4 pm4 an4 cd4 ct4), sl4⟩)
    (c4 : PySem.W.codeIn K cd4 "check_parting" = true) (k4 : PySem.W.keepIn K (.ref f4) = true)
    (a5 : PySem.W.nsIn K mainGlobals "square_of" = some (some (.ref f5)))
    (l5 : K.lookup f5 = some ⟨oc5, od5, .func (PySem.W.fnOf "square_of" "square_of" (defArgs s_square_of) (defBody s_square_of) (defScope s_square_of) .none kV5 dc5 pm5 an5 cd5 ct5), sl5⟩)
    (c5 : PySem.W.codeIn K cd5 "square_of" = true) (k5 : PySem.W.keepIn K (.ref f5) = true)
    (a6 : PySem.W.nsIn K mainGlobals "cut_square" = some (some (.ref f6)))
    (l6 : K.lookup f6 = some ⟨oc6, od6, .func (PySem.W.fnOf "cut_square" "cut_square" (defArgs s_cut_square) (defBody s_cut_square) (defScope s_cut_square) .none kV6 dc6 pm6 an6 cd6 ct6), sl6⟩)
    (c6 : PySem.W.codeIn K cd6 "cut_square" = true) (k6 : PySem.W.keepIn K (.ref f6) = true)
    (a7 : PySem.W.nsIn K mainGlobals "put_square" = some (some (.ref f7)))
    (l7 : K.lookup f7 = some ⟨oc7, od7, .func (PySem.W.fnOf "put_square" "put_square" (defArgs s_put_square) (defBody s_put_square) (defScope s_put_square) .none kV7 dc7 pm7 an7 cd7 ct7), sl7⟩)
    (c7 : PySem.W.codeIn K cd7 "put_square" = true) (k7 : PySem.W.keepIn K (.ref f7) = true)
    (a8 : PySem.W.nsIn K mainGlobals "_law_mixed" = some (some (.ref f8)))
    (l8 : K.lookup f8 = some ⟨oc8, od8, .func (PySem.W.fnOf "_law_mixed" "_law_mixed" (defArgs s_law_mixed) (defBody s_law_mixed) (defScope s_law_mixed) .none kV8 dc8 pm8 an8 cd8 ct8), sl8⟩)
    (c8 : PySem.W.codeIn K cd8 "_law_mixed" = true) (k8 : PySem.W.keepIn K (.ref f8) = true)
    (a9 : PySem.W.nsIn K mainGlobals "_law_number" = some (some (.ref f9)))
    (l9 : K.lookup f9 = some ⟨oc9, od9, .func (PySem.W.fnOf "_law_number" "_law_number" (defArgs s_law_number) (defBody s_law_number) (defScope s_law_number) .none kV9 dc9 pm9 an9 cd9 ct9), sl9⟩)
    (c9 : PySem.W.codeIn K cd9 "_law_number" = true) (k9 : PySem.W.keepIn K (.ref f9) = true)
    (a10 : PySem.W.nsIn K mainGlobals "_law_parting_by" = some (some (.ref f10)))
    (l10 : K.lookup f10 = some ⟨oc10, od10, .func (PySem.W.fnOf "_law_parting_by" "_law_parting_by" (defArgs s_law_parting_by) (defBody s_law_parting_by) (defScope s_law_parting_by) .none kV10 dc10 pm10 an10 cd10 ct10), sl10⟩)
    (c10 : PySem.W.codeIn K cd10 "_law_parting_by" = true) (k10 : PySem.W.keepIn K (.ref f10) = true)
    (a11 : PySem.W.nsIn K mainGlobals "_law_is_row" = some (some (.ref f11)))
    (l11 : K.lookup f11 = some ⟨oc11, od11, .func (PySem.W.fnOf "_law_is_row" "_law_is_row" (defArgs s_law_is_row) (defBody s_law_is_row) (defScope s_law_is_row) .none kV11 dc11 pm11 an11 cd11 ct11), sl11⟩)
    (c11 : PySem.W.codeIn K cd11 "_law_is_row" = true) (k11 : PySem.W.keepIn K (.ref f11) = true)
    (a12 : PySem.W.nsIn K mainGlobals "_law_name" = some (some (.ref f12)))
    (l12 : K.lookup f12 = some ⟨oc12, od12, .func (PySem.W.fnOf "_law_name" "_law_name" (defArgs s_law_name) (defBody s_law_name) (defScope s_law_name) .none kV12 dc12 pm12 an12 cd12 ct12), sl12⟩)
    (c12 : PySem.W.codeIn K cd12 "_law_name" = true) (k12 : PySem.W.keepIn K (.ref f12) = true)
    (a13 : PySem.W.nsIn K mainGlobals "_law_side" = some (some (.ref f13)))
    (l13 : K.lookup f13 = some ⟨oc13, od13, .func (PySem.W.fnOf "_law_side" "_law_side" (defArgs s_law_side) (defBody s_law_side) (defScope s_law_side) .none kV13 dc13 pm13 an13 cd13 ct13), sl13⟩)
    (c13 : PySem.W.codeIn K cd13 "_law_side" = true) (k13 : PySem.W.keepIn K (.ref f13) = true)
    (a14 : PySem.W.nsIn K mainGlobals "_law_cut" = some (some (.ref f14)))
    (l14 : K.lookup f14 = some ⟨oc14, od14, .func (PySem.W.fnOf "_law_cut" "_law_cut" (defArgs s_law_cut) (defBody s_law_cut) (defScope s_law_cut) .none kV14 dc14 pm14 an14 cd14 ct14), sl14⟩)
    (c14 : PySem.W.codeIn K cd14 "_law_cut" = true) (k14 : PySem.W.keepIn K (.ref f14) = true)
    (a15 : PySem.W.nsIn K mainGlobals "_law_put" = some (some (.ref f15)))
    (l15 : K.lookup f15 = some ⟨oc15, od15, .func (PySem.W.fnOf "_law_put" "_law_put" (defArgs s_law_put) (defBody s_law_put) (defScope s_law_put) .none kV15 dc15 pm15 an15 cd15 ct15), sl15⟩)
    (c15 : PySem.W.codeIn K cd15 "_law_put" = true) (k15 : PySem.W.keepIn K (.ref f15) = true)
    (a16 : PySem.W.nsIn K mainGlobals "_law_told" = some (some (.ref f16)))
    (l16 : K.lookup f16 = some ⟨oc16, od16, .func (PySem.W.fnOf "_law_told" "_law_told" (defArgs s_law_told) (defBody s_law_told) (defScope s_law_told) .none kV16 dc16 pm16 an16 cd16 ct16), sl16⟩)
    (c16 : PySem.W.codeIn K cd16 "_law_told" = true) (k16 : PySem.W.keepIn K (.ref f16) = true)
    (a17 : PySem.W.nsIn K mainGlobals "_law_cut_right" = some (some (.ref f17)))
    (l17 : K.lookup f17 = some ⟨oc17, od17, .func (PySem.W.fnOf "_law_cut_right" "_law_cut_right" (defArgs s_law_cut_right) (defBody s_law_cut_right) (defScope s_law_cut_right) .none kV17 dc17 pm17 an17 cd17 ct17), sl17⟩)
    (c17 : PySem.W.codeIn K cd17 "_law_cut_right" = true) (k17 : PySem.W.keepIn K (.ref f17) = true)
    (a18 : PySem.W.nsIn K mainGlobals "law" = some (some (.ref f18)))
    (l18 : K.lookup f18 = some ⟨oc18, od18, .func (PySem.W.fnOf "law" "law" (defArgs s_law) (defBody s_law) (defScope s_law) .none kV18 dc18 pm18 an18 cd18 ct18), sl18⟩)
    (c18 : PySem.W.codeIn K cd18 "law" = true) (k18 : PySem.W.keepIn K (.ref f18) = true)
    (z_ValueError : PySem.W.nsIn K mainGlobals "ValueError" = some none)
    (z_all : PySem.W.nsIn K mainGlobals "all" = some none)
    (z_any : PySem.W.nsIn K mainGlobals "any" = some none)
    (z_bool : PySem.W.nsIn K mainGlobals "bool" = some none)
    (z_enumerate : PySem.W.nsIn K mainGlobals "enumerate" = some none)
    (z_int : PySem.W.nsIn K mainGlobals "int" = some none)
    (z_isinstance : PySem.W.nsIn K mainGlobals "isinstance" = some none)
    (z_len : PySem.W.nsIn K mainGlobals "len" = some none)
    (z_list : PySem.W.nsIn K mainGlobals "list" = some none)
    (z_max : PySem.W.nsIn K mainGlobals "max" = some none)
    (z_min : PySem.W.nsIn K mainGlobals "min" = some none)
    (z_range : PySem.W.nsIn K mainGlobals "range" = some none)
    (z_sorted : PySem.W.nsIn K mainGlobals "sorted" = some none)
    (z_sum : PySem.W.nsIn K mainGlobals "sum" = some none)
    (z_tuple : PySem.W.nsIn K mainGlobals "tuple" = some none)
    (v_GREATEST_WHOLE : PySem.W.nsIn K mainGlobals "GREATEST_WHOLE" = some (some (.int 200 t_GREATEST_WHOLE)))
    (g_NoFit : PySem.W.nsIn K mainGlobals "NoFit" = some (some (.ref C_NoFit)))
    (g_NoNumber : PySem.W.nsIn K mainGlobals "NoNumber" = some (some (.ref C_NoNumber)))
    (g_NoParting : PySem.W.nsIn K mainGlobals "NoParting" = some (some (.ref C_NoParting)))
    (g_PartError : PySem.W.nsIn K mainGlobals "PartError" = some (some (.ref C_PartError)))
    (x_NoFit : PySem.W.excIn K C_NoFit [.type "ValueError", .type "Exception", .type "BaseException", .type "object"] "ValueError.__new__" = true)
    (k_NoFit : PySem.W.keepIn K (.ref C_NoFit) = true)
    (s_NoFit : PySem.W.subIn K (.ref C_NoFit) (.type "BaseException") = some true)
    (t_NoFit : PySem.W.typeIn K (.ref C_NoFit) = some (.type "type"))
    (ehg_NoFit : PySem.W.findIn K (.ref C_NoFit) "__getattribute__" = some (some (.builtin "BaseException.__getattribute__")))
    (ehk_NoFit : PySem.W.findIn K (.ref C_NoFit) "__getattr__" = some none)
    (ehd_NoFit : PySem.W.hasDictIn K C_NoFit = true)
    (eha_NoFit : PySem.W.findIn K (.ref C_NoFit) "__class__" = some (some (.builtin "object.__class__")))
    (ehm_NoFit : PySem.W.mroIn K C_NoFit (.type "object") = some true)
    (e_hn : PySem.W.specialIn K (.builtin "object.__class__") "__get__" = some (some (.builtin "getset_descriptor.__get__")))
    (e_ht : PySem.W.takesIn K (.builtin "object.__class__") = some true)
    (ns_PartError : PySem.W.subIn K (.ref C_PartError) (.type "BaseException") = some true)
    (nd_PartError : PySem.W.hasDictIn K C_PartError = true)
    (nt_PartError : PySem.W.typeIn K (.ref C_PartError) = some (.type "type"))
    (ns_NoParting : PySem.W.subIn K (.ref C_NoParting) (.type "BaseException") = some true)
    (nd_NoParting : PySem.W.hasDictIn K C_NoParting = true)
    (nt_NoParting : PySem.W.typeIn K (.ref C_NoParting) = some (.type "type"))
    (ns_NoNumber : PySem.W.subIn K (.ref C_NoNumber) (.type "BaseException") = some true)
    (nd_NoNumber : PySem.W.hasDictIn K C_NoNumber = true)
    (nt_NoNumber : PySem.W.typeIn K (.ref C_NoNumber) = some (.type "type"))
    (m_NoFit_PartError : PySem.W.subIn K (.ref C_NoFit) (.ref C_PartError) = some true)
    (q_NoFit_NoParting : PySem.W.subIn K (.ref C_NoFit) (.ref C_NoParting) = some false)
    (u_NoFit_NoParting : (Value.ref C_NoFit == Value.ref C_NoParting) = false)
    (q_NoFit_NoNumber : PySem.W.subIn K (.ref C_NoFit) (.ref C_NoNumber) = some false)
    (u_NoFit_NoNumber : (Value.ref C_NoFit == Value.ref C_NoNumber) = false)
    (q_NoFit_ValueError : PySem.W.subIn K (.ref C_NoFit) (.type "ValueError") = some true)
    : ∃ fd : FuncData, (∀ (s : Shared) (v : Value), BindsTo s fd ⟨[v], []⟩ [("_law_script", v)]) ∧ ∀ base : Heap, K.In base → base.Ns mainGlobals mg → FnOk l.prog w K mg base CX0 7 fa fd ["_law_script"] (sp_law K) := by
  have e := hfa.symm.trans (PySem.W.mg_of X G a18)
  cases e
  have F1 := fun_mk (st := s_is_number) l1 c1 k1
  have b1 := F1.binds (ps := ["thing"]) fun _ _ _ _ _ _ us hl => match us, hl with | [_], _ => rfl
  have F2 := fun_mk (st := s_check_number) l2 c2 k2
  have b2 := F2.binds (ps := ["thing"]) fun _ _ _ _ _ _ us hl => match us, hl with | [_], _ => rfl
  have F3 := fun_mk (st := s_is_parting) l3 c3 k3
  have b3 := F3.binds (ps := ["thing"]) fun _ _ _ _ _ _ us hl => match us, hl with | [_], _ => rfl
  have F4 := fun_mk (st := s_check_parting) l4 c4 k4
  have b4 := F4.binds (ps := ["thing"]) fun _ _ _ _ _ _ us hl => match us, hl with | [_], _ => rfl
  have F5 := fun_mk (st := s_square_of) l5 c5 k5
  have b5 := F5.binds (ps := ["parting"]) fun _ _ _ _ _ _ us hl => match us, hl with | [_], _ => rfl
  have F6 := fun_mk (st := s_cut_square) l6 c6 k6
  have b6 := F6.binds (ps := ["parting"]) fun _ _ _ _ _ _ us hl => match us, hl with | [_], _ => rfl
  have F7 := fun_mk (st := s_put_square) l7 c7 k7
  have b7 := F7.binds (ps := ["beside", "beneath", "number"]) fun _ _ _ _ _ _ us hl => match us, hl with | [_, _, _], _ => rfl
  have F8 := fun_mk (st := s_law_mixed) l8 c8 k8
  have b8 := F8.binds (ps := ["_law_number_here", "_law_k"]) fun _ _ _ _ _ _ us hl => match us, hl with | [_, _], _ => rfl
  have F9 := fun_mk (st := s_law_number) l9 c9 k9
  have b9 := F9.binds (ps := ["_law_script", "_law_k"]) fun _ _ _ _ _ _ us hl => match us, hl with | [_, _], _ => rfl
  have F10 := fun_mk (st := s_law_parting_by) l10 c10 k10
  have b10 := F10.binds (ps := ["_law_script", "_law_first"]) fun _ _ _ _ _ _ us hl => match us, hl with | [_, _], _ => rfl
  have F11 := fun_mk (st := s_law_is_row) l11 c11 k11
  have b11 := F11.binds (ps := ["_law_found", "_law_due"]) fun _ _ _ _ _ _ us hl => match us, hl with | [_, _], _ => rfl
  have F12 := fun_mk (st := s_law_name) l12 c12 k12
  have b12 := F12.binds (ps := ["_law_error"]) fun _ _ _ _ _ _ us hl => match us, hl with | [_], _ => rfl
  have F13 := fun_mk (st := s_law_side) l13 c13 k13
  have b13 := F13.binds (ps := ["_law_parting"]) fun _ _ _ _ _ _ us hl => match us, hl with | [_], _ => rfl
  have F14 := fun_mk (st := s_law_cut) l14 c14 k14
  have b14 := F14.binds (ps := ["_law_parting"]) fun _ _ _ _ _ _ us hl => match us, hl with | [_], _ => rfl
  have F15 := fun_mk (st := s_law_put) l15 c15 k15
  have b15 := F15.binds (ps := ["_law_beside", "_law_beneath", "_law_number_here"]) fun _ _ _ _ _ _ us hl => match us, hl with | [_, _, _], _ => rfl
  have F16 := fun_mk (st := s_law_told) l16 c16 k16
  have b16 := F16.binds (ps := ["_law_beside", "_law_beneath", "_law_number_here"]) fun _ _ _ _ _ _ us hl => match us, hl with | [_, _, _], _ => rfl
  have F17 := fun_mk (st := s_law_cut_right) l17 c17 k17
  have b17 := F17.binds (ps := ["_law_parting"]) fun _ _ _ _ _ _ us hl => match us, hl with | [_], _ => rfl
  have F18 := fun_mk (st := s_law) l18 c18 k18
  have b18 := F18.binds (ps := ["_law_script"]) fun _ _ _ _ _ _ us hl => match us, hl with | [_], _ => rfl
  let T : Tx K mg := { a_is_number := f1, d_is_number := _, F_is_number := F1, b_is_number := b1, g_is_number := PySem.W.mg_of X G a1, a_check_number := f2, d_check_number := _, F_check_number := F2, b_check_number := b2, g_check_number := PySem.W.mg_of X G a2, a_is_parting := f3, d_is_parting := _, F_is_parting := F3, b_is_parting := b3, g_is_parting := PySem.W.mg_of X G a3, a_check_parting := f4, d_check_parting := _, F_check_parting := F4, b_check_parting := b4, g_check_parting := PySem.W.mg_of X G a4, a_square_of := f5, d_square_of := _, F_square_of := F5, b_square_of := b5, g_square_of := PySem.W.mg_of X G a5, a_cut_square := f6, d_cut_square := _, F_cut_square := F6, b_cut_square := b6, g_cut_square := PySem.W.mg_of X G a6, a_put_square := f7, d_put_square := _, F_put_square := F7, b_put_square := b7, g_put_square := PySem.W.mg_of X G a7, a_law_mixed := f8, d_law_mixed := _, F_law_mixed := F8, b_law_mixed := b8, g_law_mixed := PySem.W.mg_of X G a8, a_law_number := f9, d_law_number := _, F_law_number := F9, b_law_number := b9, g_law_number := PySem.W.mg_of X G a9, a_law_parting_by := f10, d_law_parting_by := _, F_law_parting_by := F10, b_law_parting_by := b10, g_law_parting_by := PySem.W.mg_of X G a10, a_law_is_row := f11, d_law_is_row := _, F_law_is_row := F11, b_law_is_row := b11, g_law_is_row := PySem.W.mg_of X G a11, a_law_name := f12, d_law_name := _, F_law_name := F12, b_law_name := b12, g_law_name := PySem.W.mg_of X G a12, a_law_side := f13, d_law_side := _, F_law_side := F13, b_law_side := b13, g_law_side := PySem.W.mg_of X G a13, a_law_cut := f14, d_law_cut := _, F_law_cut := F14, b_law_cut := b14, g_law_cut := PySem.W.mg_of X G a14, a_law_put := f15, d_law_put := _, F_law_put := F15, b_law_put := b15, g_law_put := PySem.W.mg_of X G a15, a_law_told := f16, d_law_told := _, F_law_told := F16, b_law_told := b16, g_law_told := PySem.W.mg_of X G a16, a_law_cut_right := f17, d_law_cut_right := _, F_law_cut_right := F17, b_law_cut_right := b17, g_law_cut_right := PySem.W.mg_of X G a17, a_law := fa, d_law := _, F_law := F18, b_law := b18, g_law := PySem.W.mg_of X G a18, n_ValueError := PySem.W.mg_none_of X G z_ValueError, n_all := PySem.W.mg_none_of X G z_all, n_any := PySem.W.mg_none_of X G z_any, n_bool := PySem.W.mg_none_of X G z_bool, n_enumerate := PySem.W.mg_none_of X G z_enumerate, n_int := PySem.W.mg_none_of X G z_int, n_isinstance := PySem.W.mg_none_of X G z_isinstance, n_len := PySem.W.mg_none_of X G z_len, n_list := PySem.W.mg_none_of X G z_list, n_max := PySem.W.mg_none_of X G z_max, n_min := PySem.W.mg_none_of X G z_min, n_range := PySem.W.mg_none_of X G z_range, n_sorted := PySem.W.mg_none_of X G z_sorted, n_sum := PySem.W.mg_none_of X G z_sum, n_tuple := PySem.W.mg_none_of X G z_tuple, u_GREATEST_WHOLE := _, c_GREATEST_WHOLE := PySem.W.mg_of X G v_GREATEST_WHOLE, r_GREATEST_WHOLE := ⟨_, rfl⟩, C_NoFit := C_NoFit, g_NoFit := PySem.W.mg_of X G g_NoFit, C_NoNumber := C_NoNumber, g_NoNumber := PySem.W.mg_of X G g_NoNumber, C_NoParting := C_NoParting, g_NoParting := PySem.W.mg_of X G g_NoParting, C_PartError := C_PartError, g_PartError := PySem.W.mg_of X G g_PartError, x_NoFit := x_NoFit, k_NoFit := k_NoFit, s_NoFit := s_NoFit, t_NoFit := t_NoFit, e_NoFit := ⟨ehg_NoFit, ehk_NoFit, s_NoFit, ehd_NoFit, eha_NoFit, e_hn, e_ht, ehm_NoFit⟩, m_NoFit_PartError := PySem.W.exm_ref ns_PartError nd_PartError nt_PartError m_NoFit_PartError, q_NoFit_NoParting := kit_own u_NoFit_NoParting nd_NoParting nt_NoParting q_NoFit_NoParting, q_NoFit_NoFit := kit_same, q_NoFit_NoNumber := kit_own u_NoFit_NoNumber nd_NoNumber nt_NoNumber q_NoFit_NoNumber, q_NoFit_ValueError := kit_built (by decide +kernel) q_NoFit_ValueError }
  exact ⟨PySem.W.fnOf "law" "law" (defArgs s_law) (defBody s_law) (defScope s_law) .none kV18 dc18 pm18 an18 cd18 ct18, fun s v => .of_eq rfl, fun base _ _ => ok_law T⟩
end K9
open PySem PySem.W PyProof.Rows
set_option maxHeartbeats 0 in
theorem PySem.Challenge.cw_stairparts_k09_squares_holds : PySem.Challenge.rw_stairparts_k09_squares.Holds := by
  w_on; o_law; k_head; (case hw => w_witness2)
  k_fill
  refine L2.walk_of (l := PySem.Challenge.rw_stairparts_k09_squares) (n := 63) (k := 7) (x := "_law_script") (CX := fun _ => L2.CX0) (sp := fun w => K9.sp_law _) rfl (by decide) rfl ⟨rfl, by decide, by decide⟩ (fun w h Y => PySem.W.kIn_of Y) ?F (fun _ _ a ns hl _ hS => ⟨a, ns, rfl, hS, hl, fun _ => rfl⟩) (fun _ _ _ _ _ h => h)
  case F =>
    intro w mg fa h KX G hmg
    refine' K9.all_mk KX G hmg ?a1 ?l1 ?c1 ?k1 ?a2 ?l2 ?c2 ?k2 ?a3 ?l3 ?c3 ?k3 ?a4 ?l4 ?c4 ?k4 ?a5 ?l5 ?c5 ?k5 ?a6 ?l6 ?c6 ?k6 ?a7 ?l7 ?c7 ?k7 ?a8 ?l8 ?c8 ?k8 ?a9 ?l9 ?c9 ?k9 ?a10 ?l10 ?c10 ?k10 ?a11 ?l11 ?c11 ?k11 ?a12 ?l12 ?c12 ?k12 ?a13 ?l13 ?c13 ?k13 ?a14 ?l14 ?c14 ?k14 ?a15 ?l15 ?c15 ?k15 ?a16 ?l16 ?c16 ?k16 ?a17 ?l17 ?c17 ?k17 ?a18 ?l18 ?c18 ?k18 ?z_ValueError ?z_all ?z_any ?z_bool ?z_enumerate ?z_int ?z_isinstance ?z_len ?z_list ?z_max ?z_min ?z_range ?z_sorted ?z_sum ?z_tuple ?v_GREATEST_WHOLE ?g_NoFit ?g_NoNumber ?g_NoParting ?g_PartError ?x_NoFit ?k_NoFit ?s_NoFit ?t_NoFit ?ehg_NoFit ?ehk_NoFit ?ehd_NoFit ?eha_NoFit ?ehm_NoFit ?e_hn ?e_ht ?ns_PartError ?nd_PartError ?nt_PartError ?ns_NoParting ?nd_NoParting ?nt_NoParting ?ns_NoNumber ?nd_NoNumber ?nt_NoNumber ?m_NoFit_PartError ?q_NoFit_NoParting ?u_NoFit_NoParting ?q_NoFit_NoNumber ?u_NoFit_NoNumber ?q_NoFit_ValueError
    (case a1 => k_is); (case l1 => k_is); (case c1 => k_is); (case k1 => k_is)
    (case a2 => k_is); (case l2 => k_is); (case c2 => k_is); (case k2 => k_is)
    (case a3 => k_is); (case l3 => k_is); (case c3 => k_is); (case k3 => k_is)
    (case a4 => k_is); (case l4 => k_is); (case c4 => k_is); (case k4 => k_is)
    (case a5 => k_is); (case l5 => k_is); (case c5 => k_is); (case k5 => k_is)
    (case a6 => k_is); (case l6 => k_is); (case c6 => k_is); (case k6 => k_is)
    (case a7 => k_is); (case l7 => k_is); (case c7 => k_is); (case k7 => k_is)
    (case a8 => k_is); (case l8 => k_is); (case c8 => k_is); (case k8 => k_is)
    (case a9 => k_is); (case l9 => k_is); (case c9 => k_is); (case k9 => k_is)
    (case a10 => k_is); (case l10 => k_is); (case c10 => k_is); (case k10 => k_is)
    (case a11 => k_is); (case l11 => k_is); (case c11 => k_is); (case k11 => k_is)
    (case a12 => k_is); (case l12 => k_is); (case c12 => k_is); (case k12 => k_is)
    (case a13 => k_is); (case l13 => k_is); (case c13 => k_is); (case k13 => k_is)
    (case a14 => k_is); (case l14 => k_is); (case c14 => k_is); (case k14 => k_is)
    (case a15 => k_is); (case l15 => k_is); (case c15 => k_is); (case k15 => k_is)
    (case a16 => k_is); (case l16 => k_is); (case c16 => k_is); (case k16 => k_is)
    (case a17 => k_is); (case l17 => k_is); (case c17 => k_is); (case k17 => k_is)
    (case a18 => k_is); (case l18 => k_is); (case c18 => k_is); (case k18 => k_is)
    (case z_ValueError => k_is); (case z_all => k_is); (case z_any => k_is); (case z_bool => k_is)
    (case z_enumerate => k_is); (case z_int => k_is); (case z_isinstance => k_is); (case z_len => k_is)
    (case z_list => k_is); (case z_max => k_is); (case z_min => k_is); (case z_range => k_is)
    (case z_sorted => k_is); (case z_sum => k_is); (case z_tuple => k_is); (case v_GREATEST_WHOLE => k_is)
    (case g_NoFit => k_is); (case g_NoNumber => k_is); (case g_NoParting => k_is); (case g_PartError => k_is)
    (case x_NoFit => k_exc); (case k_NoFit => k_is); (case s_NoFit => k_is); (case t_NoFit => k_is)
    (case ehg_NoFit => k_is); (case ehk_NoFit => k_is); (case ehd_NoFit => k_is); (case eha_NoFit => k_is)
    (case ehm_NoFit => k_is); (case e_hn => k_is); (case e_ht => k_is); (case ns_PartError => k_is)
    (case nd_PartError => k_is); (case nt_PartError => k_is); (case ns_NoParting => k_is); (case nd_NoParting => k_is)
    (case nt_NoParting => k_is); (case ns_NoNumber => k_is); (case nd_NoNumber => k_is); (case nt_NoNumber => k_is)
    (case m_NoFit_PartError => first | rfl | k_is); (case q_NoFit_NoParting => k_is); (case u_NoFit_NoParting => first | rfl | decide +kernel); (case q_NoFit_NoNumber => k_is)
    (case u_NoFit_NoNumber => first | rfl | decide +kernel); (case q_NoFit_ValueError => k_is)
