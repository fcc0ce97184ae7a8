import PyProof.Rows.All
import Wide.All
import OpenK.AllK
import Wide.FinOn
import KE.DatumOrd
import KE.KEqSeq
import HandS.Base
import HandS.Call
import HandS.List
import HandS.Comp
import HandS.Iter
import HandS.Ends
import HandS.Words
import HandS.SortKw
import HandS.SortInts
import HandS.IsInst
import HandS.Style
import HandS.Evl
import HandS.Star
import HandS.SetFor
import HandS.Exc
import HandS.ExcOwn
import HandS.ExcValue
import HandS.ExcIs
import HandS.TryOnly
import HandS.WordsExc
import PyProof.Rows.CountFlat
import PyProof.CallType
import KE.GoesEnumKw
import PyProof.ZipIter
import PyProof.RulesTry
import HandS.Zip
import HandS.Set
import HandS.Strs
import HandS.Defaults
import KE.SortData
import HandS.CallSlots
import HandS.DictComp
import PyProof.P3In
import KE.DataEq
import PySem.Challenge.RW_stairparts_k01_what_is_refused
set_option Elab.async false
set_option linter.all false
set_option maxRecDepth 100000
set_option maxHeartbeats 2000000
namespace XP
open PySem PySem.Spec PyProof.Rows L2
/-! ### max(xs, default=d) over a list of whole numbers -/
theorem fold_max (x : Int) : ∀ xs : List Int, (xs.foldl (fun a y => if decide (a < y) = true then y else a) x ∈ x :: xs) ∧ ∀ y ∈ x :: xs, y ≤ xs.foldl (fun a y => if decide (a < y) = true then y else a) x := by
  intro xs
  induction xs generalizing x with
  | nil => exact ⟨List.mem_cons_self, fun y hy => by simp at hy; simp [hy]⟩
  | cons z r ih =>
    rw [List.foldl_cons]
    by_cases c : x < z
    · rw [if_pos (decide_eq_true c)]
      obtain ⟨h1, h2⟩ := ih z
      refine ⟨List.mem_cons_of_mem _ h1, fun y hy => ?_⟩
      rcases List.mem_cons.mp hy with e | hy
      · have := h2 z List.mem_cons_self
        omega
      · exact h2 y hy
    · rw [if_neg (by simpa using c)]
      obtain ⟨h1, h2⟩ := ih x
      refine ⟨?_, fun y hy => ?_⟩
      · rcases List.mem_cons.mp h1 with e | h
        · rw [e]; exact List.mem_cons_self
        · exact List.mem_cons_of_mem _ (List.mem_cons_of_mem _ h)
      · rcases List.mem_cons.mp hy with e | hy
        · rw [e]; exact h2 x List.mem_cons_self
        · rcases List.mem_cons.mp hy with e | hy
          · have := h2 x List.mem_cons_self
            omega
          · exact h2 y (List.mem_cons_of_mem _ hy)
theorem readsAll_ints (h : Heap) : ∀ {vs : List Value} {ns : List Int}, IntsAre vs ns → ReadsAll h vs (ns.map (PySem.W.Datum.toD (α := Int))) []
  | _, _, .nil => .nil
  | _, _, .cons n t r => by
    rw [List.map_cons]
    exact ReadsAll.cons (as := []) (bs := []) (.int n t) (readsAll_ints h r)
def rMaxD (K : PySem.W.Frag) : List V → List V → Hp → VK → Prop := fun vs zs H Q => ∃ (a : Addr) (ns : List Int) (d : Int), vs = [V.ref a] ∧ zs = [.int d] ∧ SqL K H a (ns.map V.int) ∧
  (ns = [] → Q (.int d) H) ∧ ∀ m, m ∈ ns → (∀ y, y ∈ ns → y ≤ m) → Q (.int m) H
theorem cr_maxD {X : Cx} (hc : X.calm = true) (hu : X.A.units + 2 < cLine) : CallRK X (.builtin "max") [Str.ofString "default"] (rMaxD X.K) := by
  intro pins s σ H vs zs us ws Q I r rz h
  obtain ⟨a, ns, d, rfl, rfl, hs, q0, q⟩ := h
  obtain ⟨its, rv, hl, _⟩ := I.list hs
  rw [Vals.ref1 r]
  obtain ⟨w1, rfl, t1, rfl⟩ := vals1 rz
  refine PySem.W.max_list_datum_default (α := Int) (I.ok.hd hc) hl.isList ⟨[], readsAll_ints _ rv.ints⟩ (by show X.A.units + 1 + 0 < cLine; omega) (fun e h' tk hk => ⟨.int d, H, I.kept hk, ⟨_, rfl⟩, q0 e⟩) fun y ys i v h' tk e hi hd hk => ?_
  obtain ⟨as, hr⟩ := hd
  obtain ⟨g1, g2⟩ := fold_max y ys
  have hr' : Reads h' v (.int (ys.foldl (fun a y => if decide (a < y) = true then y else a) y)) as := hr
  cases hr' with
  | int _ t => exact ⟨.int _, H, I.kept hk, ⟨_, rfl⟩, q _ (by rw [e]; exact g1) (by rw [e]; exact g2)⟩
end XP
/-! ## Short words over the hand layer: what evaluates to what -/
open PySem in
theorem L2.Room.two {k : Nat} {A : PySem.Around} (r : L2.Room k A) : A.units + 2 < cLine := by
  have := r.un
  omega
namespace XP
open PySem PySem.Spec PyProof.Rows L2
/-! ### the rules that name the written part K, by a K of one's own (within comprehensions) -/
section
variable {X : Cx} {K : PySem.W.Frag}
theorem isiK (h : X.K = K) : CallR X (.builtin "isinstance") (rIsi K) := h ▸ call_isi
def rLenK (K : PySem.W.Frag) : List V → Hp → VK → Prop := fun xs H Q => ∃ p ys, xs = [.ref p] ∧ (SqL K H p ys ∨ SqT K H p ys) ∧ Q (.int ys.length) H
theorem lenK (h : X.K = K) : CallR X (.builtin "len") (rLenK K) := h ▸ call_len_seq
theorem sumK (h : X.K = K) (hc : X.calm = true) : CallR X (.builtin "sum") (rSum K) := h ▸ cr_sum hc
theorem maxK (h : X.K = K) (hc : X.calm = true) : CallR X (.builtin "max") (rMax K) := h ▸ cr_max hc
theorem minK (h : X.K = K) (hc : X.calm = true) : CallR X (.builtin "min") (rMin K) := h ▸ cr_min hc
theorem allK (h : X.K = K) (hc : X.calm = true) : CallR X (.builtin "all") (rAll K) := h ▸ cr_all hc
theorem anyK (h : X.K = K) (hc : X.calm = true) : CallR X (.builtin "any") (rAny K) := h ▸ cr_any hc
theorem sortedK (h : X.K = K) : CallR X (.builtin "sorted") (rSortedI K) := h ▸ cr_sortedI
def rListK (K : PySem.W.Frag) : List V → Hp → VK → Prop := fun xs H Q => ∃ p ys, xs = [.ref p] ∧ (SqL K H p ys ∨ SqT K H p ys) ∧ ∀ l, H l = none → Q (.ref l) (upd H l (.lst ys))
theorem listK (h : X.K = K) : CallR X (.type "list") (rListK K) := h ▸ call_list_of
theorem ixlK (h : X.K = K) : IxR X (rIxL K) := h ▸ ix_list
theorem ixtK (h : X.K = K) : IxR X (rIxT K) := h ▸ ix_tup
theorem eqK (h : X.K = K) (hu : X.A.units + 64 < cLine) : OpR X (compareOp .Eq) (rEqD K) := h ▸ op_eqD hu
theorem neK (h : X.K = K) (hu : X.A.units + 64 < cLine) : OpR X (compareOp .NotEq) (rNeD K) := h ▸ op_neD hu
theorem inK (h : X.K = K) : OpR X (compareOp .In) (rIn K false) := h ▸ op_in_seq
theorem notInK (h : X.K = K) : OpR X (compareOp .NotIn) (rIn K true) := h ▸ op_notIn_seq
theorem sllK (h : X.K = K) : SlR X (rSlL K) := h ▸ sl_list
theorem maxDK (h : X.K = K) (hc : X.calm = true) (hu : X.A.units + 2 < cLine) : CallRK X (.builtin "max") [Str.ofString "default"] (rMaxD K) := h ▸ cr_maxD hc hu
end
end XP
namespace XP
open PySem PySem.Spec PyProof.Rows L2 Evl
/-- a list of whole numbers stands at a -/
abbrev Ll (H : Hp) (a : Addr) (ns : List Int) : Prop := H a = some (.lst (ns.map V.int))
theorem Ll.sq {K : PySem.W.Frag} {H : Hp} {a : Addr} {ns : List Int} (h : Ll H a ns) : SqL K H a (ns.map V.int) := .inl (.inl h)
theorem map_int_inj : ∀ {xs ys : List Int}, xs.map V.int = ys.map V.int → xs = ys
  | [], [], _ => rfl
  | [], _ :: _, h => by simp at h
  | _ :: _, [], h => by simp at h
  | x :: xs, y :: ys, h => by
    rw [List.map_cons, List.map_cons] at h
    injection h with h1 h2
    injection h1 with h1
    rw [h1, map_int_inj h2]
theorem get_int {ns : List Int} {i : Nat} {v : V} (h : (ns.map V.int)[i]? = some v) : ∃ z, ns[i]? = some z ∧ v = .int z := by
  rw [List.getElem?_map] at h
  cases e : ns[i]? with
  | none => rw [e] at h; cases h
  | some z => rw [e] at h; cases h; exact ⟨z, rfl, rfl⟩
theorem take_one {α : Type} {l : List α} {i : Nat} {x : α} (h : l[i]? = some x) : l.take (i + 1) = l.take i ++ [x] := by
  rw [List.take_add_one, h]
  rfl
theorem drop_one {α : Type} {l : List α} {i : Nat} {x : α} (h : l[i]? = some x) : l.drop i = x :: l.drop (i + 1) := by
  obtain ⟨hi, e⟩ := List.getElem?_eq_some_iff.mp h
  rw [List.drop_eq_getElem_cons hi, e]
theorem lt_of_get {α : Type} {l : List α} {i : Nat} {x : α} (h : l[i]? = some x) : i < l.length := (List.getElem?_eq_some_iff.mp h).1
/-! data -/
theorem dpall_ints {K : PySem.W.Frag} {H : Hp} : ∀ ns : List Int, DpAll K H (ns.map V.int) (ns.map PyData.int)
  | [] => .nil
  | n :: r => .cons (.int n) (dpall_ints r)
theorem dp_ints {K : PySem.W.Frag} {H : Hp} {a : Addr} {ns : List Int} (h : SqL K H a (ns.map V.int)) : Dp K H (.ref a) (.list (ns.map PyData.int)) := .lst h (dpall_ints ns)
theorem eqvAll_ints : ∀ xs ys : List Int, PyData.eqvAll (xs.map PyData.int) (ys.map PyData.int) = decide (xs = ys)
  | [], [] => by simp [PyData.eqvAll]
  | [], _ :: _ => by simp [PyData.eqvAll]
  | _ :: _, [] => by simp [PyData.eqvAll]
  | x :: xs, y :: ys => by
    show (PyData.eqv (.int x) (.int y) && PyData.eqvAll (xs.map PyData.int) (ys.map PyData.int)) = _
    rw [eqvAll_ints xs ys]
    rw [Bool.eq_iff_iff]
    simp [PyData.eqv]
theorem eqv_ints (xs ys : List Int) : PyData.eqv (.list (xs.map PyData.int)) (.list (ys.map PyData.int)) = decide (xs = ys) := by
  simp only [PyData.eqv]
  exact eqvAll_ints xs ys
theorem shaped_ints (ns : List Int) : SeqAt.shaped (.list (ns.map PyData.int)) = true := PySem.W.ke_shaped_ints ns
section
variable {K : PySem.W.Frag} {σ : L2.St} {H H' : Hp} {ta tb te tx : TE} {t u : TT} {x y z v : V} {r : R2} {a b p : Addr} {xs ys : List Int} {i j : Int}
/-! operators -/
theorem ev_rI0 {g : Int → Int → V} (ha : Ev ta σ H (.int i)) (hb : Ev tb σ H (.int j)) : Ev (tOp (rI0 g) ta tb) σ H (g i j) := ev_op ha hb rv_I0
theorem ev_rI {C : Int → Int → Prop} {g : Int → Int → V} (ha : Ev ta σ H (.int i)) (hb : Ev tb σ H (.int j)) (hc : C i j) : Ev (tOp (rI C g) ta tb) σ H (g i j) := ev_op ha hb (rv_I hc)
theorem ev_eq (ha : Ev ta σ H x) (hb : Ev tb σ H y) (h : scal x y = true) : Ev (tOp rEq ta tb) σ H (.bl (decide (x = y))) := ev_op ha hb (rv_eq h)
theorem ev_ne (ha : Ev ta σ H x) (hb : Ev tb σ H y) (h : scal x y = true) : Ev (tOp rNe ta tb) σ H (.bl (!decide (x = y))) := ev_op ha hb (rv_ne h)
theorem rv_eqL (h1 : SqL K H a (xs.map V.int)) (h2 : SqL K H b (ys.map V.int)) : RV (rEqD K) (.ref a) (.ref b) H (.bl (decide (xs = ys))) := fun H1 e Q q =>
  ⟨_, _, dp_ints (ex_l e h1), dp_ints (ex_l e h2), shaped_ints xs, shaped_ints ys, by rw [eqv_ints]; exact q H1 (Ex.refl H1)⟩
theorem rv_neL (h1 : SqL K H a (xs.map V.int)) (h2 : SqL K H b (ys.map V.int)) : RV (rNeD K) (.ref a) (.ref b) H (.bl (!decide (xs = ys))) := fun H1 e Q q =>
  ⟨_, _, dp_ints (ex_l e h1), dp_ints (ex_l e h2), shaped_ints xs, shaped_ints ys, by rw [eqv_ints]; exact q H1 (Ex.refl H1)⟩
/-- is None, is True -/
theorem ev_isN (ha : Ev ta σ H x) : Ev (tOp (fun x y H Q => y = .non ∧ Q (.bl (decide (x = .non))) H) ta (tC .non)) σ H (.bl (decide (x = .non))) := ev_op ha ev_c fun H1 _ _ q => ⟨rfl, q H1 (Ex.refl H1)⟩
theorem ev_notN (ha : Ev ta σ H x) : Ev (tOp (fun x y H Q => y = .non ∧ Q (.bl (!decide (x = .non))) H) ta (tC .non)) σ H (.bl (!decide (x = .non))) := ev_op ha ev_c fun H1 _ _ q => ⟨rfl, q H1 (Ex.refl H1)⟩
theorem ev_isB {c d : Bool} (ha : Ev ta σ H (.bl c)) (hb : Ev tb σ H (.bl d)) : Ev (tOp rIsB ta tb) σ H (.bl (decide (c = d))) := ev_op ha hb fun H1 _ _ q => ⟨c, d, rfl, rfl, q H1 (Ex.refl H1)⟩
theorem ev_notB {c d : Bool} (ha : Ev ta σ H (.bl c)) (hb : Ev tb σ H (.bl d)) : Ev (tOp rNotB ta tb) σ H (.bl (!decide (c = d))) := ev_op ha hb fun H1 _ _ q => ⟨c, d, rfl, rfl, q H1 (Ex.refl H1)⟩
/-! calls of built-ins, by values -/
theorem rc_isi {c : V} {t u : Value} {k : Bool} (hc : ClsV c u) (ht : ∀ H1, Ex H H1 → TyX K H1 x t) (hk : PySem.W.kitOne K t u = some k) : RC (rIsi K) [x, c] H (.bl k) := fun H1 e _ q =>
  ⟨x, c, t, u, k, rfl, hc, ht H1 e, hk, q H1 (Ex.refl H1)⟩
theorem rc_isiL {zs : List V} (h : H a = some (.lst zs)) : RC (rIsi K) [.ref a, .ty "list"] H (.bl true) := rc_isi (.ty _) (fun H1 e => .base (.lst (e a _ h))) (kit_ty (by decide +kernel))
theorem rc_isiInt : RC (rIsi K) [.int i, .ty "int"] H (.bl true) := rc_isi (.ty _) (fun _ _ => .base (.int _)) (kit_ty (by decide +kernel))
theorem rc_isiBool : RC (rIsi K) [.int i, .ty "bool"] H (.bl false) := rc_isi (.ty _) (fun _ _ => .base (.int _)) (kit_ty (by decide +kernel))
theorem rc_len {zs : List V} (h : SqL K H a zs) : RC (rLenK K) [.ref a] H (.int (zs.length : Int)) := fun H1 e _ q =>
  ⟨a, zs, rfl, .inl (ex_l e h), q H1 (Ex.refl H1)⟩
theorem rc_sum (h : SqL K H a (xs.map V.int)) : RC (rSum K) [.ref a] H (.int xs.sum) := fun H1 e _ q => ⟨a, xs, rfl, ex_l e h, q H1 (Ex.refl H1)⟩
theorem rc_all {bs : List Bool} (h : SqL K H a (bs.map V.bl)) : RC (rAll K) [.ref a] H (.bl (bs.all id)) := fun H1 e _ q => ⟨a, bs, rfl, ex_l e h, q H1 (Ex.refl H1)⟩
theorem rc_any {bs : List Bool} (h : SqL K H a (bs.map V.bl)) : RC (rAny K) [.ref a] H (.bl (bs.any id)) := fun H1 e _ q => ⟨a, bs, rfl, ex_l e h, q H1 (Ex.refl H1)⟩
theorem rc_min2 : RC (fun xs H Q => ∃ i j, xs = [.int i, .int j] ∧ Q (.int (if j < i then j else i)) H) [.int i, .int j] H (.int (if j < i then j else i)) := fun H1 _ _ q => ⟨i, j, rfl, q H1 (Ex.refl H1)⟩
theorem rc_max2 : RC (fun xs H Q => ∃ i j, xs = [.int i, .int j] ∧ Q (.int (if j > i then j else i)) H) [.int i, .int j] H (.int (if j > i then j else i)) := fun H1 _ _ q => ⟨i, j, rfl, q H1 (Ex.refl H1)⟩
/-- a call whose only argument is a new list -/
theorem ev_cbL {r : List V → Hp → VK → Prop} {zs : List V} (h : EvL ta σ H zs) (hr : ∀ p H1, Ex H H1 → H1 p = some (.lst zs) → RC r [.ref p] H1 z) : Ev (tCB r (tCons ta tNil)) σ H z := fun H1 e Q q =>
  h H1 e _ fun p H2 _ e2 hp => hr p H2 (e.trans e2) hp H2 (Ex.refl H2) Q fun H3 e3 => q H3 (e2.trans e3)
/-- list(xs): a new list -/
theorem rcl_list {zs : List V} (h : SqL K H a zs) : RCL (rListK K) [.ref a] H zs := fun H1 e _ q =>
  ⟨a, zs, rfl, .inl (ex_l e h), fun l hl => q l _ hl (Ex.new hl) upd_same⟩
/-- a value of which P is known: what a call may hand back -/
def EvP (te : TE) (σ : L2.St) (H : Hp) (P : V → Hp → Prop) : Prop := ∀ H1, Ex H H1 → ∀ Q : VK, (∀ v H2, Ex H1 H2 → P v H2 → Q v H2) → te σ H1 Q
theorem q_asgP {i : Nat} {D : Ends} {tz : TS} {P : V → Hp → Prop} (h : EvP te σ H P) (k : ∀ v H1, Ex H H1 → P v H1 → tz D (σ.set i (some v)) H1) : tSeq (tAsg te (gName i)) tz D σ H := h H (Ex.refl H) _ fun v H1 e p => k v H1 e p
theorem EvP.of (h : Ev te σ H v) : EvP te σ H (fun w _ => w = v) := fun H1 e Q q => h H1 e Q fun H2 e2 => q v H2 e2 rfl
theorem evP_call {sp : Sp} {dvs vs : List V} {E : XK} {ta : TA} {P : V → Hp → Prop} (h : EvA ta σ H vs) (hs : ∀ H1, Ex H H1 → ∀ Q : VK, (∀ v H2, Ex H1 H2 → P v H2 → Q v H2) → ∀ E : XK, sp (vs ++ dvs) H1 Q E) : EvP (tCall sp dvs E ta) σ H P := fun H1 e Q q =>
  h H1 e _ fun H2 e2 => hs H2 (e.trans e2) Q (fun v H3 e3 p => q v H3 (e2.trans e3) p) E
/-- xs + ys of lists that stand in H -/
theorem el_cat {l m : Addr} {zs ws : List V} (ha : Ev ta σ H (.ref l)) (hb : Ev tb σ H (.ref m)) (h1 : H l = some (.lst zs)) (h2 : H m = some (.lst ws)) (hz : zs.length + ws.length ≤ 100000) : EvL (tOp rCat ta tb) σ H (zs ++ ws) := fun H1 e Q q =>
  ha H1 e _ fun H2 e2 => hb H2 (e.trans e2) _ fun H3 e3 => ⟨l, m, zs, ws, rfl, rfl, (((e.trans e2).trans e3) l _ h1), (((e.trans e2).trans e3) m _ h2), sz_of hz, fun p hp => q p _ (fresh_back (e2.trans e3) hp) ((e2.trans e3).trans (Ex.new hp)) upd_same⟩
/-- [..] + ys -/
theorem el_catN {m : Addr} {zs ws : List V} (ha : EvL ta σ H zs) (hb : Ev tb σ H (.ref m)) (h2 : H m = some (.lst ws)) (hz : zs.length + ws.length ≤ 100000) : EvL (tOp rCat ta tb) σ H (zs ++ ws) := fun H1 e Q q =>
  ha H1 e _ fun l H2 hl e2 h1 => hb H2 (e.trans e2) _ fun H3 e3 => ⟨l, m, zs, ws, rfl, rfl, e3 l _ h1, (((e.trans e2).trans e3) m _ h2), sz_of hz, fun p hp => q p _ (fresh_back (e2.trans e3) hp) ((e2.trans e3).trans (Ex.new hp)) upd_same⟩
/-- xs + [..] -/
theorem el_catR {l : Addr} {zs ws : List V} (ha : Ev ta σ H (.ref l)) (hb : EvL tb σ H ws) (h1 : H l = some (.lst zs)) (hz : zs.length + ws.length ≤ 100000) : EvL (tOp rCat ta tb) σ H (zs ++ ws) := fun H1 e Q q =>
  ha H1 e _ fun H2 e2 => hb H2 (e.trans e2) _ fun m H3 hm e3 h2 => ⟨l, m, zs, ws, rfl, rfl, (((e.trans e2).trans e3) l _ h1), h2, sz_of hz, fun p hp => q p _ (fresh_back (e2.trans e3) hp) ((e2.trans e3).trans (Ex.new hp)) upd_same⟩
/-- [..] + [..], slices and the like -/
theorem el_catNN {zs ws : List V} (ha : EvL ta σ H zs) (hb : EvL tb σ H ws) (hz : zs.length + ws.length ≤ 100000) : EvL (tOp rCat ta tb) σ H (zs ++ ws) := fun H1 e Q q =>
  ha H1 e _ fun l H2 hl e2 h1 => hb H2 (e.trans e2) _ fun m H3 hm e3 h2 => ⟨l, m, zs, ws, rfl, rfl, e3 l _ h1, h2, sz_of hz, fun p hp => q p _ (fresh_back (e2.trans e3) hp) ((e2.trans e3).trans (Ex.new hp)) upd_same⟩
/-- [..] * k -/
theorem el_rep {zs : List V} {k : Int} (ha : EvL ta σ H zs) (hb : Ev tb σ H (.int k)) (h0 : 0 ≤ k ∧ k ≤ 100000) (hz : zs.length * k.toNat ≤ 100000) : EvL (tOp rRep ta tb) σ H (List.replicate k.toNat zs).flatten := fun H1 e Q q =>
  ha H1 e _ fun l H2 hl e2 h1 => hb H2 (e.trans e2) _ fun H3 e3 => ⟨l, k, zs, rfl, rfl, e3 l _ h1, by omega, by omega, sz_of hz, fun p hp => q p _ (fresh_back (e2.trans e3) hp) ((e2.trans e3).trans (Ex.new hp)) upd_same⟩
theorem EvP.mono {P : V → Hp → Prop} (e : Ex H H') (h : EvP te σ H P) : EvP te σ H' P := fun H1 a Q q => h H1 (e.trans a) Q q
end
end XP
namespace XP
open PySem PySem.Spec PyProof.Rows L2 Evl
/-! ### comprehensions -/
theorem given_getD {ns : List Int} (p : Int → Bool) (g : Int → V) : given ns.length (fun i => p (ns.getD i 0)) (fun i => g (ns.getD i 0)) = (ns.filter p).map g := by
  unfold given
  have key : ∀ (ns : List Int), (List.range ns.length).map (fun i => ns.getD i 0) = ns := by
    intro ns
    refine List.ext_getElem (by simp) fun i h1 h2 => ?_
    rw [List.getElem_map, List.getElem_range]
    simp [List.getD, h2]
  have e2 : ((List.range ns.length).filter fun i => p (ns.getD i 0)).map (fun i => ns.getD i 0) = ns.filter p := by
    have := List.filter_map (f := fun i => ns.getD i 0) (p := p) (l := List.range ns.length)
    rw [key ns] at this
    exact this.symm
  rw [← e2, List.map_map]
  rfl
theorem given_all (n : Nat) (v : Nat → V) : given n (fun _ => true) v = (List.range n).map v := by
  unfold given
  rw [List.filter_eq_self.mpr fun _ _ => rfl]
section
variable {K : PySem.W.Frag} {σ : L2.St} {H H' : Hp} {ta tb te tx : TE} {t u : TT} {x y z v : V} {r : R2} {a b p : Addr} {xs ys : List Int} {i j : Int} {D : Ends} {tz : TS}
theorem et_yes : EvT tYes σ H true := fun H1 _ _ q => q H1 (Ex.refl H1)
theorem el_is {zs ws : List V} (h : EvL te σ H zs) (e : zs = ws) : EvL te σ H ws := by
  rw [← e]
  exact h
theorem el_lcI {tl : TE} {k : Nat} {vs : List Nat} {ns : List Int} (p : Int → Bool) (g : Int → V) (h : Ev tl σ H (.ref a)) (hx : SqL K H a (ns.map V.int)) (hz : ns.length ≤ 40000) (hw : ∀ x, wipe ((wipe σ vs).set k (some x)) vs = wipe σ vs)
    (ht : ∀ (z : Int) H1, Ex H H1 → z ∈ ns → EvT t ((wipe σ vs).set k (some (.int z))) H1 (p z)) (he : ∀ (z : Int) H1, Ex H H1 → z ∈ ns → p z = true → Ev te ((wipe σ vs).set k (some (.int z))) H1 (g z)) :
    EvL (tLc (iList K tl) (gName k) t te vs) σ H ((ns.filter p).map g) := by
  refine el_is (el_lcL (fun i => p (ns.getD i 0)) (fun i => g (ns.getD i 0)) h hx (by rw [List.length_map]; exact hz) hw (fun i x H1 e1 hi => ?_) (fun i x H1 e1 hi hp => ?_)) (by rw [List.length_map]; exact given_getD p g)
  · obtain ⟨z, e, rfl⟩ := get_int hi
    have ez : ns.getD i 0 = z := by simp [List.getD, e]
    rw [ez]
    exact ht z H1 e1 (List.mem_of_getElem? e)
  · obtain ⟨z, e, rfl⟩ := get_int hi
    have ez : ns.getD i 0 = z := by simp [List.getD, e]
    rw [ez] at hp ⊢
    exact he z H1 e1 (List.mem_of_getElem? e) hp
theorem el_lcIA {tl : TE} {k : Nat} {vs : List Nat} {ns : List Int} (g : Int → V) (h : Ev tl σ H (.ref a)) (hx : SqL K H a (ns.map V.int)) (hz : ns.length ≤ 40000) (hw : ∀ x, wipe ((wipe σ vs).set k (some x)) vs = wipe σ vs)
    (he : ∀ (z : Int) H1, Ex H H1 → z ∈ ns → Ev te ((wipe σ vs).set k (some (.int z))) H1 (g z)) :
    EvL (tLc (iList K tl) (gName k) tYes te vs) σ H (ns.map g) := by
  refine el_is (el_lcI (fun _ => true) g h hx hz hw (fun _ _ _ _ => et_yes) fun z H1 e1 hm _ => he z H1 e1 hm) ?_
  rw [List.filter_eq_self.mpr fun _ _ => rfl]
theorem el_lcRA {tr : TA} {k : Nat} {vs : List Nat} {n : Int} (g : Nat → V) (h : EvA tr σ H [.int n]) (hn : 0 ≤ n ∧ n ≤ 40000) (hw : ∀ x, wipe ((wipe σ vs).set k (some x)) vs = wipe σ vs)
    (he : ∀ (i : Nat) H1, Ex H H1 → (i : Int) < n → Ev te ((wipe σ vs).set k (some (.int (i : Int)))) H1 (g i)) :
    EvL (tLc (iRng1 tr) (gName k) tYes te vs) σ H ((List.range n.toNat).map g) :=
  el_is (el_lcR1 (fun _ => true) g h hn hw (fun _ _ _ _ => et_yes) fun i H1 e1 hi _ => he i H1 e1 hi) (given_all _ _)
/-! ### calls of built-ins, further -/
theorem rc_maxOf {m : Int} (h : SqL K H a (xs.map V.int)) (h0 : 0 < xs.length) (hm : ∀ k, k ∈ xs → (∀ y, y ∈ xs → y ≤ k) → k = m) : RC (rMax K) [.ref a] H (.int m) := fun H1 e _ q =>
  ⟨a, xs, rfl, ex_l e h, h0, fun k h1 h2 => by rw [hm k h1 h2]; exact q H1 (Ex.refl H1)⟩
theorem rc_minOf {m : Int} (h : SqL K H a (xs.map V.int)) (h0 : 0 < xs.length) (hm : ∀ k, k ∈ xs → (∀ y, y ∈ xs → k ≤ y) → k = m) : RC (rMin K) [.ref a] H (.int m) := fun H1 e _ q =>
  ⟨a, xs, rfl, ex_l e h, h0, fun k h1 h2 => by rw [hm k h1 h2]; exact q H1 (Ex.refl H1)⟩
theorem ev_maxD {m d : Int} {t1 t2 : TA} (h1 : EvA t1 σ H [.ref a]) (h2 : EvA t2 σ H [.int d]) (h : SqL K H a (xs.map V.int)) (h0 : xs = [] → d = m) (hm : ∀ k, k ∈ xs → (∀ y, y ∈ xs → y ≤ k) → k = m) :
    Ev (tCKw (rMaxD K) t1 t2) σ H (.int m) := fun H1 e Q q => h1 H1 e _ fun H2 e2 => h2 H2 (e.trans e2) _ fun H3 e3 =>
  ⟨a, xs, d, rfl, rfl, ex_l ((e.trans e2).trans e3) h, fun z => by rw [h0 z]; exact q H3 (e2.trans e3), fun k k1 k2 => by rw [hm k k1 k2]; exact q H3 (e2.trans e3)⟩
/-! ### xs[i] of a written list -/
theorem ev_ixN {zs : List V} (ha : EvL ta σ H zs) (hb : ∀ H1, Ex H H1 → Ev tb σ H1 (.int i)) (hv : atI zs i = some v) : Ev (tOp (rIxL K) ta tb) σ H v := ev_opL1 ha hb fun p H1 hp _ => rv_ixL (sq_of hp) hv
theorem ev_ixI (ha : Ev ta σ H (.ref a)) (hb : Ev tb σ H (.int i)) (h : SqL K H a (xs.map V.int)) (h0 : 0 ≤ i) (h1 : i < xs.length) : Ev (tOp (rIxL K) ta tb) σ H (.int (xs.getD i.toNat 0)) := by
  refine ev_op ha hb (rv_ixL h ?_)
  have hi : i.toNat < xs.length := by omega
  obtain ⟨j, rfl⟩ := Int.eq_ofNat_of_zero_le h0
  have hj : j < xs.length := by omega
  refine atI_nat ?_
  rw [List.getElem?_map, List.getElem?_eq_getElem hj]
  simp [List.getD, hj]
theorem ev_ixJ {j : Nat} (ha : Ev ta σ H (.ref a)) (hb : Ev tb σ H (.int (j : Int))) (h : SqL K H a (xs.map V.int)) (hj : j < xs.length) : Ev (tOp (rIxL K) ta tb) σ H (.int (xs.getD j 0)) := ev_ixI (i := (j : Int)) ha hb h (by omega) (by omega)
/-! ### statements that change a list -/
theorem q_rev {l : Addr} {zs : List V} (ha : Ev ta σ H (.ref l)) (hl : H l = some (.lst zs)) (k : ∀ H1, Ex H H1 → tz D σ (upd H1 l (.lst zs.reverse))) : tSeq (tDrop (tBM0 K "list" rReverse ta)) tz D σ H :=
  ha H (Ex.refl H) _ fun H1 e1 => ⟨.inl ⟨rfl, zs, sq_of (e1 l _ hl)⟩, l, zs, rfl, rfl, e1 l _ hl, k H1 e1⟩
theorem q_clear {l : Addr} {zs : List V} (ha : Ev ta σ H (.ref l)) (hl : H l = some (.lst zs)) (k : ∀ H1, Ex H H1 → tz D σ (upd H1 l (.lst []))) : tSeq (tDrop (tBM0 K "list" rClear ta)) tz D σ H :=
  ha H (Ex.refl H) _ fun H1 e1 => ⟨.inl ⟨rfl, zs, sq_of (e1 l _ hl)⟩, l, zs, rfl, rfl, e1 l _ hl, k H1 e1⟩
/-- sorted(xs) as a value: some rising arrangement, new -/
theorem evP_sorted {tr : TA} (h : EvA tr σ H [.ref a]) (hx : SqL K H a (xs.map V.int)) : EvP (tCB (rSortedI K) tr) σ H (fun v H1 => ∃ (p : Addr) (ys : List Int), v = .ref p ∧ H p = none ∧ ys.Perm xs ∧ ys.Pairwise (· ≤ ·) ∧ Ll H1 p ys) := fun H1 e Q q =>
  h H1 e _ fun H2 e2 => ⟨a, xs, rfl, ex_l (e.trans e2) hx, fun ys p hp ho hn => q _ _ (e2.trans (Ex.new hn)) ⟨p, ys, rfl, fresh_back (e.trans e2) hn, hp, ho, upd_same⟩⟩
/-! ### displays of new lists; calls of new lists; a choice as a statement -/
theorem ep_lst3 {t1 t2 t3 : TE} {z1 z2 z3 : List V} (h1 : EvL t1 σ H z1) (h2 : EvL t2 σ H z2) (h3 : EvL t3 σ H z3) : EvP (tLst (tCons t1 (tCons t2 (tCons t3 tNil)))) σ H (fun v H' => ∃ p p1 p2 p3 : Addr, v = .ref p ∧ H' p = some (.lst [.ref p1, .ref p2, .ref p3]) ∧
    (H p1 = none ∧ H' p1 = some (.lst z1)) ∧ (H p2 = none ∧ H' p2 = some (.lst z2)) ∧ (H p3 = none ∧ H' p3 = some (.lst z3))) := fun H1 e Q q =>
  h1 H1 e _ fun p1 H2 n1 e2 k1 => h2 H2 (e.trans e2) _ fun p2 H3 n2 e3 k2 => h3 H3 ((e.trans e2).trans e3) _ fun p3 H4 n3 e4 k3 => ⟨sz_of (by show 3 ≤ 100000; decide), fun p hp => q _ _ (((e2.trans e3).trans e4).trans (Ex.new hp))
    ⟨p, p1, p2, p3, rfl, upd_same, ⟨fresh_back e n1, Ex.new hp _ _ (e4 _ _ (e3 _ _ k1))⟩, ⟨fresh_back (e.trans e2) n2, Ex.new hp _ _ (e4 _ _ k2)⟩, ⟨fresh_back ((e.trans e2).trans e3) n3, Ex.new hp _ _ k3⟩⟩⟩
theorem evP_ixP {P R : V → Hp → Prop} (h : EvP ta σ H P) (hb : ∀ v H1, Ex H H1 → P v H1 → Ev tb σ H1 (.int i)) (hR : ∀ v H1 H2, Ex H1 H2 → R v H1 → R v H2)
    (hr : ∀ v H1, Ex H H1 → P v H1 → ∃ p zs w, v = .ref p ∧ H1 p = some (.lst zs) ∧ atI zs i = some w ∧ R w H1) : EvP (tOp (rIxL K) ta tb) σ H R := fun H1 e Q q =>
  h H1 e _ fun v H2 e2 p2 => by
    obtain ⟨p, zs, w, rfl, hz, hw, r1⟩ := hr v H2 (e.trans e2) p2
    exact hb _ H2 (e.trans e2) p2 H2 (Ex.refl H2) _ fun H3 e3 => ⟨p, zs, i, w, rfl, rfl, sq_of (e3 _ _ hz), hw, q w H3 (e2.trans e3) (hR _ _ _ e3 r1)⟩
theorem ev_callL {sp : Sp} {E : XK} {zs : List V} (h : EvL te σ H zs) (hb : ∀ H1, Ex H H1 → Ev tb σ H1 y) (hs : ∀ p H1, Ex H H1 → H1 p = some (.lst zs) → SpV sp [.ref p, y] H1 z) : Ev (tCall sp [] E (tCons te (tCons tb tNil))) σ H z := fun H1 e Q q =>
  h H1 e _ fun p H2 _ e2 hp => hb H2 (e.trans e2) H2 (Ex.refl H2) _ fun H3 e3 => hs p H3 ((e.trans e2).trans e3) (e3 _ _ hp) H3 (Ex.refl H3) Q (fun H4 e4 => q H4 ((e2.trans e3).trans e4)) E
theorem ev_callLL {sp : Sp} {E : XK} {zs ws : List V} (h : EvL te σ H zs) (hb : ∀ H1, Ex H H1 → EvL tb σ H1 ws) (hs : ∀ p q H1, Ex H H1 → H1 p = some (.lst zs) → H1 q = some (.lst ws) → SpV sp [.ref p, .ref q] H1 z) : Ev (tCall sp [] E (tCons te (tCons tb tNil))) σ H z := fun H1 e Q q =>
  h H1 e _ fun p H2 _ e2 hp => hb H2 (e.trans e2) H2 (Ex.refl H2) _ fun p2 H3 _ e3 hp2 => hs p p2 H3 ((e.trans e2).trans e3) (e3 _ _ hp) hp2 H3 (Ex.refl H3) Q (fun H4 e4 => q H4 ((e2.trans e3).trans e4)) E
theorem s_asgP {i : Nat} {P : V → Hp → Prop} (h : EvP te σ H P) (k : ∀ v H1, Ex H H1 → P v H1 → D.nx (σ.set i (some v)) H1) : tAsg te (gName i) D σ H := h H (Ex.refl H) _ fun v H1 e p => k v H1 e p
theorem s_dropIf {c : Bool} (h : EvT t σ H c) (h1 : c = true → ∀ H1, Ex H H1 → tDrop ta D σ H1) (h2 : c = false → ∀ H1, Ex H H1 → tDrop tb D σ H1) : tDrop (tIf t ta tb) D σ H := h H (Ex.refl H) _ fun H1 e => by
  cases c with
  | true => exact h1 rfl H1 e
  | false => exact h2 rfl H1 e
theorem s_pop {l : Addr} {zs : List V} {w : V} (ha : Ev ta σ H (.ref l)) (hl : H l = some (.lst zs)) (hw : zs[zs.length - 1]? = some w) (k : ∀ H1, Ex H H1 → D.nx σ (upd H1 l (.lst zs.dropLast))) : tDrop (tBM0 K "list" rPop ta) D σ H :=
  ha H (Ex.refl H) _ fun H1 e1 => ⟨.inl ⟨rfl, zs, sq_of (e1 l _ hl)⟩, l, zs, w, rfl, rfl, e1 l _ hl, hw, k H1 e1⟩
end
end XP
/-! ## Rules of our own: three comparisons in a row, xs[i] += e, a list's count of True -/
namespace XP
open PySem PySem.Spec PyProof.Rows L2 Evl
/-- a op b op' c op'' d -/
def tChain3 (r1 r2 r3 : R2) (ta tb tc td : TE) : TE := fun σ H Q => ta σ H fun x H1 => tb σ H1 fun y H2 => r1 x y H2 fun z H3 => ∃ k, z = .bl k ∧
  (if k = true then tc σ H3 fun x3 H4 => r2 y x3 H4 fun z2 H5 => ∃ k2, z2 = .bl k2 ∧ (if k2 = true then td σ H5 fun x4 H6 => r3 x3 x4 H6 Q else Q (.bl false) H5) else Q (.bl false) H3)
section
variable {X : Cx} {a b c d : Expr} {ta tb tc td : TE} {pos : Pos}
theorem pe_chain3 {o1 o2 o3 : CmpOp} {r1 r2 r3 : R2} (h1 : OpR X (compareOp o1) r1) (h2 : OpR X (compareOp o2) r2) (h3 : OpR X (compareOp o3) r3) (ha : PE X a ta) (hb : PE X b tb) (hc : PE X c tc) (hd : PE X d td)
    (hm : lastMarks [o1, o2, o3] [b, c, d] = false := by with_unfolding_all rfl) : PE X (.Compare a [o1, o2, o3] [b, c, d] pos) (tChain3 r1 r2 r3 ta tb tc td) := by
  refine ⟨fun pins s σ H Q I h => Compare_chain (thn (ha.run pins s σ H _ I h) fun va sa ⟨x, Ha, Ia, ra, qa⟩ => chain_link (thn (hb.run pins sa σ Ha _ Ia qa) fun vb sb ⟨y, Hb, Ib, rb, qb⟩ => thn (h1 pins sb σ Hb x y va vb _ Ib ra rb qb) fun w1 s1 hw1 => ?_)) hm⟩
  obtain ⟨z1, H1, I1, rz1, k1, rfl, q1⟩ := hw1
  obtain rfl : w1 = Value.bool k1 := rz1
  refine wpAny_truthy_bool ?_
  cases k1
  · exact ite_ff ⟨V.bl false, H1, I1, rfl, q1⟩
  · refine ite_tt (chain_link (thn (hc.run pins s1 σ H1 _ I1 q1) fun vc sc ⟨y3, Hc, Ic, rc, qc⟩ => thn (h2 pins sc σ Hc y y3 vb vc _ Ic rb rc qc) fun w2 s2 hw2 => ?_))
    obtain ⟨z2, H2, I2, rz2, k2, rfl, q2⟩ := hw2
    obtain rfl : w2 = Value.bool k2 := rz2
    refine wpAny_truthy_bool ?_
    cases k2
    · exact ite_ff ⟨V.bl false, H2, I2, rfl, q2⟩
    · exact ite_tt (chain_last (thn (hd.run pins s2 σ H2 _ I2 q2) fun vd sd ⟨y4, Hd, Id, rd, qd⟩ => h3 pins sd σ Hd y3 y4 vc vd Q Id rc rd qd))
/-- xs[i] as a value, for xs[i] op= e -/
theorem get_listK {K : PySem.W.Frag} (hK : X.K = K) : PGet X (fun o i H Q => ∃ p zs k v, o = .ref p ∧ i = .int k ∧ SqL K H p zs ∧ 0 ≤ k ∧ zs[k.toNat]? = some v ∧ Q v H) := by
  subst hK
  intro pins s σ H o i ov iv Q I ro ri h
  obtain ⟨p, zs, k, v, rfl, rfl, hq, h0, hv, q⟩ := h
  obtain rfl : ov = Value.ref p := ro
  obtain ⟨t, rfl⟩ := ri
  obtain ⟨its, r, pl, hz⟩ := I.list hq
  obtain ⟨w, ew, rw'⟩ := r.get hv
  have hn := line63
  have hl := r.length
  have hk : k.toNat < zs.length := (List.getElem?_eq_some_iff.mp hv).1
  refine wpAny_getItem_list (x := w) pl.isList h0 (by omega) (by simpa using ew) ?_
  exact ⟨v, H, I, rw', q⟩
def tAugL (K : PySem.W.Frag) (to ti te : TE) (f : Int → Int → Int) : TS :=
  tAugS to ti te (fun o i H Q => ∃ p zs k v, o = .ref p ∧ i = .int k ∧ SqL K H p zs ∧ 0 ≤ k ∧ zs[k.toNat]? = some v ∧ Q v H) (ipI f) rSetL
theorem ps_augL {K : PySem.W.Frag} {o i e : Expr} {to ti te : TE} {f : Int → Int → Int} {op : Operator} {tpos : Pos} (hK : X.K = K) (ho : PE X o to) (hi : PE X i ti) (he : PE X e te) (hp : PIp X op (ipI f))
    (ha : ∀ ov iv new, augStore i ov iv new = (do holding [new, ov, iv] (setItem ov iv new); release [new, ov, iv] []; pure .next) := by intros; rfl) : PS X (.AugAssign (.Subscript o i tpos) op e pos) (tAugL K to ti te f) :=
  ps_augS ho hi (get_listK hK) he hp set_list ha
/-- xs.count(True) of a list of truths -/
def rCountB (K : PySem.W.Frag) : V → List V → Hp → VK → Prop := fun x xs H Q => ∃ (p : Addr) (bs : List Bool) (k : Bool), x = .ref p ∧ xs = [.bl k] ∧ SqL K H p (bs.map V.bl) ∧ Q (.int (bs.count k : Nat)) H
theorem readsAll_bools (h : Heap) : ∀ bs : List Bool, ReadsAll h (bs.map Value.bool) (bs.map PyData.bool) []
  | [] => .nil
  | b :: r => ReadsAll.cons (as := []) (bs := []) (.bool b) (readsAll_bools h r)
theorem countIn_bools (k : Bool) : ∀ bs : List Bool, countIn (.bool k) (bs.map PyData.bool) = ((bs.count k : Nat) : Int)
  | [] => rfl
  | b :: r => by
    rw [List.map_cons, countIn, countIn_bools k r, List.count_cons]
    cases b <;> cases k <;> simp [PySem.Spec.same] <;> omega
theorem mt_countB {K : PySem.W.Frag} (hK : X.K = K) : MtR X "list.count" (rCountB K) := by
  subst hK
  intro pins s σ H x xs v us Q I rx rxs h
  obtain ⟨p, bs, k, rfl, rfl, hs, q⟩ := h
  obtain rfl : v = Value.ref p := rx
  obtain ⟨u, rfl, ru⟩ := rxs.one
  obtain rfl : u = Value.bool k := ru
  obtain ⟨its, rv, pl, hlen⟩ := I.list hs
  have e := rv.bls
  subst e
  refine count_list_bools pl.isList (readsAll_bools s.heap bs) (List.all_eq_true.mpr fun d hd => by obtain ⟨b, _, rfl⟩ := List.mem_map.mp hd; rfl) ?_
  rw [countIn_bools]
  exact ⟨.int ((bs.count k : Nat) : Int), H, I.tok _, ⟨_, rfl⟩, q⟩
end
section
variable {K : PySem.W.Frag} {σ : L2.St} {H H' : Hp} {ta tb tc td te tx : TE} {x y z v : V} {i j : Int} {D : Ends} {tz : TS}
/-- 0 <= i < j <= n and the like -/
theorem ev_chain3 {g1 g2 g3 : Int → Int → Bool} {i1 i2 i3 i4 : Int} (ha : Ev ta σ H (.int i1)) (hb : Ev tb σ H (.int i2)) (hc : Ev tc σ H (.int i3)) (hd : Ev td σ H (.int i4)) :
    Ev (tChain3 (rI0 fun a b => .bl (g1 a b)) (rI0 fun a b => .bl (g2 a b)) (rI0 fun a b => .bl (g3 a b)) ta tb tc td) σ H (.bl (g1 i1 i2 && (g2 i2 i3 && g3 i3 i4))) := fun H1 e Q q =>
  ha H1 e _ fun H2 e2 => hb H2 (e.trans e2) _ fun H3 e3 => ⟨i1, i2, rfl, rfl, _, rfl, by
    cases k1 : g1 i1 i2 with
    | false =>
      refine iteF ?_
      rw [k1] at q
      exact q H3 (e2.trans e3)
    | true =>
      refine iteT (hc H3 ((e.trans e2).trans e3) _ fun H4 e4 => ⟨i2, i3, rfl, rfl, _, rfl, ?_⟩)
      rw [k1] at q
      cases k2 : g2 i2 i3 with
      | false =>
        refine iteF ?_
        rw [k2] at q
        exact q H4 ((e2.trans e3).trans e4)
      | true =>
        refine iteT (hd H4 (((e.trans e2).trans e3).trans e4) _ fun H5 e5 => ⟨i3, i4, rfl, rfl, ?_⟩)
        rw [k2] at q
        exact q H5 (((e2.trans e3).trans e4).trans e5)⟩
/-- a < b <= c -/
theorem ev_chain2 {g1 g2 : Int → Int → Bool} {i1 i2 i3 : Int} (ha : Ev ta σ H (.int i1)) (hb : Ev tb σ H (.int i2)) (hc : Ev tc σ H (.int i3)) :
    Ev (tChain (rI0 fun a b => .bl (g1 a b)) (rI0 fun a b => .bl (g2 a b)) ta tb tc) σ H (.bl (g1 i1 i2 && g2 i2 i3)) := fun H1 e Q q =>
  ha H1 e _ fun H2 e2 => hb H2 (e.trans e2) _ fun H3 e3 => ⟨i1, i2, rfl, rfl, _, rfl, by
    cases k1 : g1 i1 i2 with
    | false =>
      refine iteF ?_
      rw [k1] at q
      exact q H3 (e2.trans e3)
    | true =>
      refine iteT (hc H3 ((e.trans e2).trans e3) _ fun H4 e4 => ⟨i2, i3, rfl, rfl, ?_⟩)
      rw [k1] at q
      exact q H4 ((e2.trans e3).trans e4)⟩
/-- [*xs, e, ..] -/
theorem ea_star {t : TA} {a : Addr} {zs vs : List V} (h : Ev te σ H (.ref a)) (hz : SqL K H a zs) (ht : EvA t σ H vs) : EvA (StX.tStar K te t) σ H (zs ++ vs) := fun H1 e Q q =>
  h H1 e _ fun H2 e2 => ⟨a, zs, rfl, .inr (ex_l (e.trans e2) hz), ht H2 (e.trans e2) _ fun H3 e3 => q H3 (e2.trans e3)⟩
/-- xs[i] += e -/
theorem q_augL {l : Addr} {ns : List Int} {f : Int → Int → Int} {k : Nat} {a b : Int} (ho : Ev ta σ H (.ref l)) (hi : Ev tb σ H (.int (k : Int))) (he : Ev te σ H (.int b)) (hl : Ll H l ns) (hk : ns[k]? = some a)
    (g : ∀ H1, Ex H H1 → tz D σ (upd H1 l (.lst ((ns.set k (f a b)).map V.int)))) : tSeq (tAugL K ta tb te f) tz D σ H :=
  ho H (Ex.refl H) _ fun H1 e1 => hi H1 e1 _ fun H2 e2 => ⟨l, ns.map V.int, k, .int a, rfl, rfl, Ll.sq ((e1.trans e2) _ _ hl), by omega, by rw [Int.toNat_natCast, List.getElem?_map, hk]; rfl,
    he H2 (e1.trans e2) _ fun H3 e3 => ⟨a, b, rfl, rfl, l, ns.map V.int, k, k, rfl, rfl, (((e1.trans e2).trans e3) _ _ hl), Evl.ixN_nat (by rw [List.length_map]; exact (List.getElem?_eq_some_iff.mp hk).1), by
      rw [← List.map_set] at *
      exact g H3 ((e1.trans e2).trans e3)⟩⟩
end
end XP
/-! ## An error that a clause names and a local name keeps: try: .. except C as n: y = n -/
namespace XP
open PySem PySem.Spec PyProof.Rows L2 Evl
/-- an error object of the class cls stands at e -/
def ErrO (cls : Value) (e : Addr) : HO := .ext fun h => ∃ ob : Obj, h.get? e = some ob ∧ Zc cls none ob ∧ ∃ fs, ob.data = .fields fs
section
variable {X : Cx} {pins : List (Addr × Obj)} {σ : L2.St} {H : Hp} {s : Shared}
/-- a pinned error object is tracked from here on -/
theorem tracked_err {e : Addr} {ob : Obj} {cls : Value} (I : Inv X ((e, ob) :: pins) σ H s) (hz : Zc cls none ob) (hd : ∃ fs, ob.data = .fields fs) (hnew : X.s_0.heap.get? e = none) (hcell : ∀ x c, X.env.cells.lookup x = some c → c ≠ e) (hpin : ∀ p ∈ X.pn ++ pins, p.1 ≠ e) :
    Inv X pins σ (upd H e (ErrO cls e)) s := by
  obtain ⟨hg, hn, hL, hF, _⟩ := I.pin (e, ob) (List.mem_append_right _ List.mem_cons_self)
  have away : ∀ b o, X.s_0.heap.get? b = some o → b ≠ e := fun b o h z => by
    subst z
    rw [hnew] at h
    cases h
  have more : ∀ p ∈ X.pn ++ pins, p ∈ X.pn ++ (e, ob) :: pins := fun p hp => (List.mem_append.mp hp).elim (fun q => List.mem_append_left _ q) fun q => List.mem_append_right _ (List.mem_cons_of_mem _ q)
  exact {
    ok := I.ok, os := I.os, bare := I.bare, loc := I.loc, cell := I.cell, len := I.len
    base := {
      keep := I.base.keep, slot := I.base.slot, there := I.base.there
      free := fun b o h n x => (upd_ne (away b o h)).trans (I.base.free b o h n x)
      tups := fun b zs h => (upd_ne (ne_of_none (I.base.tups b zs h) hn)).trans (I.base.tups b zs h)
      frzs := fun b o u h => (upd_ne (ne_of_none (I.base.frzs b o u h) hn)).trans (I.base.frzs b o u h)
      tbls := fun b ps h => by
        obtain ⟨m, k⟩ := I.base.tbls b ps h
        exact ⟨m, (upd_ne (ne_of_none k hn)).trans k⟩ }
    free := (upd_ne (Ne.symm hL)).trans I.free
    freeC := fun x c h => (upd_ne (hcell x c h)).trans (I.freeC x c h)
    pin := fun p hp => by
      obtain ⟨k1, k2, k3⟩ := I.pin p (more p hp)
      exact ⟨k1, (upd_ne (hpin p hp)).trans k2, k3⟩
    hok := I.hok.laidN (fun _ _ q => q) hn ⟨⟨ob, hg, hz, hd⟩, ⟨ob, hg⟩, fun h1 h2 ⟨o, q, r⟩ k => ⟨o, k o q, r⟩⟩ }
/-- what the clause wishes of an error of the body; slot i the clause's name, slot j the name that keeps it -/
def wKeep (K : PySem.W.Frag) (c : Value) (i j : Nat) (Wout : WX) (D : Ends) : WX := fun cls d σ H =>
  ∃ b, PySem.W.exmOne K cls c = some b ∧ (b = true → d = none ∧ ∀ e, H e = none → D.nx (((σ.set i (some (.ref e))).set j (some (.ref e))).set i none) (upd H e (ErrO cls e))) ∧ (b = false → Wout cls d σ H)
theorem ps_try_keep {x n y : Str} {c : Value} {i j : Nat} {body : List Stmt} {np py pn1 pas pos' pos : Pos} {tb : WX → TS} {Wout : WX} (hs : X.stack = X.env :: X.outer) (hf : X.env.frame = some X.env.locals) (hex : X.ex = []) (hN : X.N.Nodup) (hi : X.N[i]? = some n) (hj : X.N[j]? = some y)
    (hln : X.env.kindOf n = some .local) (hly : X.env.kindOf y = some .local) (hc : Names X x c) (tk : Takes X Wout)
    (hb : ∀ (W : WX) (pn : List (Addr × Obj)) (xe : Value → Shared → Prop), Takes (X.tr pn xe) W → PassesOwn (model X.prog X.w) X.A X.env xe → PSs (X.tr pn xe) body (tb W))
    (hd1 : (n == ("__debug__" : Str)) = false := by decide) (hd2 : (n == ("__classdict__" : Str)) = false := by decide) :
    PS X (.Try body [.ExceptHandler (some (.Name x np)) (some n) [.Assign [.Name y py] (.Name n pn1) pas] pos'] [] [] pos) (fun D σ H => tb (wKeep X.K c i j Wout D) D σ H) := by
  refine ⟨fun pins s σ H D I h => wpAny_Try_except ?_⟩
  have ok := I.ok
  have fra : X.A.frames = some (X.env :: X.outer) := ok.frames.trans (by rw [hs])
  refine wpAny_mono ((hb (wKeep X.K c i j Wout D) (X.pn ++ pins) _ ?taken PassesOwn.looking).run [] s σ H D (I.toTry _) h) (fun fl t hfl => ?_) fun e t he => he
  case taken =>
    intro u t xx
    obtain ⟨e, G, s1, pins1, σ1, H1, cls, d, rfl, J0, hG, up, sky, hn, hos, hbare, b, hexm, yes, no⟩ := xx
    have J1 : Inv X pins σ1 H1 s1 := J0.ofTry ok
    refine Sky.land Zc.steady fra hf (by rw [← hs]; exact sky) fun h2 fly2 up2 => ?_
    have J2 : Inv X pins σ1 H1 { t with heap := h2 } := J1.landed hG fly2.1 (up.trans up2) hos hbare
    obtain ⟨ob2, vs2, get2, zc2, dat2⟩ := fly2.there
    have nofrm : e ∉ frs (X.env :: X.outer) := fun hm => by
      obtain ⟨_, o, ho, hno⟩ := fly2.2.2.1.mem hm
      rw [get2] at ho
      cases ho
      exact hno _ dat2
    have nloc : e ≠ X.env.locals := fun z => nofrm (List.mem_filterMap.mpr ⟨X.env, List.mem_cons_self, by rw [hf, z]⟩)
    have nfs : e ∉ X.fs := fun hm => by
      obtain ⟨v, hv, q⟩ := List.mem_filterMap.mp hm
      exact nofrm (List.mem_filterMap.mpr ⟨v, List.mem_cons_of_mem _ hv, q⟩)
    have fresh1 : s1.heap.get? e = none := by
      cases q : s1.heap.get? e with
      | none => rfl
      | some o =>
        have k := hG e o q (by rw [hs]; exact nofrm)
        rw [fly2.2.1] at k
        cases k
    have fresh0 : X.s_0.heap.get? e = none := by
      cases q : X.s_0.heap.get? e with
      | none => rfl
      | some o =>
        obtain ⟨o', k⟩ := J1.base.there e o q (by rw [hex]; exact List.not_mem_nil)
        rw [fresh1] at k
        cases k
    have ncell : ∀ z cc, X.env.cells.lookup z = some cc → cc ≠ e := fun z cc hz w => by
      obtain ⟨v, o, ho, _⟩ := J1.cell z cc hz
      rw [w, fresh1] at ho
      cases ho
    have npin : ∀ p ∈ X.pn ++ pins, p.1 ≠ e := fun p hp w => by
      have k := (J1.pin p hp).1
      rw [w, fresh1] at k
      cases k
    have S2 := J2.suite get2 dat2 hn nloc nfs
    refine wpAny_handleBy_cons (codeAny_handlers_test ?_) fun z => nomatch z
    have looks : PySem.W.Looks (model X.prog X.w) h2 (typeOf (.ref e)) cls := fun A Q E s k q => wpAny_typeOf_ref (k _ _ get2) (by rw [zc2.1]; exact q)
    have isIn := PySem.W.exm_one (M := model X.prog X.w) J2.kIn looks hexm
    have named : ∀ {Q : Value → Shared → Prop} {E : Value → Shared → Prop}, Q c { t with heap := h2 } → wpAny (model X.prog X.w) (X.A.mark (some (.ref e))) (eval (.Name x np) X.env) Q E { t with heap := h2 } := fun q => by
      rcases hc with ⟨g1, g2, g3 | ⟨g3, g4, g5⟩⟩
      · exact ld_glob (X := X.suite e ((e, ob2) :: (X.pn ++ pins))) S2 g1 g3 q g2
      · exact ld_blt (X := X.suite e ((e, ob2) :: (X.pn ++ pins))) S2 g1 g3 g4 q g5 g2
    refine named (isIn.here ?_)
    cases b with
    | false =>
      show wpAny _ X.A (handleBy (.ref e) X.env []) _ _ _
      obtain ⟨_, _, _, ob, fs, T, oT, tf, ge, ze, de, h1, _⟩ := id fly2
      refine wpAny_handleBy_nil ?_
      unfold PySem.passOn
      refine wpAny_bind (wpAny_field ge de h1 ?_)
      rw [if_neg (show ¬ (Value.ref T == Value.none) = true from by simp)]
      have out : wpAny (model X.prog X.w) X.A (setFlight (.ref e) X.env.frame) (fun _ s4 => wpAny (model X.prog X.w) X.A (throw (.ref e) : Sem Flow) (SP X pins D) X.xe s4) X.xe { t with heap := h2 } := by
        rw [hf]
        exact HandSPX.setFlight_upZ fly2 fun h4 held up4 => wpAny_throw (tk _ _ ⟨e, G, s1, pins, σ1, H1, cls, d, rfl, J1, hG, (up.trans up2).trans up4, .inr (.inr (by rw [hs]; exact held)), hn, hos, hbare, no rfl⟩)
      first
        | exact wpAny_bind (wpAny_pure (wpAny_bind out))
        | exact wpAny_bind out
    | true =>
      obtain ⟨rfl, go⟩ := yes rfl
      refine codeAny_handlers_suite_as (HandSPX.lands_againZ fly2 fun h4 fly4 up4 => ?_)
      have J4 : Inv X pins σ1 H1 { t with heap := h4 } := J1.landed hG fly4.1 ((up.trans up2).trans up4) hos hbare
      obtain ⟨ob4, vs4, get4, zc4, dat4⟩ := fly4.there
      have S4 := J4.suite get4 dat4 hn nloc nfs
      refine store_ok (X := X.suite e ((e, ob4) :: (X.pn ++ pins))) (v := .ref e) S4 hN hi (.inl hln) rfl (fun s5 S5 => ?_) (.inr hln)
      have body1 : PSs (X.suite e ((e, ob4) :: (X.pn ++ pins))) [.Assign [.Name y py] (.Name n pn1) pas] (tAsg (tVar i) (gName j)) := pss_one (ps_set hN hj (.inl hly) (pe_var hi (.inl hln) hd1 hd2) (by rfl) (.inr hly))
      have hlenσ : σ1.length = X.N.length := J1.len
      have hil : i < X.N.length := (List.getElem?_eq_some_iff.mp hi).1
      refine wpAny_mono (body1.run [] s5 _ H1 { nx := fun σ6 H6 => σ6 = (σ1.set i (some (.ref e))).set j (some (.ref e)) ∧ H6 = H1, rt := fun _ _ => False } S5 ⟨.ref e, by rw [List.getElem?_set_self (by omega)], rfl, rfl⟩) (fun fl s6 hfl => ?_) fun _ _ z => False.elim z
      cases fl with
      | ret v =>
        obtain ⟨_, _, _, _, _, q⟩ := hfl
        exact False.elim q
      | brk =>
        obtain ⟨_, _, _, q⟩ := hfl
        exact False.elim q
      | cont =>
        obtain ⟨_, _, _, q⟩ := hfl
        exact False.elim q
      | next =>
        obtain ⟨σ6, H6, S6, rfl, rfl⟩ := hfl
        have J6 : Inv X ((e, ob4) :: pins) ((σ1.set i (some (.ref e))).set j (some (.ref e))) H6 s6 :=
          ⟨ok, S6.os, S6.bare, S6.base, S6.loc, S6.cell, S6.free, S6.freeC, fun p hp => S6.pin p (List.mem_append_left _ ((List.mem_append.mp hp).elim (fun q => List.mem_cons_of_mem _ (List.mem_append_left _ q)) fun q => (List.mem_cons.mp q).elim (fun z => by rw [z]; exact List.mem_cons_self) fun z => List.mem_cons_of_mem _ (List.mem_append_right _ z))), S6.hok, S6.len⟩
        exact gone_ok J6 hN hi hln fun s7 J7 => ⟨_, _, tracked_err J7 zc4 ⟨_, dat4⟩ fresh0 ncell npin, go e hn⟩
  case _ =>
    cases fl with
    | next =>
      obtain ⟨σ', H', J', q⟩ := hfl
      exact wpAny_execs_nil ⟨σ', H', J'.ofTry ok, q⟩
    | brk =>
      obtain ⟨σ', H', J', q⟩ := hfl
      exact ⟨σ', H', J'.ofTry ok, q⟩
    | cont =>
      obtain ⟨σ', H', J', q⟩ := hfl
      exact ⟨σ', H', J'.ofTry ok, q⟩
    | ret u =>
      obtain ⟨v, σ', H', J', r, q⟩ := hfl
      exact ⟨v, σ', H', J'.ofTry ok, r, q⟩
/-- isinstance(e, c) of such an error -/
def rIsX (K : PySem.W.Frag) : List V → Hp → VK → Prop := fun vs H Q => ∃ (e D : Addr) (c : V) (u : Value) (b : Bool), vs = [.ref e, c] ∧ H e = some (ErrO (.ref D) e) ∧ ExcC K D ∧ ClsV c u ∧ PySem.W.kitOne K (.ref D) u = some b ∧ Q (.bl b) H
theorem isxK {K : PySem.W.Frag} (hK : X.K = K) : CallR X (.builtin "isinstance") (rIsX K) := by
  subst hK
  intro pins s σ H xs us Q I r h
  obtain ⟨e, D, c, u, b, rfl, he, C, hc, hk, q⟩ := h
  obtain ⟨u1, u2, rfl, r1, r2⟩ := vals2 r
  obtain rfl : u1 = Value.ref e := r1
  obtain rfl := hc.eq r2
  obtain ⟨⟨ob, g, ⟨z1, z2⟩, fs, df⟩, _, _⟩ := I.hok e _ he
  have at1 : PySem.W.InstAt s.heap e ob D none := by
    obtain ⟨k1, k2, k3, k4⟩ := ob
    simp only at z1 z2 df
    subst z1 z2 df
    exact ⟨g, rfl, rfl, trivial⟩
  exact PySem.W.kia_one (PySem.W.handS_kitx_exc C.hg C.hk C.hs C.hd C.ha C.hn C.ht C.hm) I.kIn at1 hk (fun z => nomatch z) fun tk => ⟨.bl b, H, I.kept (t' := tk) fun _ _ z => z, rfl, q⟩
end
/-- isinstance's answer of a class, by the top's facts -/
theorem kit_same {K : PySem.W.Frag} {D : Addr} : PySem.W.kitOne K (.ref D) (.ref D) = some true := if_pos (by simp)
theorem kit_own {K : PySem.W.Frag} {D C : Addr} {b : Bool} (hn : (Value.ref D == Value.ref C) = false) (hd : PySem.W.hasDictIn K C = true) (ht : PySem.W.typeIn K (.ref C) = some (.type "type")) (hs : PySem.W.subIn K (.ref D) (.ref C) = some b) : PySem.W.kitOne K (.ref D) (.ref C) = some b := by
  obtain ⟨cd, hc, _⟩ := PySem.W.any_some hd
  have e2 : ((PySem.W.clsIn K C).isSome && PySem.W.typeIn K (.ref C) == some (.type "type")) = true := by
    rw [hc, ht]
    rfl
  unfold PySem.W.kitOne
  rw [if_neg (by rw [hn]; exact Bool.false_ne_true)]
  show (if _ then _ else _) = _
  rw [if_pos e2]
  exact hs
theorem kit_built {K : PySem.W.Frag} {D : Addr} {T : String} {b : Bool} (hm : PySem.W.kitMeta T = true) (hs : PySem.W.subIn K (.ref D) (.type T) = some b) : PySem.W.kitOne K (.ref D) (.type T) = some b := by
  unfold PySem.W.kitOne
  rw [if_neg (by intro z; cases z)]
  show (if _ then _ else _) = _
  rw [if_pos hm]
  exact hs
end XP
/-! ## More words: tuples, methods by value, displays of new things, ranges from a number on -/
namespace XP
open PySem PySem.Spec PyProof.Rows L2 Evl
section
variable {K : PySem.W.Frag} {σ : L2.St} {H H' : Hp} {ta tb te tx : TE} {t u : TT} {x y z v : V} {r : R2} {a b p : Addr} {xs ys : List Int} {i j : Int} {D : Ends} {tz tu tw : TS}
/-- a method of a list, by value -/
theorem ev_bmL {m : V → List V → Hp → VK → Prop} {l : Addr} {zs vs : List V} {tr : TA} (ha : Ev ta σ H (.ref l)) (hl : SqL K H l zs) (ht : EvA tr σ H vs) (hm : ∀ H1, Ex H H1 → ∀ Q : VK, Q z H1 → m (.ref l) vs H1 Q) : Ev (tBM K "list" m ta tr) σ H z := fun H1 e Q q =>
  ha H1 e _ fun H2 e2 => ⟨.inl ⟨rfl, zs, ex_l (e.trans e2) hl⟩, ht H2 (e.trans e2) _ fun H3 e3 => hm H3 ((e.trans e2).trans e3) Q (q H3 (e2.trans e3))⟩
theorem ev_countB {l : Addr} {bs : List Bool} {k : Bool} {tr : TA} (ha : Ev ta σ H (.ref l)) (hl : SqL K H l (bs.map V.bl)) (ht : EvA tr σ H [.bl k]) : Ev (tBM K "list" (rCountB K) ta tr) σ H (.int ((bs.count k : Nat) : Int)) :=
  ev_bmL ha hl ht fun H1 e _ q => ⟨l, bs, k, rfl, rfl, ex_l e hl, q⟩
theorem ev_indexB {l : Addr} {bs : List Bool} {k : Bool} {n : Nat} {tr : TA} (ha : Ev ta σ H (.ref l)) (hl : SqL K H l (bs.map V.bl)) (ht : EvA tr σ H [.bl k]) (hn : bs[n]? = some k) (hno : ∀ m c, m < n → bs[m]? = some c → c ≠ k) : Ev (tBM K "list" (rIndex K) ta tr) σ H (.int (n : Int)) :=
  ev_bmL ha hl ht fun H1 e _ q => ⟨l, bs.map V.bl, .bl k, n, .bl k, rfl, rfl, ex_l e hl, rfl, List.all_eq_true.mpr fun d hd => by
    obtain ⟨c, _, rfl⟩ := List.mem_map.mp hd
    rfl, by rw [List.getElem?_map, hn]; rfl, by cases k <;> rfl, fun m z' hm hz => by
    rw [List.getElem?_map] at hz
    cases hc : bs[m]? with
    | none => rw [hc] at hz; cases hz
    | some c =>
      rw [hc] at hz
      cases hz
      have := hno m c hm hc
      revert this
      cases c <;> cases k <;> simp [eqV], q⟩
/-- isinstance of an error -/
theorem rc_isx {e D : Addr} {c : V} {w : Value} {k : Bool} (he : H e = some (ErrO (.ref D) e)) (C : ExcC K D) (hc : ClsV c w) (hk : PySem.W.kitOne K (.ref D) w = some k) : RC (rIsX K) [.ref e, c] H (.bl k) := fun H1 ex _ q =>
  ⟨e, D, c, w, k, rfl, ex _ _ he, C, hc, hk, q H1 (Ex.refl H1)⟩
/-- t[i] of a tuple -/
theorem ev_ixT {l : Addr} {zs : List V} {n : Nat} (ha : Ev ta σ H (.ref l)) (hb : Ev tb σ H (.int (n : Int))) (h : H l = some (.tup zs)) (hn : zs[n]? = some v) : Ev (tOp (rIxT K) ta tb) σ H v := ev_op ha hb (rv_ixT (st_of h) (atI_nat hn))
/-- a choice between two new tuples -/
theorem eu_if {c : Bool} {zs : List V} (h : EvT t σ H c) (h1 : c = true → EvU ta σ H zs) (h2 : c = false → EvU tb σ H zs) : EvU (tIf t ta tb) σ H zs := fun H1 e Q q => h H1 e _ fun H2 e2 => by
  cases c with
  | true => exact h1 rfl H2 (e.trans e2) Q fun p H3 hp e3 h3 => q p H3 (fresh_back e2 hp) (e2.trans e3) h3
  | false => exact h2 rfl H2 (e.trans e2) Q fun p H3 hp e3 h3 => q p H3 (fresh_back e2 hp) (e2.trans e3) h3
def SpU (sp : Sp) (vs : List V) (H : Hp) (zs : List V) : Prop := ∀ H1, Ex H H1 → ∀ Q : VK, (∀ p H2, H1 p = none → Ex H1 H2 → H2 p = some (.tup zs) → Q (.ref p) H2) → ∀ E : XK, sp vs H1 Q E
theorem eu_call {sp : Sp} {dvs vs zs : List V} {E : XK} {tr : TA} (h : EvA tr σ H vs) (hs : SpU sp (vs ++ dvs) H zs) : EvU (tCall sp dvs E tr) σ H zs := fun H1 e Q q =>
  h H1 e _ fun H2 e2 => hs H2 (e.trans e2) Q (fun p H3 hp e3 h3 => q p H3 (fresh_back e2 hp) (e2.trans e3) h3) E
def RetU (zs : List V) (H : Hp) (Q : VK) : Prop := ∀ p H2, H p = none → Ex H H2 → H2 p = some (.tup zs) → Q (.ref p) H2
/-- values of which P is known -/
def EvAP (tr : TA) (σ : L2.St) (H : Hp) (P : List V → Hp → Prop) : Prop := ∀ H1, Ex H H1 → ∀ Q : List V → Hp → Prop, (∀ vs H2, Ex H1 H2 → P vs H2 → Q vs H2) → tr σ H1 Q
def Mono {α : Type} (P : α → Hp → Prop) : Prop := ∀ c H1 H2, Ex H1 H2 → P c H1 → P c H2
theorem eap_nil : EvAP tNil σ H (fun vs _ => vs = []) := fun H1 _ _ q => q [] H1 (Ex.refl H1) rfl
theorem eap_cons {tr : TA} {P : List V → Hp → Prop} (h : Ev te σ H x) (hr : EvAP tr σ H P) : EvAP (tCons te tr) σ H (fun vs H' => ∃ us, vs = x :: us ∧ P us H') := fun H1 e _ q =>
  h H1 e _ fun H2 e2 => hr H2 (e.trans e2) _ fun us H3 e3 hp => q _ H3 (e2.trans e3) ⟨us, rfl, hp⟩
theorem eap_consL {tr : TA} {P : List V → Hp → Prop} {zs : List V} (h : EvL te σ H zs) (hr : EvAP tr σ H P) : EvAP (tCons te tr) σ H (fun vs H' => ∃ p us, vs = .ref p :: us ∧ H p = none ∧ H' p = some (.lst zs) ∧ P us H') := fun H1 e _ q =>
  h H1 e _ fun p H2 np e2 hp => hr H2 (e.trans e2) _ fun us H3 e3 hP => q _ H3 (e2.trans e3) ⟨p, us, rfl, fresh_back e np, e3 _ _ hp, hP⟩
theorem ep_lst {tr : TA} {P : List V → Hp → Prop} (h : EvAP tr σ H P) (hm : Mono P) (hl : ∀ vs H', P vs H' → vs.length ≤ 100000) : EvP (tLst tr) σ H (fun v H' => ∃ p vs, v = .ref p ∧ H p = none ∧ H' p = some (.lst vs) ∧ P vs H') := fun H1 e Q q =>
  h H1 e _ fun vs H2 e2 hp => ⟨sz_of (hl _ _ hp), fun p np => q _ _ (e2.trans (Ex.new np)) ⟨p, vs, rfl, fresh_back (e.trans e2) np, upd_same, hm _ _ _ (Ex.new np) hp⟩⟩
theorem mono_nil : Mono (fun (vs : List V) (_ : Hp) => vs = []) := fun _ _ _ _ h => h
theorem mono_cons {P : List V → Hp → Prop} (h : Mono P) : Mono (fun (vs : List V) (H' : Hp) => ∃ us, vs = x :: us ∧ P us H') := fun _ _ _ e ⟨us, h1, h2⟩ => ⟨us, h1, h _ _ _ e h2⟩
theorem mono_consL {P : List V → Hp → Prop} {zs : List V} (h : Mono P) : Mono (fun (vs : List V) (H' : Hp) => ∃ p us, vs = .ref p :: us ∧ H p = none ∧ H' p = some (.lst zs) ∧ P us H') := fun _ _ _ e ⟨p, us, h1, h2, h3, h4⟩ => ⟨p, us, h1, h2, e _ _ h3, h _ _ _ e h4⟩
/-- a list by a comprehension over range(lo, n) -/
theorem el_lcR2A {tr : TA} {k : Nat} {vs : List Nat} {lo n : Int} (g : Nat → V) (h : EvA tr σ H [.int lo, .int n]) (hn : 0 ≤ lo ∧ lo ≤ 40000 ∧ -40000 ≤ n ∧ n ≤ 40000) (hw : ∀ x, wipe ((wipe σ vs).set k (some x)) vs = wipe σ vs)
    (he : ∀ (i : Nat) H1, Ex H H1 → lo + (i : Int) < n → Ev te ((wipe σ vs).set k (some (.int (lo + (i : Int))))) H1 (g i)) :
    EvL (tLc (iRng2 tr) (gName k) tYes te vs) σ H ((List.range (n - lo).toNat).map g) := fun H0 e Q q =>
  h H0 e _ fun H1 e1 => ⟨lo, n, rfl, ⟨by omega, by omega, by omega, by omega⟩, fun Dl hD =>
    lc_range (lo := lo) (n := (n - lo).toNat) (Cw H1 (fun _ => true) g Dl) ⟨hD, Ex.new hD, upd_same⟩ (fun i H2 hi p => ⟨hw _, cw_turn p (by omega) et_yes fun _ => he i H1 (e.trans e1) (by omega)⟩)
      (fun H2 p => q Dl H2 (fresh_back e1 p.1) (e1.trans p.2.1) (by rw [← given_all]; exact p.2.2))⟩
/-- two ways of an if that go on alike are told apart ahead -/
theorem q_else {c : Bool} (h : EvT t σ H c) (h1 : c = true → ∀ H1, Ex H H1 → tu { D with nx := tz D } σ H1) (h2 : c = false → ∀ H1, Ex H H1 → tw { D with nx := tz D } σ H1) : tSeq (tIfS t tu tw) tz D σ H := q_if h h1 h2
end
end XP
/-! ## enumerate and zip_longest: loops and comprehensions whose target is a pair of names -/
namespace XP
open PySem PySem.Spec PyProof.Rows L2 Evl
abbrev g2n (K : PySem.W.Frag) (j k : Nat) : TG := gTup K 2 (gCons (gName j) (gCons (gName k) gNil))
theorem g2_at {K : PySem.W.Frag} {j k : Nat} {T : Addr} {x y : V} {σ : L2.St} {H : Hp} {Q : L2.St → Hp → Prop} (h : H T = some (.tup [x, y])) (q : Q ((σ.set j (some x)).set k (some y)) H) : g2n K j k (.ref T) σ H Q :=
  ⟨T, [x, y], rfl, st_of h, rfl, x, [y], rfl, y, [], rfl, rfl, q⟩
theorem cw_more {H H' H2 : Hp} {f : Nat → Bool} {v : Nat → V} {Dl : Addr} {i : Nat} (p : Cw H f v Dl i H') (e : Ex H' H2) : Cw H f v Dl i H2 := ⟨p.1, p.2.1.trans e, e _ _ p.2.2⟩
/-- over an iterator of new pairs -/
theorem lc_pair {K : PySem.W.Frag} {J : It} {n j k : Nat} {u v val : Nat → V} {f : Nat → Bool} {t : TT} {te : TE} {vs : List Nat} {σ : L2.St} {H1 : Hp} {Dl : Addr} {Qd : Hp → Prop} (hgo : ∀ i H, i < n → Ex H1 H → J.go i H) (hstop : ∀ H, Ex H1 H → J.stop n H)
    (hy : ∀ i H x H', i < n → Ex H1 H → J.yld i H x H' → ∃ T : Addr, x = .ref T ∧ H T = none ∧ H' = upd H T (.tup [u i, v i])) (hn : n ≤ 40000) (hw : ∀ x y, wipe (((wipe σ vs).set j (some x)).set k (some y)) vs = wipe σ vs)
    (ht : ∀ i H2, i < n → Ex H1 H2 → EvT t (((wipe σ vs).set j (some (u i))).set k (some (v i))) H2 (f i)) (he : ∀ i H2, i < n → Ex H1 H2 → f i = true → Ev te (((wipe σ vs).set j (some (u i))).set k (some (v i))) H2 (val i)) (hD : H1 Dl = none)
    (hd : ∀ H, Cw H1 f val Dl n H → Qd H) : ∃ W : Nat → Nat → Hp → Prop, (∃ m, W 0 m (upd H1 Dl (.lst []))) ∧ ∀ i m H, W i m H →
      (J.stop i H ∧ Qd H) ∨ (J.go i H ∧ ∃ Nx : Hp → Prop, (∀ H', Nx H' → ∃ m', m' < m ∧ W (i + 1) m' H') ∧ ∀ x H', J.yld i H x H' → g2n K j k x (wipe σ vs) H' fun σ2 H2 => wipe σ2 vs = wipe σ vs ∧ t σ2 H2 fun b H3 =>
        if b = true then te σ2 H3 fun y H4 => ∃ acc, H4 Dl = some (.lst acc) ∧ acc.length < sizeLine ∧ Nx (upd H4 Dl (.lst (acc ++ [y]))) else Nx H3) := by
  refine ⟨fun i m H => m = n - i ∧ i ≤ n ∧ Cw H1 f val Dl i H, ⟨n, rfl, Nat.zero_le _, hD, Ex.new hD, upd_same⟩, ?_⟩
  rintro i m H ⟨rfl, hi, p⟩
  by_cases hlt : i < n
  · refine .inr ⟨hgo i H hlt p.2.1, Cw H1 f val Dl (i + 1), fun H' p' => ⟨n - (i + 1), by omega, rfl, hlt, p'⟩, fun x H' y => ?_⟩
    obtain ⟨T, rfl, hT, rfl⟩ := hy i H x H' hlt p.2.1 y
    exact g2_at upd_same ⟨hw _ _, cw_turn (cw_more p (Ex.new hT)) (by omega) (ht i H1 hlt (Ex.refl H1)) (he i H1 hlt (Ex.refl H1))⟩
  · obtain rfl : i = n := by omega
    exact .inl ⟨hstop H p.2.1, hd H p⟩
section
variable {K : PySem.W.Frag} {σ : L2.St} {H : Hp} {ta tb te : TE} {t : TT} {a b : Addr} {xs ys : List V} {d : V} {j k : Nat} {vs : List Nat} {D : Ends} {tu tz : TS}
theorem sq_len {K : PySem.W.Frag} {H : Hp} {a : Addr} {xs : List V} : xs.length = xs.length := rfl
/-- [.. for i, x in enumerate(xs)] -/
theorem el_lcE {t1 : TA} (f : Nat → Bool) (val : Nat → V) (h1 : EvA t1 σ H [.ref a]) (hx : SqL K H a xs) (hn : xs.length ≤ 40000) (hw : ∀ x y, wipe (((wipe σ vs).set j (some x)).set k (some y)) vs = wipe σ vs)
    (ht : ∀ i z H2, xs[i]? = some z → Ex H H2 → EvT t (((wipe σ vs).set j (some (.int (i : Nat)))).set k (some z)) H2 (f i))
    (he : ∀ i z H2, xs[i]? = some z → Ex H H2 → f i = true → Ev te (((wipe σ vs).set j (some (.int (i : Nat)))).set k (some z)) H2 (val i)) :
    EvL (tLc (iEnum K t1) (g2n K j k) t te vs) σ H (given xs.length f val) := fun H0 e Q q =>
  h1 H0 e _ fun H1 e1 => by
    have e01 := e.trans e1
    refine ⟨a, xs, rfl, ex_l e01 hx, fun Dl hD => ?_⟩
    have at' : ∀ i, i < xs.length → xs[i]? = some (xs[i]?.getD .non) := fun i hi => by rw [List.getElem?_eq_getElem hi]; rfl
    refine lc_pair (n := xs.length) (u := fun i => .int (i : Nat)) (v := fun i => xs[i]?.getD .non) (f := f) (val := val) (fun i H3 hi e3 => ⟨xs, _, ex_l (e01.trans e3) hx, at' i hi⟩) (fun H3 e3 => ⟨xs, ex_l (e01.trans e3) hx, Nat.le_refl _⟩)
      (fun i H3 x H4 hi e3 y => ?_) hn hw (fun i H3 hi e3 => ht i _ H3 (at' i hi) (e01.trans e3)) (fun i H3 hi e3 => he i _ H3 (at' i hi) (e01.trans e3)) hD (fun H3 p => q Dl H3 (fresh_back e1 p.1) (e1.trans p.2.1) p.2.2)
    obtain ⟨T, x', rfl, hT, rfl, k1⟩ := y
    exact ⟨T, rfl, hT, by rw [k1 xs (ex_l (e01.trans e3) hx)]; rfl⟩
/-- for i, x in enumerate(xs) -/
theorem for_enum {Pv : Nat → L2.St → Hp → Prop} (h0 : Pv 0 σ H) (hl : ∀ i σ' H', i ≤ xs.length → Pv i σ' H' → SqL K H' a xs)
    (hs : ∀ i x T σ' H', xs[i]? = some x → Pv i σ' H' → H' T = none → tu { D with nx := Pv (i + 1), ct := Pv (i + 1), bk := D.nx } ((σ'.set j (some (.int (i : Nat)))).set k (some x)) (upd H' T (.tup [.int (i : Nat), x]))) (hd : ∀ σ' H', Pv xs.length σ' H' → D.nx σ' H') :
    ∃ W : Nat → Nat → L2.St → Hp → Prop, (∃ m, W 0 m σ H) ∧ ∀ i m σ H, W i m σ H →
      ((Ite K a).stop i H ∧ D.nx σ H) ∨ ((Ite K a).go i H ∧ ∃ N : L2.St → Hp → Prop, (∀ σ' H', N σ' H' → ∃ m', m' < m ∧ W (i + 1) m' σ' H') ∧ ∀ x H', (Ite K a).yld i H x H' → g2n K j k x σ H' fun σ2 H2 => tu { D with nx := N, ct := N, bk := D.nx } σ2 H2) := by
  refine ⟨fun i m σ H => m = xs.length - i ∧ i ≤ xs.length ∧ Pv i σ H, ⟨xs.length, rfl, Nat.zero_le _, h0⟩, ?_⟩
  rintro i m σ H ⟨rfl, hi, p⟩
  have q := hl i σ H hi p
  by_cases hlt : i < xs.length
  · refine .inr ⟨⟨xs, xs[i], q, by simp [hlt]⟩, Pv (i + 1), fun σ' H' p' => ⟨xs.length - (i + 1), by omega, rfl, hlt, p'⟩, fun x H' y => ?_⟩
    obtain ⟨T, z, rfl, hT, rfl, k1⟩ := y
    exact g2_at upd_same (hs i z T σ H (k1 xs q) p hT)
  · obtain rfl : i = xs.length := by omega
    exact .inl ⟨⟨xs, q, Nat.le_refl _⟩, hd σ H p⟩
/-- for i, x in enumerate(..), the list new -/
theorem q_forEN {Pv : Addr → Nat → L2.St → Hp → Prop} (h : EvL te σ H xs) (h0 : ∀ p H1, H p = none → Ex H H1 → H1 p = some (.lst xs) → Pv p 0 σ H1) (hl : ∀ p i σ' H', i ≤ xs.length → Pv p i σ' H' → SqL K H' p xs)
    (hs : ∀ p i x σ' H' H2, xs[i]? = some x → Pv p i σ' H' → Ex H' H2 → tu { D with nx := Pv p (i + 1), ct := Pv p (i + 1), bk := tz D } ((σ'.set j (some (.int (i : Nat)))).set k (some x)) H2) (hd : ∀ p σ' H', Pv p xs.length σ' H' → tz D σ' H') :
    tSeq (tFor (iEnum K (tCons te tNil)) (g2n K j k) tu) tz D σ H := h H (Ex.refl H) _ fun p H1 hp e h1 =>
  ⟨p, xs, rfl, sq_of h1, for_enum (D := { D with nx := tz D }) (Pv := Pv p) (h0 p H1 hp e h1) (hl p) (fun i x T σ' H' hx pv hT => hs p i x σ' H' _ hx pv (Ex.new hT)) (hd p)⟩
end
end XP
/-! ## Lists of lists, tuples of a text and a plain value; more words -/
namespace XP
open PySem PySem.Spec PyProof.Rows L2 Evl
def ldat (xs : List Int) : PyData := .list (xs.map PyData.int)
theorem ldat_depths : ∀ xss : List (List Int), PyData.depthAll (xss.map ldat) ≤ 1
  | [] => by simp [PyData.depthAll]
  | xs :: r => by
    have ih := ldat_depths r
    simp only [List.map_cons, PyData.depthAll, ldat, PyData.depth, PySem.W.ke_depthAll]
    omega
theorem ldat_lays : ∀ xss : List (List Int), PyData.canLayAll0 (xss.map ldat) = true
  | [] => by simp [PyData.canLayAll0]
  | xs :: r => by simp [PyData.canLayAll0, PyData.canLay0, ldat, PySem.W.ke_canLayAll0, ldat_lays r]
theorem shaped_lls (xss : List (List Int)) : SeqAt.shaped (.list (xss.map ldat)) = true := by
  have h := ldat_depths xss
  have h2 := ldat_lays xss
  simp only [SeqAt.shaped, PyData.canLay0, PyData.depth, h2, Bool.true_and, decide_eq_true_eq]
  exact decide_eq_true (Nat.le_trans (Nat.succ_le_succ h) (show 2 ≤ 64 by decide))
theorem eqvAll_lls : ∀ xss yss : List (List Int), PyData.eqvAll (xss.map ldat) (yss.map ldat) = decide (xss = yss)
  | [], [] => by simp [PyData.eqvAll]
  | [], _ :: _ => by simp [PyData.eqvAll]
  | _ :: _, [] => by simp [PyData.eqvAll]
  | xs :: r, ys :: t => by
    show (PyData.eqv (ldat xs) (ldat ys) && PyData.eqvAll (r.map ldat) (t.map ldat)) = _
    rw [eqvAll_lls r t]
    unfold ldat
    rw [eqv_ints, Bool.eq_iff_iff]
    simp
theorem eqv_lls (xss yss : List (List Int)) : PyData.eqv (.list (xss.map ldat)) (.list (yss.map ldat)) = decide (xss = yss) := by
  simp only [PyData.eqv]
  exact eqvAll_lls xss yss
/-- lists of whole numbers stand at the places zs -/
inductive Lls (H : Hp) : List V → List (List Int) → Prop
  | nil : Lls H [] []
  | cons {p : Addr} {xs : List Int} {zs : List V} {xss : List (List Int)} : Ll H p xs → Lls H zs xss → Lls H (.ref p :: zs) (xs :: xss)
theorem Lls.mono {H H' : Hp} (e : Ex H H') : ∀ {zs : List V} {xss : List (List Int)}, Lls H zs xss → Lls H' zs xss
  | _, _, .nil => .nil
  | _, _, .cons h r => .cons (e _ _ h) (r.mono e)
theorem Lls.dp {K : PySem.W.Frag} {H : Hp} : ∀ {zs : List V} {xss : List (List Int)}, Lls H zs xss → DpAll K H zs (xss.map ldat)
  | _, _, .nil => .nil
  | _, _, .cons h r => .cons (dp_ints h.sq) r.dp
theorem Lls.len {H : Hp} : ∀ {zs : List V} {xss : List (List Int)}, Lls H zs xss → zs.length = xss.length
  | _, _, .nil => rfl
  | _, _, .cons _ r => congrArg (· + 1) r.len
/-- a plain value -/
def scD : V → Option PyData
  | .non => some .none
  | .bl b => some (.bool b)
  | .int i => some (.int i)
  | _ => none
theorem sc_dp {K : PySem.W.Frag} {H : Hp} {x : V} {d : PyData} (h : scD x = some d) : Dp K H x d := by
  cases x <;> cases h
  all_goals first | exact .non | exact .bl _ | exact .int _
theorem sc_ok {x : V} {d : PyData} (h : scD x = some d) : PyData.canLay0 d = true ∧ PyData.depth d = 0 ∧ PyData.eqv d d = true := by
  cases x <;> cases h <;> simp [PyData.canLay0, PyData.depth, PyData.eqv]
section
variable {K : PySem.W.Frag} {σ : L2.St} {H H' : Hp} {ta tb te : TE} {t : TT} {x y z v : V} {r : R2} {a b p : Addr} {D : Ends} {tz : TS}
theorem rv_neLL {zs ws : List V} {xss yss : List (List Int)} (h1 : SqL K H a zs) (h2 : Lls H zs xss) (h3 : SqL K H b ws) (h4 : Lls H ws yss) : RV (rNeD K) (.ref a) (.ref b) H (.bl (!decide (xss = yss))) := fun H1 e Q q =>
  ⟨_, _, .lst (ex_l e h1) (h2.mono e).dp, .lst (ex_l e h3) (h4.mono e).dp, shaped_lls xss, shaped_lls yss, by rw [eqv_lls]; exact q H1 (Ex.refl H1)⟩
theorem rv_eqLL {zs ws : List V} {xss yss : List (List Int)} (h1 : SqL K H a zs) (h2 : Lls H zs xss) (h3 : SqL K H b ws) (h4 : Lls H ws yss) : RV (rEqD K) (.ref a) (.ref b) H (.bl (decide (xss = yss))) := fun H1 e Q q =>
  ⟨_, _, .lst (ex_l e h1) (h2.mono e).dp, .lst (ex_l e h3) (h4.mono e).dp, shaped_lls xss, shaped_lls yss, by rw [eqv_lls]; exact q H1 (Ex.refl H1)⟩
/-- (text, plain value) against its like -/
theorem rv_neTV {t u : Addr} {s : Str} {d : PyData} (h1 : H t = some (.tup [.str s, x])) (h2 : H u = some (.tup [.str s, x])) (hs : PyData.strOk s = true) (hx : scD x = some d) : RV (rNeD K) (.ref t) (.ref u) H (.bl false) := fun H1 e Q q => by
  obtain ⟨k1, k2, k3⟩ := sc_ok hx
  have sh : SeqAt.shaped (.tuple [.str s, d]) = true := by
    unfold SeqAt.shaped
    simp [PyData.canLay0, PyData.canLayAll0, PyData.depth, PyData.depthAll, hs, k1, k2]
  have eq1 : PyData.eqv (.tuple [.str s, d]) (.tuple [.str s, d]) = true := by simp [PyData.eqv, PyData.eqvAll, k3]
  refine ⟨.tuple [.str s, d], .tuple [.str s, d], .tup (st_of (e _ _ h1)) (.cons (.str s) (.cons (sc_dp hx) .nil)), .tup (st_of (e _ _ h2)) (.cons (.str s) (.cons (sc_dp hx) .nil)), sh, sh, ?_⟩
  rw [eq1]
  exact q H1 (Ex.refl H1)
/-- the second operand by what is known of it -/
theorem ev_opP {P : V → Hp → Prop} (ha : Ev ta σ H x) (hb : EvP tb σ H P) (hr : ∀ w H1, Ex H H1 → P w H1 → RV r x w H1 z) : Ev (tOp r ta tb) σ H z := fun H1 e Q q =>
  ha H1 e _ fun H2 e2 => hb H2 (e.trans e2) _ fun w H3 e3 p => hr w H3 ((e.trans e2).trans e3) p H3 (Ex.refl H3) Q fun H4 e4 => q H4 ((e2.trans e3).trans e4)
/-- a choice between two new lists of the same items -/
theorem el_if {c : Bool} {zs : List V} (h : EvT t σ H c) (h1 : c = true → EvL ta σ H zs) (h2 : c = false → EvL tb σ H zs) : EvL (tIf t ta tb) σ H zs := fun H1 e Q q => h H1 e _ fun H2 e2 => by
  cases c with
  | true => exact h1 rfl H2 (e.trans e2) Q fun p H3 hp e3 h3 => q p H3 (fresh_back e2 hp) (e2.trans e3) h3
  | false => exact h2 rfl H2 (e.trans e2) Q fun p H3 hp e3 h3 => q p H3 (fresh_back e2 hp) (e2.trans e3) h3
theorem eap_consU {tr : TA} {P : List V → Hp → Prop} {zs : List V} (h : EvU te σ H zs) (hr : EvAP tr σ H P) : EvAP (tCons te tr) σ H (fun vs H' => ∃ p us, vs = .ref p :: us ∧ H p = none ∧ H' p = some (.tup zs) ∧ P us H') := fun H1 e _ q =>
  h H1 e _ fun p H2 np e2 hp => hr H2 (e.trans e2) _ fun us H3 e3 hP => q _ H3 (e2.trans e3) ⟨p, us, rfl, fresh_back e np, e3 _ _ hp, hP⟩
theorem mono_consU {P : List V → Hp → Prop} {zs : List V} (h : Mono P) : Mono (fun (vs : List V) (H' : Hp) => ∃ p us, vs = .ref p :: us ∧ H p = none ∧ H' p = some (.tup zs) ∧ P us H') := fun _ _ _ e ⟨p, us, h1, h2, h3, h4⟩ => ⟨p, us, h1, h2, e _ _ h3, h _ _ _ e h4⟩
/-- x, y = what a call hands back -/
theorem q_asg2 {j k : Nat} {P : V → Hp → Prop} (h : EvP te σ H P) (hk : ∀ v H1, Ex H H1 → P v H1 → ∃ (T : Addr) (x y : V), v = .ref T ∧ H1 T = some (.tup [x, y]) ∧ tz D ((σ.set j (some x)).set k (some y)) H1) : tSeq (tAsg te (g2n K j k)) tz D σ H :=
  h H (Ex.refl H) _ fun v H1 e p => by
    obtain ⟨T, x, y, rfl, ht, q⟩ := hk v H1 e p
    exact g2_at ht q
theorem cut_upto (zs : List V) (k : Nat) : cutV zs none (some (k : Int)) = zs.take k := by
  unfold cutV
  rw [HT.sIx_none, HT.sIx_nat, List.drop_zero, Nat.sub_zero]
  by_cases h : k ≤ zs.length
  · rw [Nat.min_eq_left h]
  · rw [Nat.min_eq_right (by omega), List.take_length, List.take_of_length_le (by omega)]
theorem cut_butLast (zs : List V) : cutV zs none (some (-1)) = zs.dropLast := by
  unfold cutV
  rw [HT.sIx_none, List.drop_zero, Nat.sub_zero, List.dropLast_eq_take]
  have e : HT.sIx zs.length zs.length (some (-1)) = zs.length - 1 := by
    show (if (-1 : Int) < 0 then ((-1 : Int) + (zs.length : Int)).toNat else min (-1 : Int).toNat zs.length) = zs.length - 1
    rw [if_pos (by decide)]
    omega
  rw [e]
end
section
variable {K : PySem.W.Frag} {σ : L2.St} {H : Hp} {tl : TE} {g : TG} {tu tz : TS} {D : Ends}
/-- over a list of which something is known -/
theorem q_forLP {P : V → Hp → Prop} (h : EvP tl σ H P) (hk : ∀ v H1, Ex H H1 → P v H1 → ∃ (p : Addr) (zs : List V) (Pv : Nat → L2.St → Hp → Prop), v = .ref p ∧ H1 p = some (.lst zs) ∧ Pv 0 σ H1 ∧ (∀ i σ' H', i ≤ zs.length → Pv i σ' H' → SqL K H' p zs) ∧
    (∀ i x σ' H', zs[i]? = some x → Pv i σ' H' → g x σ' H' fun σ2 H2 => tu { D with nx := Pv (i + 1), ct := Pv (i + 1), bk := tz D } σ2 H2) ∧ ∀ σ' H', Pv zs.length σ' H' → tz D σ' H') : tSeq (tFor (iList K tl) g tu) tz D σ H :=
  h H (Ex.refl H) _ fun v H1 e p => by
    obtain ⟨a, zs, Pv, rfl, hz, h0, hl, hs, hd⟩ := hk v H1 e p
    exact ⟨a, rfl, ⟨zs, sq_of hz⟩, for_list (D := { D with nx := tz D }) Pv h0 hl hs hd⟩
end
end XP
/-! ## enumerate of a new list; appending what is known of; lists of new lists -/
namespace XP
open PySem PySem.Spec PyProof.Rows L2 Evl
section
variable {K : PySem.W.Frag} {σ : L2.St} {H H' : Hp} {ta tb te tl : TE} {t : TT} {xs ys : List V} {j k : Nat} {vs : List Nat} {D : Ends} {tu tz : TS}
theorem el_lcEN (f : Nat → Bool) (val : Nat → V) (h : EvL tl σ H xs) (hn : xs.length ≤ 40000) (hw : ∀ x y, wipe (((wipe σ vs).set j (some x)).set k (some y)) vs = wipe σ vs)
    (ht : ∀ i z H2, xs[i]? = some z → Ex H H2 → EvT t (((wipe σ vs).set j (some (.int (i : Nat)))).set k (some z)) H2 (f i))
    (he : ∀ i z H2, xs[i]? = some z → Ex H H2 → f i = true → Ev te (((wipe σ vs).set j (some (.int (i : Nat)))).set k (some z)) H2 (val i)) :
    EvL (tLc (iEnum K (tCons tl tNil)) (g2n K j k) t te vs) σ H (given xs.length f val) := fun H0 e Q q =>
  h H0 e _ fun a H1 _ e1 ha => by
    have e01 := e.trans e1
    have hx : SqL K H1 a xs := sq_of ha
    refine ⟨a, xs, rfl, hx, fun Dl hD => ?_⟩
    have at' : ∀ i, i < xs.length → xs[i]? = some (xs[i]?.getD .non) := fun i hi => by rw [List.getElem?_eq_getElem hi]; rfl
    refine lc_pair (n := xs.length) (u := fun i => .int (i : Nat)) (v := fun i => xs[i]?.getD .non) (f := f) (val := val) (fun i H3 hi e3 => ⟨xs, _, ex_l e3 hx, at' i hi⟩) (fun H3 e3 => ⟨xs, ex_l e3 hx, Nat.le_refl _⟩)
      (fun i H3 x H4 hi e3 y => ?_) hn hw (fun i H3 hi e3 => ht i _ H3 (at' i hi) (e01.trans e3)) (fun i H3 hi e3 => he i _ H3 (at' i hi) (e01.trans e3)) hD (fun H3 p => q Dl H3 (fresh_back e1 p.1) (e1.trans p.2.1) p.2.2)
    obtain ⟨T, x', rfl, hT, rfl, k1⟩ := y
    exact ⟨T, rfl, hT, by rw [k1 xs (ex_l e3 hx)]; rfl⟩
/-- xs.append(e), of e something known -/
theorem s_appP {l : Addr} {zs : List V} {P : V → Hp → Prop} (hl : H l = some (.lst zs)) (ha : Ev ta σ H (.ref l)) (h : EvP te σ H P) (hz : zs.length < 100000) (hk : ∀ v H1, Ex H H1 → P v H1 → D.nx σ (upd H1 l (.lst (zs ++ [v])))) :
    tDrop (tBM K "list" rAppend ta (tCons te tNil)) D σ H := ha H (Ex.refl H) _ fun H1 e1 =>
  ⟨Or.inl ⟨rfl, zs, sq_of (e1 l _ hl)⟩, h H1 e1 _ fun v H2 e2 p => ⟨l, zs, v, rfl, rfl, e2 l _ (e1 l _ hl), sz_lt hz, hk v H2 (e1.trans e2) p⟩⟩
theorem Lls.upd {p : Addr} {o : HO} : ∀ {zs : List V} {xss : List (List Int)}, Lls H zs xss → (∀ z ∈ zs, z ≠ .ref p) → Lls (upd H p o) zs xss
  | _, _, .nil, _ => .nil
  | _, _, .cons (p := q) h r, hz => .cons ((upd_ne fun e => hz _ List.mem_cons_self (by rw [e])).trans h) (r.upd fun z hm => hz z (List.mem_cons_of_mem _ hm))
theorem Lls.snoc {q : Addr} {ns : List Int} (h : Ll H q ns) : ∀ {zs : List V} {xss : List (List Int)}, Lls H zs xss → Lls H (zs ++ [.ref q]) (xss ++ [ns])
  | _, _, .nil => .cons h .nil
  | _, _, .cons h' r => .cons h' (r.snoc h)
theorem Lls.get : ∀ {zs : List V} {xss : List (List Int)} {k : Nat} {x : List Int}, Lls H zs xss → xss[k]? = some x → ∃ q, zs[k]? = some (.ref q) ∧ Ll H q x
  | _, _, 0, _, .cons h _, e => by cases e; exact ⟨_, rfl, h⟩
  | _, _, k + 1, _, .cons _ r, e => r.get (k := k) e
theorem Lls.at {zs : List V} {xss : List (List Int)} {k : Nat} {z : V} (h : Lls H zs xss) (e : zs[k]? = some z) : ∃ (q : Addr) (x : List Int), z = .ref q ∧ xss[k]? = some x ∧ Ll H q x := by
  have hk : k < xss.length := by
    rw [← h.len]
    exact (List.getElem?_eq_some_iff.mp e).1
  obtain ⟨q, h1, h2⟩ := h.get (List.getElem?_eq_getElem hk)
  rw [h1] at e
  cases e
  exact ⟨q, _, rfl, List.getElem?_eq_getElem hk, h2⟩
theorem EvL.p {zs : List V} (h : EvL te σ H zs) : EvP te σ H (fun v H1 => ∃ p : Addr, v = .ref p ∧ H p = none ∧ H1 p = some (.lst zs)) := fun H1 e Q q => h H1 e Q fun p H2 np e2 hp => q _ _ e2 ⟨p, rfl, fresh_back e np, hp⟩
end
section
variable {K : PySem.W.Frag} {σ : L2.St} {H H' : Hp} {ta tb te tl : TE} {t : TT} {xs ys : List V} {a : Addr} {j k : Nat} {vs : List Nat} {D : Ends} {tu tz : TS}
theorem Lls.ne {q : Addr} (hq : H q = none) : ∀ {zs : List V} {xss : List (List Int)}, Lls H zs xss → ∀ z ∈ zs, z ≠ .ref q
  | _, _, .nil, _, hz => by cases hz
  | _, _, .cons (p := p) h r, z, hz => by
    rcases List.mem_cons.mp hz with e | hz
    · rw [e]
      intro e2
      cases e2
      have h' : H q = _ := h
      rw [hq] at h'
      cases h'
    · exact r.ne hq z hz
/-- [a new list for x in xs] -/
theorem el_lcLL (g : Nat → List Int) (h : Ev tl σ H (.ref a)) (hx : SqL K H a xs) (hn : xs.length ≤ 40000) (hw : ∀ x, wipe ((wipe σ vs).set k (some x)) vs = wipe σ vs)
    (he : ∀ i x H2, xs[i]? = some x → Ex H H2 → EvL te ((wipe σ vs).set k (some x)) H2 ((g i).map V.int)) :
    EvP (tLc (iList K tl) (gName k) tYes te vs) σ H (fun v H' => ∃ (Dl : Addr) (zs : List V), v = .ref Dl ∧ H Dl = none ∧ H' Dl = some (.lst zs) ∧ Lls H' zs ((List.range xs.length).map g) ∧ ∀ z ∈ zs, ∃ q : Addr, z = .ref q ∧ H q = none) := fun H0 e Q q =>
  h H0 e _ fun H1 e1 => by
    have e01 := e.trans e1
    refine ⟨a, rfl, ⟨xs, ex_l e01 hx⟩, fun Dl hD => ?_⟩
    refine lc_list (xs := xs) (fun i H' => Ex H1 H' ∧ ∃ zs : List V, H' Dl = some (.lst zs) ∧ Lls H' zs ((List.range i).map g) ∧ ∀ z ∈ zs, z ≠ .ref Dl ∧ ∃ q : Addr, z = .ref q ∧ H1 q = none) ⟨Ex.new hD, [], upd_same, .nil, fun z hz => by cases hz⟩
      (fun i H' _ p => ex_l (e01.trans p.1) hx) (fun i x H' hi p => ⟨hw x, ?_⟩) (fun H' p => ?_)
    · obtain ⟨eH, zs, hDl, hL, hz⟩ := p
      have hlt := lt_of_get hi
      refine et_yes H' (Ex.refl H') _ fun H3 e3 => ?_
      show te _ H3 _
      refine he i x H3 hi (e01.trans (eH.trans e3)) H3 (Ex.refl H3) _ fun r H4 nr e4 hr => ?_
      have hD4 := (e3.trans e4) _ _ hDl
      have hrD : r ≠ Dl := fun z => by
        have := e3 _ _ hDl
        rw [← z, nr] at this
        cases this
      have ll := hL.len
      rw [List.length_map, List.length_range] at ll
      refine ⟨zs, hD4, sz_lt (by omega), ((eH.trans e3).trans e4).mut hD, zs ++ [.ref r], upd_same, ?_, fun z hm => ?_⟩
      · rw [List.range_succ, List.map_append]
        exact ((hL.mono (e3.trans e4)).snoc hr).upd fun y hy => by
          rcases List.mem_append.mp hy with hy | hy
          · exact (hz y hy).1
          · rw [List.mem_singleton.mp hy]
            exact fun e => hrD (by cases e; rfl)
      · rcases List.mem_append.mp hm with hm | hm
        · exact hz z hm
        · rw [List.mem_singleton.mp hm]
          exact ⟨fun e => hrD (by cases e; rfl), r, rfl, fresh_back (eH.trans e3) nr⟩
    · obtain ⟨eH, zs, hDl, hL, hz⟩ := p
      exact q _ _ (e1.trans eH) ⟨Dl, zs, rfl, fresh_back e01 hD, hDl, hL, fun z hm => by
        obtain ⟨q', e1', e2'⟩ := (hz z hm).2
        exact ⟨q', e1', fresh_back e01 e2'⟩⟩
/-- a call whose first argument is a new list -/
theorem el_callL3 {sp : Sp} {E : XK} {zs ws : List V} {tr : TA} {us : List V} (h : EvL te σ H zs) (hb : ∀ H1, Ex H H1 → EvA tr σ H1 us) (hs : ∀ p H1, Ex H H1 → H1 p = some (.lst zs) → SpL sp (.ref p :: us) H1 ws) : EvL (tCall sp [] E (tCons te tr)) σ H ws := fun H1 e Q q =>
  h H1 e _ fun p H2 _ e2 hp => hb H2 (e.trans e2) H2 (Ex.refl H2) _ fun H3 e3 => by
    have := hs p H3 ((e.trans e2).trans e3) (e3 _ _ hp) H3 (Ex.refl H3) Q (fun r H4 nr e4 hr => q r H4 (fresh_back (e2.trans e3) nr) ((e2.trans e3).trans e4) hr) E
    show sp ((V.ref p :: us) ++ []) H3 Q E
    rw [List.append_nil]
    exact this
end
/-! evaluation after which only an older heap is known to stand -/
def Ev0 (H0 : Hp) (te : TE) (σ : L2.St) (H : Hp) (v : V) : Prop := ∀ H1, Ex H H1 → ∀ Q : VK, (∀ H2, Ex H0 H2 → Q v H2) → te σ H1 Q
def EvT0 (H0 : Hp) (t : TT) (σ : L2.St) (H : Hp) (b : Bool) : Prop := ∀ H1, Ex H H1 → ∀ Q : Bool → Hp → Prop, (∀ H2, Ex H0 H2 → Q b H2) → t σ H1 Q
section
variable {K : PySem.W.Frag} {σ : L2.St} {H H' H0 : Hp} {ta tb te tl : TE} {t u : TT} {xs ys : List V} {v : V} {a b : Bool} {D : Ends} {tu tz : TS}
theorem ev0_call {sp : Sp} {vs : List V} {E : XK} {tr : TA} (h : EvA tr σ H vs) (hs : ∀ H1, Ex H H1 → ∀ Q : VK, (∀ H2, Ex H0 H2 → Q v H2) → ∀ E : XK, sp (vs ++ []) H1 Q E) : Ev0 H0 (tCall sp [] E tr) σ H v := fun H1 e Q q =>
  h H1 e _ fun H2 e2 => hs H2 (e.trans e2) Q q E
theorem et0_B (h : Ev0 H0 te σ H (.bl b)) : EvT0 H0 (tB te) σ H b := fun H1 e Q q => h H1 e _ fun H2 e2 => ⟨b, rfl, q H2 e2⟩
theorem et0_not (h : EvT0 H0 t σ H b) : EvT0 H0 (tNot t) σ H (!b) := fun H1 e Q q => h H1 e _ fun H2 e2 => q H2 e2
theorem et0_andT (h : EvT t σ H true) (h2 : EvT0 H0 u σ H b) : EvT0 H0 (tAnd t u) σ H b := fun H1 e Q q => h H1 e _ fun H2 e2 => by
  show u σ H2 Q
  exact h2 H2 (e.trans e2) Q q
theorem et0_orF (h : EvT t σ H false) (h2 : EvT0 H0 u σ H b) : EvT0 H0 (tOr t u) σ H b := fun H1 e Q q => h H1 e _ fun H2 e2 => by
  show u σ H2 Q
  exact h2 H2 (e.trans e2) Q q
theorem s_when0 (h : EvT0 H0 t σ H false) (hk : ∀ H1, Ex H0 H1 → D.nx σ H1) : tIfS t tu tNext D σ H := h H (Ex.refl H) _ fun H1 e => by
  show tNext D σ H1
  exact hk H1 e
theorem eap_consP {tr : TA} {P1 : V → Hp → Prop} {P : List V → Hp → Prop} (h : EvP te σ H P1) (hm : ∀ v H1 H2, Ex H1 H2 → P1 v H1 → P1 v H2) (hr : EvAP tr σ H P) : EvAP (tCons te tr) σ H (fun vs H' => ∃ x us, vs = x :: us ∧ P1 x H' ∧ P us H') := fun H1 e _ q =>
  h H1 e _ fun x H2 e2 p => hr H2 (e.trans e2) _ fun us H3 e3 hP => q _ H3 (e2.trans e3) ⟨x, us, rfl, hm _ _ _ e3 p, hP⟩
theorem ep_tup {tr : TA} {P : List V → Hp → Prop} (h : EvAP tr σ H P) (hm : Mono P) (hl : ∀ vs H', P vs H' → vs.length ≤ 100000) : EvP (tTup tr) σ H (fun v H' => ∃ p vs, v = .ref p ∧ H p = none ∧ H' p = some (.tup vs) ∧ P vs H') := fun H1 e Q q =>
  h H1 e _ fun vs H2 e2 hp => ⟨sz_of (hl _ _ hp), fun p np => q _ _ (e2.trans (Ex.new np)) ⟨p, vs, rfl, fresh_back (e.trans e2) np, upd_same, hm _ _ _ (Ex.new np) hp⟩⟩
theorem mono_consP {P1 : V → Hp → Prop} {P : List V → Hp → Prop} (hm : ∀ v H1 H2, Ex H1 H2 → P1 v H1 → P1 v H2) (h : Mono P) : Mono (fun (vs : List V) (H' : Hp) => ∃ x us, vs = x :: us ∧ P1 x H' ∧ P us H') := fun _ _ _ e ⟨x, us, h1, h2, h3⟩ => ⟨x, us, h1, hm _ _ _ e h2, h _ _ _ e h3⟩
theorem atI_end {zs : List V} {n : Nat} {z : V} (h : zs[n]? = some z) (hl : zs.length = n + 1) : atI zs (-1) = some z := by
  have hne : zs ≠ [] := fun e => by
    rw [e] at hl
    cases hl
  have e := List.dropLast_concat_getLast hne
  have e2 : zs.getLast hne = z := by
    rw [List.getLast_eq_getElem]
    have h2 := (List.getElem?_eq_some_iff.mp h).2
    rw [← h2]
    congr 1
    omega
  rw [e2] at e
  rw [← e]
  exact atI_last _ _
theorem Lls.put {q : Addr} {y : List Int} : ∀ {zs : List V} {xss : List (List Int)} {i : Nat}, Lls H zs xss → zs.Nodup → zs[i]? = some (.ref q) → Lls (L2.upd H q (.lst (y.map V.int))) zs (xss.set i y)
  | _, _, _, .nil, _, h => by cases h
  | _, _, 0, .cons (p := p) _ r, hn, e => by
    cases e
    obtain ⟨h1, h2⟩ := List.nodup_cons.mp hn
    exact .cons upd_same (r.upd fun z hz => fun e => h1 (by rw [← e]; exact hz))
  | _, _, i + 1, .cons (p := p) (zs := zs) h r, hn, e => by
    obtain ⟨h1, h2⟩ := List.nodup_cons.mp hn
    have e' : zs[i]? = some (V.ref q) := e
    have hpq : p ≠ q := fun z => by
      rw [z] at h1
      exact h1 (List.mem_of_getElem? e')
    exact .cons ((upd_ne hpq).trans h) (r.put h2 e)
end
theorem given_ints (n : Nat) (f : Nat → Bool) : given n f (fun i => V.int (i : Nat)) = (((List.range n).filter f).map fun (i : Nat) => (i : Int)).map V.int := by
  unfold given
  rw [List.map_map]
  rfl
end XP
/-! ## Still more words: three names at once, ranges from a number on with a test, numbers beside lists -/
namespace XP
open PySem PySem.Spec PyProof.Rows L2 Evl
abbrev g3n (K : PySem.W.Frag) (i j k : Nat) : TG := gTup K 3 (gCons (gName i) (gCons (gName j) (gCons (gName k) gNil)))
theorem g3_at {K : PySem.W.Frag} {i j k : Nat} {T : Addr} {x y z : V} {σ : L2.St} {H : Hp} {Q : L2.St → Hp → Prop} (h : H T = some (.tup [x, y, z])) (q : Q (((σ.set i (some x)).set j (some y)).set k (some z)) H) : g3n K i j k (.ref T) σ H Q :=
  ⟨T, [x, y, z], rfl, st_of h, rfl, x, [y, z], rfl, y, [z], rfl, z, [], rfl, rfl, q⟩
/-- a number, a list of numbers and another one -/
def nllD (n : Int) (xs ys : List Int) : PyData := .tuple [.int n, ldat xs, ldat ys]
theorem shaped_nll (n : Int) (xs ys : List Int) : SeqAt.shaped (nllD n xs ys) = true := by
  unfold SeqAt.shaped nllD ldat
  simp [PyData.canLay0, PyData.canLayAll0, PyData.depth, PyData.depthAll, PySem.W.ke_canLayAll0, PySem.W.ke_depthAll]
theorem eqv_nll (n m : Int) (xs ys us ws : List Int) : PyData.eqv (nllD n xs ys) (nllD m us ws) = decide (n = m ∧ xs = us ∧ ys = ws) := by
  unfold nllD
  simp only [PyData.eqv, PyData.eqvAll]
  unfold ldat
  rw [eqv_ints, eqv_ints, Bool.eq_iff_iff]
  simp
theorem dp_nll {K : PySem.W.Frag} {H : Hp} {t p q : Addr} {n : Int} {xs ys : List Int} (ht : H t = some (.tup [.int n, .ref p, .ref q])) (hp : Ll H p xs) (hq : Ll H q ys) : Dp K H (.ref t) (nllD n xs ys) :=
  .tup (st_of ht) (.cons (.int n) (.cons (dp_ints hp.sq) (.cons (dp_ints hq.sq) .nil)))
section
variable {K : PySem.W.Frag} {σ : L2.St} {H H' : Hp} {ta tb te tl : TE} {t : TT} {x y z v : V} {a b p : Addr} {xs ys : List Int} {D : Ends} {tz tu : TS}
theorem rv_neNLL {t t' p q p' q' : Addr} {n m : Int} {xs ys us ws : List Int} (ht : H t = some (.tup [.int n, .ref p, .ref q])) (hp : Ll H p xs) (hq : Ll H q ys) (ht' : H t' = some (.tup [.int m, .ref p', .ref q'])) (hp' : Ll H p' us) (hq' : Ll H q' ws) :
    RV (rNeD K) (.ref t) (.ref t') H (.bl (!decide (n = m ∧ xs = us ∧ ys = ws))) := fun H1 e Q k =>
  ⟨_, _, dp_nll (e _ _ ht) (e _ _ hp) (e _ _ hq), dp_nll (e _ _ ht') (e _ _ hp') (e _ _ hq'), shaped_nll _ _ _, shaped_nll _ _ _, by rw [eqv_nll]; exact k H1 (Ex.refl H1)⟩
/-- two written texts, equal -/
theorem rv_eqTT {t u : Addr} {c d : Str} (h1 : H t = some (.tup [.str c, .str d])) (h2 : H u = some (.tup [.str c, .str d])) (ha : PyData.strOk c = true) (hb : PyData.strOk d = true) : RV (rEqD K) (.ref t) (.ref u) H (.bl true) := fun H1 e Q q => by
  have sh : SeqAt.shaped (.tuple [.str c, .str d]) = true := by
    unfold SeqAt.shaped
    simp [PyData.canLay0, PyData.canLayAll0, PyData.depth, PyData.depthAll, ha, hb]
  have eq1 : PyData.eqv (.tuple [.str c, .str d]) (.tuple [.str c, .str d]) = true := by simp [PyData.eqv, PyData.eqvAll]
  refine ⟨.tuple [.str c, .str d], .tuple [.str c, .str d], .tup (st_of (e _ _ h1)) (.cons (.str c) (.cons (.str d) .nil)), .tup (st_of (e _ _ h2)) (.cons (.str c) (.cons (.str d) .nil)), sh, sh, ?_⟩
  rw [eq1]
  exact q H1 (Ex.refl H1)
theorem el_lcR2F {tr : TA} {k : Nat} {vs : List Nat} {lo n : Int} (f : Nat → Bool) (g : Nat → V) (h : EvA tr σ H [.int lo, .int n]) (hn : 0 ≤ lo ∧ lo ≤ 40000 ∧ -40000 ≤ n ∧ n ≤ 40000) (hw : ∀ x, wipe ((wipe σ vs).set k (some x)) vs = wipe σ vs)
    (ht : ∀ (i : Nat) H1, Ex H H1 → lo + (i : Int) < n → EvT t ((wipe σ vs).set k (some (.int (lo + (i : Int))))) H1 (f i))
    (he : ∀ (i : Nat) H1, Ex H H1 → lo + (i : Int) < n → f i = true → Ev te ((wipe σ vs).set k (some (.int (lo + (i : Int))))) H1 (g i)) :
    EvL (tLc (iRng2 tr) (gName k) t te vs) σ H (given (n - lo).toNat f g) := fun H0 e Q q =>
  h H0 e _ fun H1 e1 => ⟨lo, n, rfl, ⟨by omega, by omega, by omega, by omega⟩, fun Dl hD =>
    lc_range (lo := lo) (n := (n - lo).toNat) (Cw H1 f g Dl) ⟨hD, Ex.new hD, upd_same⟩ (fun i H2 hi p => ⟨hw _, cw_turn p (by omega) (ht i H1 (e.trans e1) (by omega)) fun hb => he i H1 (e.trans e1) (by omega) hb⟩)
      (fun H2 p => q Dl H2 (fresh_back e1 p.1) (e1.trans p.2.1) p.2.2)⟩
theorem s_retP {P : V → Hp → Prop} (h : EvP te σ H P) (k : ∀ v H1, Ex H H1 → P v H1 → D.rt v H1) : tRet te D σ H := h H (Ex.refl H) _ fun v H1 e p => k v H1 e p
/-- x, y, z = what a call hands back -/
theorem q_asg3 {i j k : Nat} {P : V → Hp → Prop} (h : EvP te σ H P) (hk : ∀ v H1, Ex H H1 → P v H1 → ∃ (T : Addr) (x y w : V), v = .ref T ∧ H1 T = some (.tup [x, y, w]) ∧ tz D (((σ.set i (some x)).set j (some y)).set k (some w)) H1) : tSeq (tAsg te (g3n K i j k)) tz D σ H :=
  h H (Ex.refl H) _ fun v H1 e p => by
    obtain ⟨T, x, y, w, rfl, ht, q⟩ := hk v H1 e p
    exact g3_at ht q
/-- the first operand by what is known of it -/
theorem ev_opP1 {P : V → Hp → Prop} {r : R2} (ha : EvP ta σ H P) (hb : ∀ w H1, Ex H H1 → P w H1 → Ev tb σ H1 y) (hr : ∀ w H1 H2, Ex H H1 → P w H1 → Ex H1 H2 → RV r w y H2 z) : Ev (tOp r ta tb) σ H z := fun H1 e Q q =>
  ha H1 e _ fun w H2 e2 p => hb w H2 (e.trans e2) p H2 (Ex.refl H2) _ fun H3 e3 => hr w H2 H3 (e.trans e2) p e3 H3 (Ex.refl H3) Q fun H4 e4 => q H4 ((e2.trans e3).trans e4)
/-- both operands by what is known of them -/
theorem ev_opPP {P R : V → Hp → Prop} {r : R2} (ha : EvP ta σ H P) (hb : ∀ w H1, Ex H H1 → P w H1 → EvP tb σ H1 R) (hr : ∀ w u H1 H2, Ex H H1 → P w H1 → Ex H1 H2 → R u H2 → RV r w u H2 z) : Ev (tOp r ta tb) σ H z := fun H1 e Q q =>
  ha H1 e _ fun w H2 e2 p => hb w H2 (e.trans e2) p H2 (Ex.refl H2) _ fun u H3 e3 p2 => hr w u H2 H3 (e.trans e2) p e3 p2 H3 (Ex.refl H3) Q fun H4 e4 => q H4 ((e2.trans e3).trans e4)
/-- [.. for x in a new list of numbers if ..] -/
theorem el_lcIN {k : Nat} {vs : List Nat} {ns : List Int} (p : Int → Bool) (g : Int → V) (h : EvL tl σ H (ns.map V.int)) (hz : ns.length ≤ 40000) (hw : ∀ x, wipe ((wipe σ vs).set k (some x)) vs = wipe σ vs)
    (ht : ∀ (z : Int) H1, Ex H H1 → z ∈ ns → EvT t ((wipe σ vs).set k (some (.int z))) H1 (p z)) (he : ∀ (z : Int) H1, Ex H H1 → z ∈ ns → p z = true → Ev te ((wipe σ vs).set k (some (.int z))) H1 (g z)) :
    EvL (tLc (iList K tl) (gName k) t te vs) σ H ((ns.filter p).map g) := by
  refine el_is (el_lcNL (fun i => p (ns.getD i 0)) (fun i => g (ns.getD i 0)) h (by rw [List.length_map]; exact hz) hw (fun i x H1 e1 hi => ?_) (fun i x H1 e1 hi hp => ?_)) (by rw [List.length_map]; exact given_getD p g)
  · obtain ⟨z, e, rfl⟩ := get_int hi
    rw [show ns.getD i 0 = z by simp [List.getD, e]]
    exact ht z H1 e1 (List.mem_of_getElem? e)
  · obtain ⟨z, e, rfl⟩ := get_int hi
    have ez : ns.getD i 0 = z := by simp [List.getD, e]
    rw [ez] at hp ⊢
    exact he z H1 e1 (List.mem_of_getElem? e) hp
theorem el_lcINA {k : Nat} {vs : List Nat} {ns : List Int} (g : Int → V) (h : EvL tl σ H (ns.map V.int)) (hz : ns.length ≤ 40000) (hw : ∀ x, wipe ((wipe σ vs).set k (some x)) vs = wipe σ vs)
    (he : ∀ (z : Int) H1, Ex H H1 → z ∈ ns → Ev te ((wipe σ vs).set k (some (.int z))) H1 (g z)) : EvL (tLc (iList K tl) (gName k) tYes te vs) σ H (ns.map g) := by
  refine el_is (el_lcIN (fun _ => true) g h hz hw (fun _ _ _ _ => et_yes) fun z H1 e1 hm _ => he z H1 e1 hm) ?_
  rw [List.filter_eq_self.mpr fun _ _ => rfl]
theorem ev_opPU {P : V → Hp → Prop} {r : R2} {zs : List V} (ha : EvP ta σ H P) (hb : ∀ w H1, Ex H H1 → P w H1 → EvU tb σ H1 zs) (hr : ∀ w u H1 H2, Ex H H1 → P w H1 → Ex H1 H2 → H2 u = some (.tup zs) → RV r w (.ref u) H2 z) : Ev (tOp r ta tb) σ H z := fun H1 e Q q =>
  ha H1 e _ fun w H2 e2 p => hb w H2 (e.trans e2) p H2 (Ex.refl H2) _ fun u H3 _ e3 hu => hr w u H2 H3 (e.trans e2) p e3 hu H3 (Ex.refl H3) Q fun H4 e4 => q H4 ((e2.trans e3).trans e4)
theorem rc_isiTup {zs : List V} (h : H a = some (.tup zs)) : RC (rIsi K) [.ref a, .ty "tuple"] H (.bl true) := rc_isi (.ty _) (fun H1 e => .base (.tup (e a _ h))) (kit_ty (by decide +kernel))
theorem rc_isiIB {i : Int} : RC (rIsi K) [.int i, .ty "bool"] H (.bl false) := rc_isi (.ty _) (fun _ _ => .base (.int _)) (kit_ty (by decide +kernel))
theorem rc_lenT {zs : List V} (h : SqT K H a zs) : RC (rLenK K) [.ref a] H (.int (zs.length : Int)) := fun H1 e _ q =>
  ⟨a, zs, rfl, .inr (ex_t e h), q H1 (Ex.refl H1)⟩
end
theorem cut_from (zs : List V) (k : Nat) : cutV zs (some (k : Int)) none = zs.drop k := by
  unfold cutV
  rw [HT.sIx_none, HT.sIx_nat]
  by_cases h : k ≤ zs.length
  · rw [Nat.min_eq_left h, List.take_of_length_le (by rw [List.length_drop]; exact Nat.le_refl _)]
  · rw [Nat.min_eq_right (by omega), List.drop_length, List.drop_of_length_le (by omega), List.take_nil]
/-- the part K by a name of one's own, within a comprehension -/
theorem pi_listK {X : Cx} {K : PySem.W.Frag} {tg l : Expr} {tl : TE} (h : X.K = K) (hl : PE X l tl) : PI X tg l (iList K tl) := h ▸ pi_list hl
/-! downward closed counts -/
theorem dc_count (P : Nat → Bool) : ∀ n : Nat, (∀ i j, i ≤ j → j < n → P j = true → P i = true) → ∀ i, i < ((List.range n).filter P).length ↔ i < n ∧ P i = true
  | 0, _, i => by simp
  | n + 1, h, i => by
    have ih := dc_count P n (fun i j h1 h2 => h i j h1 (by omega)) i
    rw [List.range_succ, List.filter_append, List.length_append]
    by_cases c : P n = true
    · have e1 : (List.range n).filter P = List.range n := List.filter_eq_self.mpr fun j hj => h j n (by have := List.mem_range.mp hj; omega) (by omega) c
      have e2 : List.filter P [n] = [n] := by rw [List.filter_cons, if_pos c]; rfl
      rw [e1, e2, List.length_range]
      constructor
      · intro hi
        simp at hi
        exact ⟨by omega, h i n (by omega) (by omega) c⟩
      · rintro ⟨hi, _⟩
        simp
        omega
    · have e2 : List.filter P [n] = [] := by rw [List.filter_cons, if_neg c]; rfl
      rw [e2, List.length_nil, Nat.add_zero, ih]
      constructor
      · rintro ⟨h1, h2⟩
        exact ⟨by omega, h2⟩
      · rintro ⟨h1, h2⟩
        refine ⟨?_, h2⟩
        rcases Nat.lt_or_ge i n with k | k
        · exact k
        · exact absurd (by rw [show n = i by omega]; exact h2) c
theorem given_length (n : Nat) (f : Nat → Bool) (v : Nat → V) : (given n f v).length = ((List.range n).filter f).length := by
  unfold given
  rw [List.length_map]
end XP
/-! ## len(set(xs)) of a list of whole numbers, any of them -/
namespace XP
open PySem PySem.Spec PyProof.Rows L2 Evl
/-- how many unlike ones -/
def dst (ns : List Int) : Nat := (firstMet (fun i => ns.getD i 0) ns.length).length
theorem firstMet_full (ns : List Int) : ∀ i, i ≤ ns.length → (firstMet (fun i => ns.getD i 0) i).length = i → (ns.take i).Nodup
  | 0, _, _ => List.nodup_nil
  | i + 1, hi, h => by
    have hlt : i < ns.length := hi
    have hle := firstMet_length_le (fun i => ns.getD i 0) i
    rw [firstMet_succ, step_length] at h
    cases hb : (firstMet (fun i => ns.getD i 0) i).any (· == ns.getD i 0) with
    | true =>
      rw [hb, if_pos rfl] at h
      omega
    | false =>
      rw [hb] at h
      have ih := firstMet_full ns i (by omega) (by rw [if_neg Bool.false_ne_true] at h; omega)
      rw [firstMet_any] at hb
      have e : ns[i]? = some (ns.getD i 0) := by
        rw [List.getD, List.getElem?_eq_getElem hlt]
        rfl
      rw [List.take_add_one, e]
      show (ns.take i ++ [ns.getD i 0]).Nodup
      rw [List.nodup_append]
      refine ⟨ih, by simp, fun a ha b hb' => ?_⟩
      rw [List.mem_singleton.mp hb']
      intro z
      obtain ⟨j, hj, rfl⟩ := List.mem_iff_getElem.mp ha
      rw [List.length_take] at hj
      have : ((List.range i).map fun i => ns.getD i 0).any (· == ns.getD i 0) = true := by
        rw [List.any_eq_true]
        refine ⟨ns.getD j 0, List.mem_map.mpr ⟨j, List.mem_range.mpr (by omega), rfl⟩, ?_⟩
        rw [List.getElem_take] at z
        have e2 : ns.getD j 0 = ns[j]'(by omega) := by simp [List.getD, show j < ns.length by omega]
        rw [e2, z]
        simp
      rw [this] at hb
      cases hb
theorem dst_le (ns : List Int) : dst ns ≤ ns.length := firstMet_length_le _ _
theorem dst_iff (ns : List Int) : dst ns = ns.length ↔ ns.Nodup := by
  constructor
  · intro h
    have := firstMet_full ns ns.length (Nat.le_refl _) h
    rw [List.take_length] at this
    exact this
  · intro h
    unfold dst
    rw [RZ.firstMet_nodup h ns.length (Nat.le_refl _), List.take_length]
def tLenSetG (K : PySem.W.Frag) (ta : TE) : TE := fun σ H Q => ta σ H fun x H1 => ∃ (l : Addr) (ns : List Int), x = .ref l ∧ SqL K H1 l (ns.map V.int) ∧ ns.length ≤ 4000 ∧ Q (.int (dst ns : Nat)) H1
theorem pe_lenSetG {X : Cx} {K : PySem.W.Frag} {a : Expr} {ta : TE} {p p2 q pos : Pos} (hK : X.K = K) (hc : X.calm = true) (hg : Gl X "len") (hm : X.mg "len" = none) (hg2 : Gl X "set") (hm2 : X.mg "set" = none) (ha : PE X a ta)
    (na : starEach [a] X.env = (false, eval a X.env) :: starEach [] X.env := by rfl) : PE X (.Call (.Name "len" p) [.Call (.Name "set" p2) [a] [] q] [] pos) (tLenSetG K ta) := by
  subst hK
  refine ⟨fun pins s σ H Q I h => Call_ (ld_blt I hg hm boot_len ?_)⟩
  refine callWith_builtin1 (args_cons (Call_ (ld_blt I hg2 hm2 PyProof.Rows.boot_set ?_)) rfl) rfl rfl
  refine callWith_type1 (args_cons (thn (ha.run pins s σ H _ I h) fun v s1 ⟨x, H1, I1, r1, q1⟩ => args_nil ?_) na) na rfl
  obtain ⟨l, ns, rfl, hq, hl, q1⟩ := q1
  cases r1
  obtain ⟨its, r, pl, hz⟩ := I1.list hq
  have hlen : its.toArray.size = ns.length := by rw [List.size_toArray, ← r.length, List.length_map]
  refine call_set_list (I1.ok.hd hc) pl.isList (by simpa using RZ.intsAre_vals r) (by rw [hlen]; unfold scanBound; omega) fun h' tk hS hk => args_nil ?_
  rw [hlen] at hS
  obtain ⟨o, es, ep, t, ho, hex, hd, _, _, _, hf, hn⟩ := hS
  have I2 : Inv X pins σ H1 { s1 with heap := h', toks := tk } := I1.kept fun b o e => hk b o (Heap.lt_size e) e
  have hle := dst_le ns
  exact call_len_set ho hex hd hf (by rw [hn]; show ((dst ns : Nat) : Int) < _; omega) ⟨.int (dst ns : Nat), H1, I2.tok _, ⟨_, by rw [hn]; rfl⟩, q1⟩
section
variable {K : PySem.W.Frag} {σ : L2.St} {H : Hp} {ta tb te : TE} {a : Addr} {xs : List Int}
theorem ev_lenSet (ha : Ev ta σ H (.ref a)) (h : SqL K H a (xs.map V.int)) (hl : xs.length ≤ 4000) : Ev (tLenSetG K ta) σ H (.int (dst xs : Nat)) := fun H1 e Q q =>
  ha H1 e _ fun H2 e2 => ⟨a, xs, rfl, ex_l (e.trans e2) h, hl, q H2 e2⟩
theorem inV_ints (z : Int) : ∀ ns : List Int, inV (.int z) (ns.map V.int) = decide (z ∈ ns)
  | [] => rfl
  | x :: r => by
    have ih := inV_ints z r
    unfold inV at ih ⊢
    rw [List.map_cons, List.any_cons, ih, Bool.eq_iff_iff]
    show ((x == z) || decide (z ∈ r)) = true ↔ _
    rw [Bool.or_eq_true, beq_iff_eq, decide_eq_true_eq, decide_eq_true_eq, List.mem_cons]
    exact ⟨fun h => h.imp Eq.symm id, fun h => h.imp Eq.symm id⟩
theorem flat_ints (ns : List Int) : (ns.map V.int).all flatV = true := List.all_eq_true.mpr fun v hv => by
  obtain ⟨z, _, rfl⟩ := List.mem_map.mp hv
  rfl
theorem rv_niI {z : Int} (h : SqL K H a (xs.map V.int)) : RV (rIn K true) (.int z) (.ref a) H (.bl (!decide (z ∈ xs))) := by
  have := rv_niL (x := V.int z) h rfl (flat_ints xs)
  rw [inV_ints] at this
  exact this
theorem rv_isInI {z : Int} (h : SqL K H a (xs.map V.int)) : RV (rIn K false) (.int z) (.ref a) H (.bl (decide (z ∈ xs))) := by
  have := rv_isL (x := V.int z) h rfl (flat_ints xs)
  rw [inV_ints] at this
  exact this
/-- a slice of a new list -/
theorem el_slN {tl th : TO} {zs : List V} {lo hi : Option Int} (h : EvL te σ H zs) (h1 : ∀ H1, Ex H H1 → EvO tl σ H1 lo) (h2 : ∀ H1, Ex H H1 → EvO th σ H1 hi) : EvL (tSl (rSlL K) te tl th) σ H (cutV zs lo hi) := fun H1 e Q q =>
  h H1 e _ fun p H2 _ e2 hp => h1 H2 (e.trans e2) H2 (Ex.refl H2) _ fun H3 e3 => h2 H3 ((e.trans e2).trans e3) H3 (Ex.refl H3) _ fun H4 e4 => ⟨p, zs, rfl, sq_of (e4 _ _ (e3 _ _ hp)), fun o ho => q o _ (fresh_back ((e2.trans e3).trans e4) ho) (((e2.trans e3).trans e4).trans (Ex.new ho)) upd_same⟩
theorem shaped_sl {c : Str} (hc : PyData.strOk c = true) (r : List Int) : SeqAt.shaped (.tuple [.str c, ldat r]) = true := by
  have h1 : PyData.canLay0 (ldat r) = true := by
    unfold ldat
    simp only [PyData.canLay0, PySem.W.ke_canLayAll0]
  have h2 : PyData.depth (ldat r) ≤ 1 := by
    unfold ldat
    simp only [PyData.depth, PySem.W.ke_depthAll]
    exact Nat.le_refl _
  simp only [SeqAt.shaped, PyData.canLay0, PyData.canLayAll0, PyData.depth, PyData.depthAll, hc, h1, Bool.and_self, Bool.true_and, decide_eq_true_eq]
  exact decide_eq_true (by omega)
/-- (text, list) against two texts -/
theorem rv_eqTL {t u p : Addr} {c d f : Str} {r : List Int} (h1 : H t = some (.tup [.str c, .ref p])) (hp : Ll H p r) (h2 : H u = some (.tup [.str d, .str f])) (hc : PyData.strOk c = true) (hd : PyData.strOk d = true) (hf : PyData.strOk f = true) (hn : (c == d) = false) : RV (rEqD K) (.ref t) (.ref u) H (.bl false) := fun H1 e Q q => by
  have sh : SeqAt.shaped (.tuple [.str d, .str f]) = true := by
    unfold SeqAt.shaped
    simp [PyData.canLay0, PyData.canLayAll0, PyData.depth, PyData.depthAll, hd, hf]
  have sh2 : SeqAt.shaped (.tuple [.str c, ldat r]) = true := shaped_sl hc r
  have eq1 : PyData.eqv (.tuple [.str c, ldat r]) (.tuple [.str d, .str f]) = false := by
    simp only [PyData.eqv, PyData.eqvAll]
    rw [hn, Bool.false_and]
  refine ⟨.tuple [.str c, ldat r], .tuple [.str d, .str f], .tup (st_of (e _ _ h1)) (.cons (.str c) (.cons (dp_ints (Ll.sq (e _ _ hp))) .nil)), .tup (st_of (e _ _ h2)) (.cons (.str d) (.cons (.str f) .nil)), sh2, sh, ?_⟩
  rw [eq1]
  exact q H1 (Ex.refl H1)
/-- (text, list) against its like -/
theorem rv_neTLL {t u p p' : Addr} {c : Str} {r r' : List Int} (h1 : H t = some (.tup [.str c, .ref p])) (hp : Ll H p r) (h2 : H u = some (.tup [.str c, .ref p'])) (hp' : Ll H p' r') (hc : PyData.strOk c = true) : RV (rNeD K) (.ref t) (.ref u) H (.bl (!decide (r = r'))) := fun H1 e Q q => by
  have sh : ∀ r, SeqAt.shaped (.tuple [.str c, ldat r]) = true := shaped_sl hc
  have eq1 : PyData.eqv (.tuple [.str c, ldat r]) (.tuple [.str c, ldat r']) = decide (r = r') := by
    simp only [PyData.eqv, PyData.eqvAll]
    unfold ldat
    rw [eqv_ints, Bool.eq_iff_iff]
    simp
  refine ⟨.tuple [.str c, ldat r], .tuple [.str c, ldat r'], .tup (st_of (e _ _ h1)) (.cons (.str c) (.cons (dp_ints (Ll.sq (e _ _ hp))) .nil)), .tup (st_of (e _ _ h2)) (.cons (.str c) (.cons (dp_ints (Ll.sq (e _ _ hp'))) .nil)), sh _, sh _, ?_⟩
  rw [eq1]
  exact q H1 (Ex.refl H1)
theorem rv_eqTLL {t u p p' : Addr} {c : Str} {r r' : List Int} (h1 : H t = some (.tup [.str c, .ref p])) (hp : Ll H p r) (h2 : H u = some (.tup [.str c, .ref p'])) (hp' : Ll H p' r') (hc : PyData.strOk c = true) : RV (rEqD K) (.ref t) (.ref u) H (.bl (decide (r = r'))) := fun H1 e Q q => by
  have sh : ∀ r, SeqAt.shaped (.tuple [.str c, ldat r]) = true := shaped_sl hc
  have eq1 : PyData.eqv (.tuple [.str c, ldat r]) (.tuple [.str c, ldat r']) = decide (r = r') := by
    simp only [PyData.eqv, PyData.eqvAll]
    unfold ldat
    rw [eqv_ints, Bool.eq_iff_iff]
    simp
  refine ⟨.tuple [.str c, ldat r], .tuple [.str c, ldat r'], .tup (st_of (e _ _ h1)) (.cons (.str c) (.cons (dp_ints (Ll.sq (e _ _ hp))) .nil)), .tup (st_of (e _ _ h2)) (.cons (.str c) (.cons (dp_ints (Ll.sq (e _ _ hp'))) .nil)), sh _, sh _, ?_⟩
  rw [eq1]
  exact q H1 (Ex.refl H1)
end
end XP
/-! ## Lists of pairs of numbers; enumerate of a list that stands -/
namespace XP
open PySem PySem.Spec PyProof.Rows L2 Evl
/-- pairs of numbers stand at the places zs, the first numbers are rs -/
inductive Prs (H : Hp) : List V → List Int → Prop
  | nil : Prs H [] []
  | cons {t : Addr} {r c : Int} {zs : List V} {rs : List Int} : H t = some (.tup [.int r, .int c]) → Prs H zs rs → Prs H (.ref t :: zs) (r :: rs)
theorem Prs.mono {H H' : Hp} (e : Ex H H') : ∀ {zs : List V} {rs : List Int}, Prs H zs rs → Prs H' zs rs
  | _, _, .nil => .nil
  | _, _, .cons h r => .cons (e _ _ h) (r.mono e)
theorem Prs.len {H : Hp} : ∀ {zs : List V} {rs : List Int}, Prs H zs rs → zs.length = rs.length
  | _, _, .nil => rfl
  | _, _, .cons _ r => congrArg (· + 1) r.len
theorem Prs.upd {H : Hp} {p : Addr} {us : List V} {o : HO} (hp : H p = some (.lst us)) : ∀ {zs : List V} {rs : List Int}, Prs H zs rs → Prs (upd H p o) zs rs
  | _, _, .nil => .nil
  | _, _, .cons h r => .cons ((upd_ne fun e => by rw [e, hp] at h; cases h).trans h) (r.upd hp)
theorem Prs.snoc {H : Hp} {t : Addr} {x c : Int} (h : H t = some (.tup [.int x, .int c])) : ∀ {zs : List V} {rs : List Int}, Prs H zs rs → Prs H (zs ++ [.ref t]) (rs ++ [x])
  | _, _, .nil => .cons h .nil
  | _, _, .cons h' r => .cons h' (r.snoc h)
theorem Prs.at {H : Hp} {z : V} : ∀ {zs : List V} {rs : List Int} {i : Nat}, Prs H zs rs → zs[i]? = some z → ∃ (t : Addr) (r c : Int), z = .ref t ∧ rs[i]? = some r ∧ H t = some (.tup [.int r, .int c])
  | _, _, 0, .cons h _, e => by cases e; exact ⟨_, _, _, rfl, rfl, h⟩
  | _, _, i + 1, .cons _ r, e => r.at (i := i) e
section
variable {K : PySem.W.Frag} {σ : L2.St} {H : Hp} {te tl : TE} {t : TT} {a : Addr} {xs zs : List V} {rs : List Int} {j k : Nat} {vs : List Nat} {D : Ends} {tu tz : TS}
/-- [x for x, y in pairs] -/
theorem el_lcPr (h : Ev tl σ H (.ref a)) (hx : SqL K H a zs) (hp : Prs H zs rs) (hz : rs.length ≤ 40000) (hw : ∀ x y, wipe (((wipe σ vs).set j (some x)).set k (some y)) vs = wipe σ vs) (he : ∀ (r c : Int) H1, Ev te (((wipe σ vs).set j (some (.int r))).set k (some (.int c))) H1 (.int r)) :
    EvL (tLc (iList K tl) (g2n K j k) tYes te vs) σ H (rs.map V.int) := fun H0 e Q q =>
  h H0 e _ fun H1 e1 => by
    have e01 := e.trans e1
    have hl := hp.len
    refine ⟨a, rfl, ⟨zs, ex_l e01 hx⟩, fun Dl hD => ?_⟩
    refine lc_list (xs := zs) (Cw H1 (fun _ => true) (fun i => V.int (rs.getD i 0)) Dl) ⟨hD, Ex.new hD, upd_same⟩ (fun i H' _ p => ex_l (e01.trans p.2.1) hx) (fun i x H' hi p => ?_) (fun H' p => ?_)
    · obtain ⟨t, r, c, rfl, hr, ht⟩ := hp.at hi
      have hlt := lt_of_get hi
      refine g2_at ((e01.trans p.2.1) _ _ ht) ⟨hw _ _, cw_turn p (by omega) et_yes fun _ => ?_⟩
      rw [show rs.getD i 0 = r by simp [List.getD, hr]]
      exact he r c _
    · refine q Dl H' (fresh_back e1 p.1) (e1.trans p.2.1) ?_
      have := p.2.2
      rw [this, given_all, hl]
      congr 2
      refine List.ext_getElem? fun i => ?_
      by_cases hi : i < rs.length
      · rw [List.getElem?_map, List.getElem?_range hi, List.getElem?_map, List.getElem?_eq_getElem hi]
        simp [List.getD, hi]
      · rw [List.getElem?_eq_none (by rw [List.length_map, List.length_range]; omega), List.getElem?_eq_none (by rw [List.length_map]; omega)]
/-- for i, x in enumerate(xs) -/
theorem q_forE {Pv : Nat → L2.St → Hp → Prop} (h : Ev te σ H (.ref a)) (hx : SqL K H a xs) (h0 : ∀ H1, Ex H H1 → Pv 0 σ H1) (hl : ∀ i σ' H', i ≤ xs.length → Pv i σ' H' → SqL K H' a xs)
    (hs : ∀ i x σ' H' H2, xs[i]? = some x → Pv i σ' H' → Ex H' H2 → tu { D with nx := Pv (i + 1), ct := Pv (i + 1), bk := tz D } ((σ'.set j (some (.int (i : Nat)))).set k (some x)) H2) (hd : ∀ σ' H', Pv xs.length σ' H' → tz D σ' H') :
    tSeq (tFor (iEnum K (tCons te tNil)) (g2n K j k) tu) tz D σ H := h H (Ex.refl H) _ fun H1 e =>
  ⟨a, xs, rfl, ex_l e hx, for_enum (D := { D with nx := tz D }) (Pv := Pv) (h0 H1 e) hl (fun i x T σ' H' hx pv hT => hs i x σ' H' _ hx pv (Ex.new hT)) hd⟩
theorem el_repZ {te ti : TE} {σ : L2.St} {H : Hp} {k : Int} (ha : EvL te σ H [V.int 0]) (hb : Ev ti σ H (.int k)) (h0 : 0 ≤ k ∧ k ≤ 100000) : EvL (tOp rRep te ti) σ H ((List.replicate k.toNat (0 : Int)).map V.int) := by
  refine el_is (el_rep ha hb h0 (by show 1 * _ ≤ 100000; omega)) ?_
  rw [List.map_replicate]
  generalize k.toNat = m
  induction m with
  | zero => rfl
  | succ m ih =>
    rw [List.replicate_succ, List.replicate_succ, List.flatten_cons, ih]
    rfl
end
end XP
/-! ## Calls whose arguments are known by a word; a choice of values in front of what follows -/
namespace XP
open PySem PySem.Spec PyProof.Rows L2 Evl
section
variable {K : PySem.W.Frag} {σ : L2.St} {H : Hp} {ta tb te : TE} {t : TT} {tr : TA} {sp : Sp} {dvs zs : List V} {E : XK} {z : V} {P : List V → Hp → Prop}
theorem t_if {c : Bool} {Q : VK} (h : EvT t σ H c) (h1 : c = true → ∀ H1, Ex H H1 → ta σ H1 Q) (h2 : c = false → ∀ H1, Ex H H1 → tb σ H1 Q) : tIf t ta tb σ H Q := h H (Ex.refl H) _ fun H1 e => by
  cases c with
  | true => exact h1 rfl H1 e
  | false => exact h2 rfl H1 e
theorem ev_callN (h : EvL te σ H zs) (hs : ∀ p H1, Ex H H1 → H1 p = some (.lst zs) → SpV sp [.ref p] H1 z) : Ev (tCall sp [] E (tCons te tNil)) σ H z := fun H1 e Q q =>
  h H1 e _ fun p H2 _ e2 hp => hs p H2 (e.trans e2) hp H2 (Ex.refl H2) Q (fun H3 e3 => q H3 (e2.trans e3)) E
theorem ev_callP (h : EvAP tr σ H P) (hs : ∀ vs H1, Ex H H1 → P vs H1 → SpV sp (vs ++ dvs) H1 z) : Ev (tCall sp dvs E tr) σ H z := fun H1 e Q q =>
  h H1 e _ fun vs H2 e2 hp => hs vs H2 (e.trans e2) hp H2 (Ex.refl H2) Q (fun H3 e3 => q H3 (e2.trans e3)) E
theorem eu_callP {ws : List V} (h : EvAP tr σ H P) (hs : ∀ vs H1, Ex H H1 → P vs H1 → SpU sp (vs ++ dvs) H1 ws) : EvU (tCall sp dvs E tr) σ H ws := fun H1 e Q q =>
  h H1 e _ fun vs H2 e2 hp => hs vs H2 (e.trans e2) hp H2 (Ex.refl H2) Q (fun p H3 np e3 h3 => q p H3 (fresh_back e2 np) (e2.trans e3) h3) E
theorem el_callP {ws : List V} (h : EvAP tr σ H P) (hs : ∀ vs H1, Ex H H1 → P vs H1 → SpL sp (vs ++ dvs) H1 ws) : EvL (tCall sp dvs E tr) σ H ws := fun H1 e Q q =>
  h H1 e _ fun vs H2 e2 hp => hs vs H2 (e.trans e2) hp H2 (Ex.refl H2) Q (fun p H3 np e3 h3 => q p H3 (fresh_back e2 np) (e2.trans e3) h3) E
theorem evP_callP {R : V → Hp → Prop} (h : EvAP tr σ H P) (hs : ∀ vs H1, Ex H H1 → P vs H1 → ∀ Q : VK, (∀ v H2, Ex H1 H2 → R v H2 → Q v H2) → ∀ E : XK, sp (vs ++ dvs) H1 Q E) : EvP (tCall sp dvs E tr) σ H R := fun H1 e Q q =>
  h H1 e _ fun vs H2 e2 hp => hs vs H2 (e.trans e2) hp Q (fun v H3 e3 r => q v H3 (e2.trans e3) r) E
end
end XP
/-! ## sorted(set(xs)) of a list of whole numbers with few unlike ones -/
namespace XP
open PySem PySem.Spec PyProof.Rows L2 Evl
section
variable {P : Program} {w : World} {A : Around} {E : Value → Shared → Prop} {s : Shared}
/-- an empty set, just made -/
abbrev freshO (w : World) : Obj := { cls := .type "set", dict := none, data := .set #[] 0 (.fresh 0 0 (!w.params.followText "set-order")) }
set_option maxHeartbeats 4000000 in
/-- set(xs), with what its order needs -/
theorem call_set_listR {l : Addr} {its : Array Value} (ns : List Int) {Q : Value → Shared → Prop} (hh : A.handled = none) (hl : s.heap.IsList l its) (hit : IntsAre its.toList ns) (hb : ns.length + 1 < scanBound)
    (h : ∀ (h' : Heap) (tk c : Nat), SetR w h' s.heap.objs.size (fun j => decide (j ∈ ns)) c → (∀ b o, s.heap.get? b = some o → h'.get? b = some o) → Q (.ref s.heap.objs.size) { s with heap := h', toks := tk }) :
    wpAny (model P w) A (call (.type "set") [.ref l]) Q E s := by
  have len : its.size = ns.length := by
    have q := IntsAre.length hit
    rwa [Array.length_toList] at q
  obtain ⟨cc, tl, mro⟩ := F.called_set.mro
  have k1 := F.called_set.made
  have k2 := F.called_set.sub
  refine wpAny_call (codeAny_of_tree ?_)
  show wpAny _ _ (callAny (.type "set") _) _ _ _
  refine wpAny_pure ⟨Code.quiet_builtin _ (by decide +kernel), codeAny_builtin F.entry_type_call ?_⟩
  rw [Around.under_plain (weight_type_call_type "set" [.ref l] []) rfl]
  have k3 := F.called_set.notType
  have k4 := F.called_set.canCreate
  have k5 := F.typeCall_set_1 (.ref l)
  repeat (any_goals (first | assumption | wp_step))
  refine codeAny_mono (code_set_led1 (.ref l) (E := E) (Q₁ := fun x t => x = .ref s.heap.objs.size ∧ t = { s with heap := s.heap.push (freshO w) }) ⟨rfl, rfl⟩) fun r t hr => ?_
  match r, hr with
  | .error e, hr => exact hr
  | .ok .next, hr => exact hr.elim
  | .ok .brk, hr => exact hr.elim
  | .ok .cont, hr => exact hr.elim
  | .ok (.ret x), hr =>
    obtain ⟨rfl, rfl⟩ := hr
    have gS : (s.heap.push (freshO w)).get? s.heap.objs.size = some (freshO w) := Heap.get?_push_size _ rfl
    have tS : Shared.TypeIs { s with heap := s.heap.push (freshO w) } (.ref s.heap.objs.size) "set" := ⟨_, gS, rfl⟩
    have k6 := F.called_set.init.lookup
    have k7 := F.called_set.init.bind (.ref s.heap.objs.size)
    repeat (any_goals (first | assumption | wp_step))
    refine codeAny_mono (codeAny_call_builtin (R := wants (fun r t => r = .none ∧ ∃ h' tk c, t = { s with heap := h', toks := tk } ∧ SetR w h' s.heap.objs.size (fun j => decide (j ∈ ns)) c ∧ (∀ b o, s.heap.get? b = some o → h'.get? b = some o)) E)
      F.called_set.init.plain F.entry_set_init (check_set_init_1 tS ?_)) fun r t hr => ?_
    · obtain ⟨⟨oc, od, odt, osl⟩, gl, hc, n, hd⟩ := hl
      simp only at hc hd
      subst hc; subst hd
      have gl' : (s.heap.push (freshO w)).get? l = some { cls := .type "list", dict := od, data := .seq its n, slots := osl } := Heap.get?_push_of_some _ gl
      have k8 := F.sub_list_set
      have k9 := F.sub_list_frozenset
      have k10 : (Value.type "list" == Value.type "dict") = false := by decide
      have il : (s.heap.push (freshO w)).IsList l its := ⟨_, gl', rfl, n, rfl⟩
      unfold Builtin.«set.__init__» noKeywords Builtin.Frozenset.updateFrom
      generalize keep : pyIter = it
      wp_walk
      subst keep
      refine wpAny_pyIter_list il (wpAny_bind (wpAny_runValue ?_))
      have lt : l < s.heap.objs.size := Heap.lt_size gl
      have hh3 : A.in1.in1.in1.handled = none := by simp [hh]
      have sz : (s.heap.push (freshO w)).objs.size = s.heap.objs.size + 1 := Heap.size_push ..
      have ne1 : l ≠ (s.heap.push (freshO w)).objs.size := by
        rw [sz]
        exact Nat.ne_of_lt (Nat.lt_succ_of_lt lt)
      have ne2 : s.heap.objs.size ∉ [(s.heap.push (freshO w)).objs.size, l] := by
        rw [sz]
        simp only [List.mem_cons, List.not_mem_nil, or_false, not_or]
        exact ⟨Nat.ne_of_lt (Nat.lt_succ_self _), Nat.ne_of_gt lt⟩
      have val : ∀ (i : Nat) (v : Value), its[i]? = some v → ∃ k t, ns[i]? = some k ∧ v = .int k t := fun i v hv => by
        have hi : i < ns.length := by rw [← len]; exact (Array.getElem?_eq_some_iff.mp hv).1
        obtain ⟨t, e⟩ := IntsAre.int_at hit i v (by rw [Array.getElem?_toList]; exact hv)
        exact ⟨ns.getD i 0, t, by rw [List.getD, List.getElem?_eq_getElem hi]; rfl, e⟩
      refine set_update_ints ((Walks.list hh3 _ l ne1 its).toS) s.heap.objs.size ne2 ns len hb val (its.size - 0) 0 _ (by omega) (Nat.zero_le _) ⟨⟨_, Heap.get?_push_size _ rfl, rfl, rfl⟩, il.push _⟩ ⟨0, Nat.le_refl 0, setR_new_at (Heap.get?_push_of_some _ gS)⟩ ?_
      intro t c hm _ hS
      obtain ⟨h', g', d', tk', os'⟩ := t
      obtain rfl : g' = s.gens := hm.gens
      obtain rfl : d' = s.drawn := hm.drawn
      obtain rfl : os' = s.os := hm.os
      show wpAny _ _ _ _ _ _
      refine wpAny_pure ?_
      show wpAny _ _ (ret Value.none) _ _ _
      refine wpAny_pure ⟨rfl, h', tk', c, rfl, hS, fun b o e => ?_⟩
      have lb : b < s.heap.objs.size := Heap.lt_size e
      refine hm.heap b o ?_ (Heap.get?_push_of_some _ (Heap.get?_push_of_some _ e))
      rw [sz]
      simp only [List.mem_cons, List.not_mem_nil, or_false, not_or]
      exact ⟨Nat.ne_of_lt lb, Nat.ne_of_lt (Nat.lt_succ_of_lt lb)⟩
    · match r, hr with
      | .error e, hr => exact hr
      | .ok .next, hr => exact hr.elim
      | .ok .brk, hr => exact hr.elim
      | .ok .cont, hr => exact hr.elim
      | .ok (.ret x), hr =>
        obtain ⟨rfl, h', tk, c, rfl, hS, hk⟩ := hr
        repeat (any_goals (first | assumption | wp_step))
        exact h _ _ _ hS hk
end
/-- how many a set has: that of some list without repetition -/
theorem setR_list {w : World} {h : Heap} {a : Addr} {S : Int → Bool} {n : Nat} (R : SetR w h a S n) : ∃ us : List Int, us.Nodup ∧ us.length = n ∧ ∀ k, S k = true ↔ k ∈ us := by
  obtain ⟨o, es, ep, t, ho, hex, hd, g, nd, hm, hb, hf, hn, _⟩ := R
  exact ⟨es.toList.map keyOf, nd, by rw [List.length_map, Array.length_toList, hn], hm⟩
def tSortSet (K : PySem.W.Frag) (ta : TE) : TE := fun σ H Q => ta σ H fun x H1 => ∃ (l : Addr) (ns : List Int), x = .ref l ∧ SqL K H1 l (ns.map V.int) ∧ ns.length ≤ 4000 ∧ (∀ us : List Int, us.Nodup → (∀ k ∈ us, k ∈ ns) → us.length < 64) ∧
  ∀ (us : List Int) (p : Addr), us.Pairwise (· < ·) → (∀ k, k ∈ us ↔ k ∈ ns) → H1 p = none → Q (.ref p) (upd H1 p (.lst (us.map V.int)))
theorem pe_sortSet {X : Cx} {K : PySem.W.Frag} {a : Expr} {ta : TE} {p p2 q pos : Pos} (hK : X.K = K) (hc : X.calm = true) (hg : Gl X "sorted") (hm : X.mg "sorted" = none) (hg2 : Gl X "set") (hm2 : X.mg "set" = none) (ha : PE X a ta)
    (na : starEach [a] X.env = (false, eval a X.env) :: starEach [] X.env := by rfl) : PE X (.Call (.Name "sorted" p) [.Call (.Name "set" p2) [a] [] q] [] pos) (tSortSet K ta) := by
  subst hK
  refine ⟨fun pins s σ H Q I h => Call_ (ld_blt I hg hm (by decide +kernel : bootBuiltins "sorted" = some (.builtin "sorted")) ?_)⟩
  refine callWith_builtin1 (args_cons (Call_ (ld_blt I hg2 hm2 PyProof.Rows.boot_set ?_)) rfl) rfl rfl
  refine callWith_type1 (args_cons (thn (ha.run pins s σ H _ I h) fun v s1 ⟨x, H1, I1, r1, q1⟩ => args_nil ?_) na) na rfl
  obtain ⟨l, ns, rfl, hq, hl, few, q1⟩ := q1
  cases r1
  obtain ⟨its, r, pl, hz⟩ := I1.list hq
  refine call_set_listR ns (I1.ok.hd hc) pl.isList (by simpa using RZ.intsAre_vals r) (by unfold scanBound; omega) fun h' tk c hS hk => args_nil ?_
  obtain ⟨us, u1, u2, u3⟩ := setR_list hS
  have hc64 : c < 64 := by
    rw [← u2]
    exact few us u1 fun k hk => of_decide_eq_true ((u3 k).mpr hk)
  have I2 : Inv X pins σ H1 { s1 with heap := h', toks := tk } := I1.kept hk
  have hS2 : SetR X.w ({ s1 with heap := h', toks := tk } : Shared).heap s1.heap.objs.size (fun j => decide (j ∈ ns)) c := hS
  generalize ({ s1 with heap := h', toks := tk } : Shared) = s2 at I2 hS2 ⊢
  refine L2.sorted_set hS2 (I2.ok.hd hc) hc64 fun t o out cc vs k g os ho hg' hi hs hmm hl' => ?_
  have fewv : vs.length ≤ sizeLine := by rw [sizeLine_eq]; omega
  have hn : H1 o = none := I2.hok.fresh ho
  have J : Inv X pins σ (upd H1 o (.lst (vs.map V.int))) { s2 with heap := t.heap, gens := t.gens, drawn := t.drawn, toks := t.toks } :=
    I2.call (ch := []) (Un.laid k ho hn) (I2.hok.laid k ho ⟨by rw [List.length_map]; exact fewv, out.toList, cc, vals_of_ints hi, hg'⟩) (by rw [g]; exact I2.bare) (fun _ z => nomatch z)
  have e : t = { s2 with heap := t.heap, gens := t.gens, drawn := t.drawn, toks := t.toks } := by
    cases t
    cases s2
    cases os
    rfl
  rw [e]
  exact ⟨.ref o, _, J, rfl, q1 vs o hs (fun k => by rw [hmm k, decide_eq_true_eq]) hn⟩
end XP
/-! ## sorted downwards; list.count; extend; comprehensions of two fors; ranges by steps; tuples that are walked -/
namespace XP
open PySem PySem.Spec PyProof.Rows L2 Evl
/-- downwards -/
def dsc (l : List Int) : List Int := l.mergeSort fun a b => decide (b ≤ a)
theorem dsc_perm (l : List Int) : (dsc l).Perm l := List.mergeSort_perm _ _
theorem dsc_desc (l : List Int) : (dsc l).Pairwise fun a b => b ≤ a := by
  have := List.pairwise_mergeSort (le := fun a b : Int => decide (b ≤ a)) (fun a b c h1 h2 => by simp at *; omega) (fun a b => by simp; omega) l
  exact this.imp fun h => of_decide_eq_true h
theorem desc_unique {a b : List Int} (h : a.Perm b) (ha : a.Pairwise fun x y => y ≤ x) (hb : b.Pairwise fun x y => y ≤ x) : a = b :=
  h.eq_of_pairwise (le := fun x y => y ≤ x) (fun x y _ _ h1 h2 => by omega) ha hb
theorem dsc_eq {a l : List Int} (h : a.Perm l) (ha : a.Pairwise fun x y => y ≤ x) : a = dsc l := desc_unique (h.trans (dsc_perm l).symm) ha (dsc_desc l)
theorem asc_unique {a b : List Int} (h : a.Perm b) (ha : a.Pairwise fun x y => x ≤ y) (hb : b.Pairwise fun x y => x ≤ y) : a = b :=
  h.eq_of_pairwise (le := fun x y => x ≤ y) (fun x y _ _ h1 h2 => by omega) ha hb
section
variable {X : Cx} {K : PySem.W.Frag}
theorem lcountK (h : X.K = K) : MtR X "list.count" (rCntI K) := h ▸ mt_lcount
theorem sortedRK {b : Bool} (h : X.K = K) : CallRK X (.builtin "sorted") [Str.ofString "reverse"] (rSortedKw K b [.bl b]) := h ▸ cr_sortedRev
theorem castBM {T : String} {r : V → List V → Hp → VK → Prop} {to : TE} {t : TA} {e : Expr} (h : X.K = K) (p : PE X e (tBM X.K T r to t)) : PE X e (tBM K T r to t) := h ▸ p
theorem pi_tupK {tg l : Expr} {tl : TE} (h : X.K = K) (hl : PE X l tl) : PI X tg l (iTup K tl) := h ▸ pi_tup hl
end
section
variable {K : PySem.W.Frag} {σ : L2.St} {H : Hp} {ta tb te tl tl2 : TE} {t : TT} {tr : TA} {a : Addr} {xs ns : List Int} {j k k2 : Nat} {vs vs1 : List Nat} {D : Ends} {tu tz : TS} {g : TG}
theorem ev_cntI {l : Addr} {z : Int} (ha : Ev ta σ H (.ref l)) (hl : Ll H l ns) (ht : EvA tr σ H [.int z]) : Ev (tBM K "list" (rCntI K) ta tr) σ H (.int ((ns.count z : Nat) : Int)) :=
  ev_bmL ha (Ll.sq hl) ht fun H1 e _ q => ⟨l, ns, z, rfl, rfl, ex_l e (Ll.sq hl), q⟩
theorem el_sortR (h : EvA tr σ H [.ref a]) (hx : SqL K H a (xs.map V.int)) : EvL (tCKw (rSortedKw K true [.bl true]) tr (tCons (tC (.bl true)) tNil)) σ H ((dsc xs).map V.int) := fun H1 e Q q =>
  h H1 e _ fun H2 e2 => ⟨a, xs, rfl, rfl, ex_l (e.trans e2) hx, fun ys p hp ho hn => by
    have ho' : ys.Pairwise fun x y => y ≤ x := by
      unfold OrdB at ho
      rw [if_pos rfl] at ho
      exact ho.imp fun h => h
    rw [dsc_eq hp ho']
    exact q p _ (fresh_back e2 hn) (e2.trans (Ex.new hn)) upd_same⟩
/-- sorted(set(xs)) -/
theorem el_sortSet {us : List Int} (h : Ev ta σ H (.ref a)) (hx : SqL K H a (xs.map V.int)) (hl : xs.length ≤ 4000) (few : ∀ us : List Int, us.Nodup → (∀ k ∈ us, k ∈ xs) → us.length < 64) (hu : us.Pairwise (· < ·)) (hm : ∀ k, k ∈ us ↔ k ∈ xs) :
    EvL (tSortSet K ta) σ H (us.map V.int) := fun H1 e Q q =>
  h H1 e _ fun H2 e2 => ⟨a, xs, rfl, ex_l (e.trans e2) hx, hl, few, fun ws p hw hwm hn => by
    have nd : ∀ {l : List Int}, l.Pairwise (· < ·) → l.Nodup := fun h => h.imp fun h => by
      intro z
      omega
    have hp : ws.Perm us := (List.perm_ext_iff_of_nodup (nd hw) (nd hu)).mpr fun z => by rw [hwm, hm]
    rw [asc_unique hp (hw.imp fun h => by omega) (hu.imp fun h => by omega)]
    exact q p _ (fresh_back e2 hn) (e2.trans (Ex.new hn)) upd_same⟩
theorem s_ext {l : Addr} {zs ws : List V} (ha : Ev ta σ H (.ref l)) (hl : H l = some (.lst zs)) (h : EvL te σ H ws) (hz : zs.length + ws.length ≤ 100000) (k : ∀ H1, Ex H H1 → D.nx σ (upd H1 l (.lst (zs ++ ws)))) : tDrop (tBM K "list" rExtend ta (tCons te tNil)) D σ H :=
  ha H (Ex.refl H) _ fun H1 e1 => ⟨.inl ⟨rfl, zs, sq_of (e1 l _ hl)⟩, h H1 e1 _ fun p H2 _ e2 hp => ⟨l, p, zs, ws, rfl, rfl, (e1.trans e2) l _ hl, hp, sz_of hz, k H2 (e1.trans e2)⟩⟩
theorem s_forR3 {i0 n0 c0 : Int} {m : Nat} (h : EvA tr σ H [.int i0, .int n0, .int c0]) (hr : RgC i0 n0 c0 m) (Pv : Nat → L2.St → Hp → Prop) (h0 : ∀ H1, Ex H H1 → Pv 0 σ H1)
    (hs : ∀ (i : Nat) σ' H', i < m → Pv i σ' H' → tu { D with nx := Pv (i + 1), ct := Pv (i + 1), bk := D.nx } (σ'.set j (some (.int (i0 + (i : Nat) * c0)))) H') (hd : ∀ σ' H', Pv m σ' H' → D.nx σ' H') : tFor (iRng3 tr) (gName j) tu D σ H :=
  h H (Ex.refl H) _ fun H1 e => ⟨i0, n0, c0, m, rfl, hr, for_rangeC Pv (h0 H1 e) (fun i σ' H' hi p => hs i σ' H' hi p) hd⟩
theorem q_forR3 {i0 n0 c0 : Int} {m : Nat} (h : EvA tr σ H [.int i0, .int n0, .int c0]) (hr : RgC i0 n0 c0 m) (Pv : Nat → L2.St → Hp → Prop) (h0 : ∀ H1, Ex H H1 → Pv 0 σ H1)
    (hs : ∀ (i : Nat) σ' H', i < m → Pv i σ' H' → tu { D with nx := Pv (i + 1), ct := Pv (i + 1), bk := tz D } (σ'.set j (some (.int (i0 + (i : Nat) * c0)))) H') (hd : ∀ σ' H', Pv m σ' H' → tz D σ' H') : tSeq (tFor (iRng3 tr) (gName j) tu) tz D σ H :=
  s_forR3 (D := { D with nx := tz D }) h hr Pv h0 hs hd
/-- over a tuple of which something is known -/
theorem q_forTP {P : V → Hp → Prop} (h : EvP tl σ H P) (hk : ∀ v H1, Ex H H1 → P v H1 → ∃ (p : Addr) (zs : List V) (Pv : Nat → L2.St → Hp → Prop), v = .ref p ∧ H1 p = some (.tup zs) ∧ Pv 0 σ H1 ∧ (∀ i σ' H', i ≤ zs.length → Pv i σ' H' → SqT K H' p zs) ∧
    (∀ i x σ' H', zs[i]? = some x → Pv i σ' H' → g x σ' H' fun σ2 H2 => tu { D with nx := Pv (i + 1), ct := Pv (i + 1), bk := tz D } σ2 H2) ∧ ∀ σ' H', Pv zs.length σ' H' → tz D σ' H') : tSeq (tFor (iTup K tl) g tu) tz D σ H :=
  h H (Ex.refl H) _ fun v H1 e p => by
    obtain ⟨a, zs, Pv, rfl, hz, h0, hl, hs, hd⟩ := hk v H1 e p
    exact ⟨a, rfl, ⟨zs, st_of hz⟩, for_tup (D := { D with nx := tz D }) Pv h0 hl hs hd⟩
/-- [.. for x in a new list for y in a new list] -/
theorem el_lc2I (F : Int → List Int) (G : Int → Int → Int) (h : EvL tl σ H (ns.map V.int)) (hlen : (ns.flatMap fun z => (F z).map (G z)).length ≤ 40000) (hw : ∀ x, wipe ((wipe σ vs).set k (some x)) vs = wipe σ vs)
    (hw1 : ∀ x y, wipe ((wipe ((wipe σ vs).set k (some x)) vs1).set k2 (some y)) vs1 = wipe ((wipe σ vs).set k (some x)) vs1)
    (h2 : ∀ (z : Int) H1, Ex H H1 → z ∈ ns → EvL tl2 ((wipe σ vs).set k (some (.int z))) H1 ((F z).map V.int))
    (he : ∀ (z y : Int) H1, Ex H H1 → z ∈ ns → y ∈ F z → Ev te ((wipe ((wipe σ vs).set k (some (.int z))) vs1).set k2 (some (.int y))) H1 (.int (G z y))) :
    EvL (tLc2 (iList K tl) (gName k) tYes (iList K tl2) (gName k2) tYes te vs vs1) σ H ((ns.flatMap fun z => (F z).map (G z)).map V.int) := fun H0 e Q q =>
  h H0 e _ fun a H1 _ e1 hx => by
    have e01 := e.trans e1
    have part : ∀ (i : Nat) (z : Int) (l : List Int), ns[i]? = some z → l.length ≤ (F z).length → ((ns.take i).flatMap fun z => (F z).map (G z)).length + l.length ≤ 40000 := fun i z l hz hl => by
      have hi := lt_of_get hz
      have ed : ns = ns.take i ++ (z :: ns.drop (i + 1)) := by rw [← drop_one hz, List.take_append_drop]
      rw [ed, List.flatMap_append, List.length_append, List.flatMap_cons, List.length_append, List.length_map] at hlen
      omega
    refine ⟨a, rfl, ⟨ns.map V.int, sq_of hx⟩, fun Dl hD => ⟨fun i m H' => m = ns.length - i ∧ i ≤ ns.length ∧ Ex H1 H' ∧ H' Dl = some (.lst (((ns.take i).flatMap fun z => (F z).map (G z)).map V.int)), ⟨ns.length, rfl, Nat.zero_le _, Ex.new hD, upd_same⟩, ?_⟩⟩
    rintro i m H' ⟨rfl, hi, eH, hDl⟩
    by_cases hlt : i < ns.length
    · have hz : ns[i]? = some ns[i] := List.getElem?_eq_getElem hlt
      generalize ns[i] = z at hz
      have hg : (ns.map V.int)[i]? = some (.int z) := by rw [List.getElem?_map, hz]; rfl
      have hzm := List.mem_of_getElem? hz
      refine .inr ⟨⟨ns.map V.int, .int z, sq_of (eH _ _ hx), hg⟩, fun H' => Ex H1 H' ∧ H' Dl = some (.lst (((ns.take (i + 1)).flatMap fun z => (F z).map (G z)).map V.int)), fun H' p' => ⟨ns.length - (i + 1), by omega, rfl, hlt, p'⟩, fun x H2 y => ?_⟩
      obtain ⟨rfl, hy⟩ := y
      have ex : x = .int z := by
        have := hy _ (sq_of (eH _ _ hx))
        rw [hg] at this
        exact (Option.some.inj this).symm
      subst ex
      refine ⟨hw _, et_yes H2 (Ex.refl H2) _ fun H3 e3 => ?_⟩
      rw [if_pos rfl]
      have e13 := eH.trans e3
      refine h2 z H3 (e01.trans e13) hzm H3 (Ex.refl H3) _ fun a2 H4 ha2 e4 hx2 => ⟨a2, rfl, ⟨_, sq_of hx2⟩, fun j k H' => k = (F z).length - j ∧ j ≤ (F z).length ∧ Ex H1 H' ∧ H' a2 = some (.lst ((F z).map V.int)) ∧ H' Dl = some (.lst (((ns.take i).flatMap fun z => (F z).map (G z)).map V.int ++ (((F z).take j).map (G z)).map V.int)), ⟨(F z).length, rfl, Nat.zero_le _, e13.trans e4, hx2, ?_⟩, ?_⟩
      · rw [(e3.trans e4) _ _ hDl, List.take_zero]
        simp
      · have nDa : a2 ≠ Dl := fun w => by
          have := e3 _ _ hDl
          rw [← w, ha2] at this
          cases this
        rintro j k' H5 ⟨rfl, hj, eH5, ha5, hD5⟩
        by_cases hlt2 : j < (F z).length
        · have hy2 : (F z)[j]? = some (F z)[j] := List.getElem?_eq_getElem hlt2
          generalize (F z)[j] = y at hy2
          have hg2 : ((F z).map V.int)[j]? = some (.int y) := by rw [List.getElem?_map, hy2]; rfl
          refine .inr ⟨⟨(F z).map V.int, .int y, sq_of ha5, hg2⟩, fun H' => Ex H1 H' ∧ H' a2 = some (.lst ((F z).map V.int)) ∧ H' Dl = some (.lst (((ns.take i).flatMap fun z => (F z).map (G z)).map V.int ++ (((F z).take (j + 1)).map (G z)).map V.int)), fun H' p' => ⟨(F z).length - (j + 1), by omega, rfl, hlt2, p'⟩, fun x H6 yy => ?_⟩
          obtain ⟨rfl, hyy⟩ := yy
          have ex : x = .int y := by
            have := hyy _ (sq_of ha5)
            rw [hg2] at this
            exact (Option.some.inj this).symm
          subst ex
          refine ⟨hw1 _ _, et_yes H6 (Ex.refl H6) _ fun H7 e7 => ?_⟩
          rw [if_pos rfl]
          refine he z y H7 (e01.trans (eH5.trans e7)) hzm (List.mem_of_getElem? hy2) H7 (Ex.refl H7) _ fun H8 e8 => ⟨_, (e7.trans e8) _ _ hD5, sz_lt ?_, ((eH5.trans e7).trans e8).mut hD, ?_, ?_⟩
          · have := part i z ((F z).take j) hz (by rw [List.length_take]; omega)
            rw [List.length_append, List.length_map, List.length_map, List.length_map]
            omega
          · rw [upd_ne nDa]
            exact (e7.trans e8) _ _ ha5
          · rw [upd_same, take_one hy2, List.map_append, List.map_append, List.append_assoc]
            rfl
        · obtain rfl : j = (F z).length := by omega
          refine .inl ⟨⟨_, sq_of ha5, by rw [List.length_map]; exact Nat.le_refl _⟩, eH5, ?_⟩
          rw [hD5, List.take_length, take_one hz, List.flatMap_append, List.map_append]
          simp
    · obtain rfl : i = ns.length := by omega
      refine .inl ⟨⟨_, sq_of (eH _ _ hx), by rw [List.length_map]; exact Nat.le_refl _⟩, ?_⟩
      rw [List.take_length] at hDl
      exact q Dl H' (fresh_back e1 hD) (e1.trans eH) hDl
end
/-! few unlike parts -/
theorem four_sum : ∀ {l : List Int}, (∀ x ∈ l, 1 ≤ x) → (4 : Int) * (l.filter fun z => decide (4 ≤ z)).length ≤ l.sum
  | [], _ => by simp
  | x :: r, h => by
    have ih := four_sum (l := r) fun y hy => h y (List.mem_cons_of_mem _ hy)
    have h1 := h x List.mem_cons_self
    rw [List.sum_cons]
    by_cases c : 4 ≤ x
    · rw [List.filter_cons, if_pos (decide_eq_true c), List.length_cons]
      omega
    · rw [List.filter_cons, if_neg (by simpa using c)]
      omega
theorem len_split (p : Int → Bool) : ∀ l : List Int, l.length = (l.filter p).length + (l.filter fun z => !p z).length
  | [] => rfl
  | x :: r => by
    have ih := len_split p r
    cases h : p x with
    | true =>
      rw [List.filter_cons, if_pos h, List.filter_cons, if_neg (by simp [h]), List.length_cons, List.length_cons]
      omega
    | false =>
      rw [List.filter_cons, if_neg (by simp [h]), List.filter_cons, if_pos (by simp [h]), List.length_cons, List.length_cons]
      omega
theorem few_of {l : List Int} (h : ∀ x ∈ l, 1 ≤ x) (hs : l.sum ≤ 200) (us : List Int) (hn : us.Nodup) (hm : ∀ k ∈ us, k ∈ l) : us.length < 64 := by
  have h1 := four_sum h
  have e : us.length = (us.filter fun z => decide (4 ≤ z)).length + (us.filter fun z => !decide (4 ≤ z)).length := len_split (fun z => decide (4 ≤ z)) us
  have h2 : (us.filter fun z => decide (4 ≤ z)).length ≤ (l.filter fun z => decide (4 ≤ z)).length := (hn.sublist List.filter_sublist).length_le_of_subset fun z hz => by
    obtain ⟨k1, k2⟩ := List.mem_filter.mp hz
    exact List.mem_filter.mpr ⟨hm z k1, k2⟩
  have h3 : (us.filter fun z => !decide (4 ≤ z)).length ≤ ([1, 2, 3] : List Int).length := (hn.sublist List.filter_sublist).length_le_of_subset fun z hz => by
    obtain ⟨k1, k2⟩ := List.mem_filter.mp hz
    have := h z (hm z k1)
    simp at k2
    simp
    omega
  simp only [List.length_cons, List.length_nil] at h3
  omega
end XP
/-! ## Lists of lists, further: what a call hands back, items of items -/
namespace XP
open PySem PySem.Spec PyProof.Rows L2 Evl
/-- a list of lists of numbers, new -/
def RetLL (L : List (List Int)) (H : Hp) (Q : VK) : Prop := ∀ (p : Addr) (zs : List V) (H2 : Hp), H p = none → Ex H H2 → H2 p = some (.lst zs) → Lls H2 zs L → Q (.ref p) H2
def IsLL (L : List (List Int)) (v : V) (H : Hp) : Prop := ∃ (p : Addr) (zs : List V), v = .ref p ∧ H p = some (.lst zs) ∧ Lls H zs L
theorem IsLL.mono {L : List (List Int)} : Mono (IsLL L) := fun _ _ _ e ⟨p, zs, h1, h2, h3⟩ => ⟨p, zs, h1, e _ _ h2, h3.mono e⟩
def IsL (l : List Int) (v : V) (H : Hp) : Prop := ∃ p : Addr, v = .ref p ∧ Ll H p l
theorem IsL.mono {l : List Int} : Mono (IsL l) := fun _ _ _ e ⟨p, h1, h2⟩ => ⟨p, h1, e _ _ h2⟩
section
variable {K : PySem.W.Frag} {σ : L2.St} {H : Hp} {ta tb te : TE} {L : List (List Int)} {l : List Int}
/-- rows[i] -/
theorem evP_row {i : Nat} (h : EvP ta σ H (IsLL L)) (hb : ∀ H1, Ex H H1 → Ev tb σ H1 (.int (i : Int))) (hi : L[i]? = some l) : EvP (tOp (rIxL K) ta tb) σ H (IsL l) :=
  evP_ixP (P := IsLL L) h (fun v H1 e _ => hb H1 e) (fun v H1 H2 e r => IsL.mono v H1 H2 e r) fun v H1 e hv => by
    obtain ⟨p, zs, rfl, hz, hL⟩ := hv
    obtain ⟨q, h1, h2⟩ := hL.get hi
    exact ⟨p, zs, .ref q, rfl, hz, atI_nat h1, q, rfl, h2⟩
/-- row[i] of a row that is known -/
theorem ev_item {i : Nat} {x : Int} (h : EvP ta σ H (IsL l)) (hb : ∀ H1, Ex H H1 → Ev tb σ H1 (.int (i : Int))) (hi : l[i]? = some x) : Ev (tOp (rIxL K) ta tb) σ H (.int x) :=
  ev_opP1 h (fun w H1 e _ => hb H1 e) fun w H1 H2 e hw e2 => by
    obtain ⟨p, rfl, hp⟩ := hw
    exact rv_ixL (Ll.sq (e2 _ _ hp)) (atI_nat (by rw [List.getElem?_map, hi]; rfl))
theorem evP_LL {p : Addr} {zs : List V} {i : Nat} (hσ : σ[i]? = some (some (.ref p))) (hp : H p = some (.lst zs)) (hL : Lls H zs L) : EvP (tVar i) σ H (IsLL L) := fun H1 e Q q => ⟨.ref p, hσ, q _ H1 (Ex.refl H1) ⟨p, zs, rfl, e _ _ hp, hL.mono e⟩⟩
theorem evP_callLL {sp : Sp} {E : XK} {tr : TA} {vs : List V} (h : EvA tr σ H vs) (hs : ∀ H1, Ex H H1 → ∀ Q : VK, RetLL L H1 Q → ∀ E : XK, sp (vs ++ []) H1 Q E) : EvP (tCall sp [] E tr) σ H (IsLL L) :=
  evP_call h fun H1 e Q q E => hs H1 e Q (fun p zs H2 _ e2 hp hL => q _ _ e2 ⟨p, zs, rfl, hp, hL⟩) E
/-- list(e) of a list that is known -/
theorem el_callB1 (h : EvP te σ H (IsL l)) : EvL (tCB (rListK K) (tCons te tNil)) σ H (l.map V.int) := fun H1 e Q q =>
  h H1 e _ fun v H2 e2 hv => by
    obtain ⟨p, rfl, hp⟩ := hv
    exact ⟨p, _, rfl, .inl (Ll.sq hp), fun o ho => q o _ (fresh_back e2 ho) (e2.trans (Ex.new ho)) upd_same⟩
theorem s_augL' {D : Ends} {lo : Addr} {ns : List Int} {f : Int → Int → Int} {k : Nat} {a b : Int} (ho : Ev ta σ H (.ref lo)) (hi : Ev tb σ H (.int (k : Int))) (he : Ev te σ H (.int b)) (hl : Ll H lo ns) (hk : ns[k]? = some a)
    (g : ∀ H1, Ex H H1 → D.nx σ (upd H1 lo (.lst ((ns.set k (f a b)).map V.int)))) : tAugL K ta tb te f D σ H :=
  ho H (Ex.refl H) _ fun H1 e1 => hi H1 e1 _ fun H2 e2 => ⟨lo, ns.map V.int, k, .int a, rfl, rfl, Ll.sq ((e1.trans e2) _ _ hl), by omega, by rw [Int.toNat_natCast, List.getElem?_map, hk]; rfl,
    he H2 (e1.trans e2) _ fun H3 e3 => ⟨a, b, rfl, rfl, lo, ns.map V.int, k, k, rfl, rfl, (((e1.trans e2).trans e3) _ _ hl), Evl.ixN_nat (by rw [List.length_map]; exact (List.getElem?_eq_some_iff.mp hk).1), by
      rw [← List.map_set] at *
      exact g H3 ((e1.trans e2).trans e3)⟩⟩
theorem ne_fresh0' {p q : Addr} {o : HO} (h : H p = some o) (hq : H q = none) : p ≠ q := fun z => by
  rw [z, hq] at h
  cases h
theorem rc_int {b : Bool} : RC (fun xs H Q => (∃ i, xs = [.int i] ∧ Q (.int i) H) ∨ ∃ k, xs = [.bl k] ∧ Q (.int (if k then 1 else 0)) H) [.bl b] H (.int (if b then 1 else 0)) := fun H1 _ _ q => .inr ⟨b, rfl, q H1 (Ex.refl H1)⟩
end
end XP
/-! ## Lists of numbers by their order: x < y, and sorted of a list of them -/
namespace XP
open PySem PySem.Spec PyProof.Rows L2 Evl
theorem lt_rows (xs ys : List Int) : PySem.W.dataLt (.list (xs.map .int)) (.list (ys.map .int)) = decide (xs < ys) := by
  have h := congrFun (congrFun (PySem.W.dataLe_rows (β := List Int) id) ys) xs
  have h' : (!PySem.W.dataLt (.list (xs.map .int)) (.list (ys.map .int))) = decide (ys ≤ xs) := h
  have h2 : PySem.W.dataLt (.list (xs.map .int)) (.list (ys.map .int)) = !decide (ys ≤ xs) := by rw [← h', Bool.not_not]
  rw [h2, Bool.eq_iff_iff]
  simp
theorem depth_ints (xs : List Int) : (PyData.list (xs.map .int)).depth = 1 := by
  simp only [PyData.depth, PySem.W.ke_depthAll]
theorem alike_rows (xs ys : List Int) : PySem.W.alike (.list (xs.map .int)) (.list (ys.map .int)) = true := by
  rw [PySem.W.alike]
  exact PySem.W.alike_ints xs ys
def rLtL (K : PySem.W.Frag) : R2 := fun x y H Q => ∃ (a b : Addr) (xs ys : List Int), x = .ref a ∧ y = .ref b ∧ SqL K H a (xs.map V.int) ∧ SqL K H b (ys.map V.int) ∧ Q (.bl (decide (xs < ys))) H
section
variable {X : Cx} {K : PySem.W.Frag}
theorem op_ltL (hK : X.K = K) (hu : X.A.units + 64 < cLine) : OpR X (compareOp .Lt) (rLtL K) := by
  subst hK
  intro pins s σ H x y v u Q I rx ry h
  obtain ⟨a, b, xs, ys, rfl, rfl, h1, h2, q⟩ := h
  obtain ⟨as, r1⟩ := Dp.reads I _ _ v (dp_ints h1) rx
  obtain ⟨bs, r2⟩ := Dp.reads I _ _ u (dp_ints h2) ry
  refine PySem.W.rcLt_alike _ _ X.A s v u as bs r1 r2 (alike_rows xs ys) (fun z => nomatch z) (by rw [depth_ints, depth_ints]; show X.A.units + min 1 1 < cLine; omega) X.prog X.w X.xe _ ?_
  rw [lt_rows]
  exact ⟨.bl _, H, I, rfl, q⟩
def rSortLL (K : PySem.W.Frag) : List V → Hp → VK → Prop := fun vs H Q => ∃ (a : Addr) (zs : List V) (xss : List (List Int)), vs = [.ref a] ∧ SqL K H a zs ∧ Lls H zs xss ∧ ∀ (ws : List V) (yss : List (List Int)) (p : Addr), Lls H ws yss → yss.Perm xss → yss.Pairwise (· ≤ ·) → H p = none → Q (.ref p) (upd H p (.lst ws))
/-- the places, told with what stands there -/
theorem Lls.pairs {H : Hp} : ∀ {zs : List V} {xss : List (List Int)}, Lls H zs xss → ∃ bs : List (Addr × List Int), zs = bs.map (fun b => V.ref b.1) ∧ xss = bs.map (·.2) ∧ ∀ b ∈ bs, Ll H b.1 b.2
  | _, _, .nil => ⟨[], rfl, rfl, fun b hb => by cases hb⟩
  | _, _, .cons (p := p) (xs := xs) h r => by
    obtain ⟨bs, e1, e2, e3⟩ := r.pairs
    refine ⟨(p, xs) :: bs, by rw [e1]; rfl, by rw [e2]; rfl, fun b hb => ?_⟩
    rcases List.mem_cons.mp hb with e | hb
    · rw [e]
      exact h
    · exact e3 b hb
theorem Lls.of {H : Hp} : ∀ {bs : List (Addr × List Int)}, (∀ b ∈ bs, Ll H b.1 b.2) → Lls H (bs.map fun b => V.ref b.1) (bs.map (·.2))
  | [], _ => .nil
  | b :: r, h => .cons (h b List.mem_cons_self) (Lls.of fun c hc => h c (List.mem_cons_of_mem _ hc))
theorem vals_pairs : ∀ {bs : List (Addr × List Int)} {us : List Value}, Vals (bs.map fun b => V.ref b.1) us → PySem.W.EachIs (fun v (b : Addr × List Int) => v = Value.ref b.1) us bs
  | [], _, .nil => .nil
  | b :: r, _, .cons h t => by
    have h' : _ = Value.ref b.1 := h
    exact .cons h' (vals_pairs t)
theorem pairs_vals : ∀ {bs : List (Addr × List Int)} {us : List Value}, PySem.W.EachIs (fun v (b : Addr × List Int) => v = Value.ref b.1) us bs → Vals (bs.map fun b => V.ref b.1) us
  | [], _, .nil => .nil
  | _ :: _, _, .cons h t => .cons h (pairs_vals t)
theorem cr_sortLL (hK : X.K = K) (hu : X.A.units + 64 < cLine) : CallR X (.builtin "sorted") (rSortLL K) := by
  subst hK
  intro pins s σ H vs us Q I r h
  obtain ⟨a, zs, xss, rfl, hs, hL, q⟩ := h
  obtain ⟨bs, rfl, rfl, hb⟩ := hL.pairs
  obtain ⟨its, rv, hl, hz⟩ := I.list hs
  rw [Vals.ref1 r]
  have hen : ∀ b ∈ bs, ∀ v, v = Value.ref b.1 → ∃ as, Reads s.heap v (.list (b.2.map .int)) as := fun b hm v hv => Dp.reads I _ (.ref b.1) v (dp_ints (Ll.sq (hb b hm))) hv
  have each : ∀ {bs' : List (Addr × List Int)} {us : List Value}, (∀ b ∈ bs', b ∈ bs) → PySem.W.EachIs (fun v (b : Addr × List Int) => v = Value.ref b.1) us bs' → PySem.W.EachIs (fun v (b : Addr × List Int) => ∃ as, Reads s.heap v (.list (b.2.map .int)) as) us bs' := by
    intro bs' us hsub e
    induction e with
    | nil => exact .nil
    | cons h _ ih => exact .cons (hen _ (hsub _ List.mem_cons_self) _ h) (ih fun b hb => hsub b (List.mem_cons_of_mem _ hb))
  have e1 := vals_pairs rv
  refine PySem.W.sorted_data (enc := fun b : Addr × List Int => .list (b.2.map .int)) hl.isList e1 (each (fun b h => h) e1) (PySem.W.AllAlike.of fun b b' => alike_rows _ _) (PySem.W.Sortable.others fun b => ⟨(fun z => nomatch z), fun xs z => nomatch z⟩) (by rw [List.length_map] at hz; exact hz)
    (fun b _ => by show X.A.units + 2 + (PyData.list (b.2.map .int)).depth < cLine; rw [depth_ints]; omega) fun out hlen hout => ?_
  rw [PySem.W.dataLe_rows (fun b : Addr × List Int => b.2)] at hout
  generalize hsrt : bs.mergeSort (fun p q => decide (p.2 ≤ q.2)) = srt at hout
  have pm : srt.Perm bs := by rw [← hsrt]; exact List.mergeSort_perm _ _
  have so : srt.Pairwise fun p q => p.2 ≤ q.2 := by
    rw [← hsrt]
    exact (List.pairwise_mergeSort (le := fun p q : Addr × List Int => decide (p.2 ≤ q.2)) (fun a b c h1 h2 => by
      have h1 := of_decide_eq_true h1
      have h2 := of_decide_eq_true h2
      exact decide_eq_true (List.le_trans h1 h2)) (fun a b => by
      rw [Bool.or_eq_true, decide_eq_true_eq, decide_eq_true_eq]
      exact List.le_total a.2 b.2) bs).imp fun h => of_decide_eq_true h
  obtain ⟨ep, he'⟩ := PyProof.Rows.sortedAll_at s.heap its out.toArray
  have hlw : (srt.map fun b => V.ref b.1).length ≤ sizeLine := by
    rw [List.length_map, pm.length_eq]
    rw [List.length_map] at hz
    exact hz
  exact ⟨.ref _, upd H (s.heap.objs.size + 1) (.lst (srt.map fun b => V.ref b.1)), I.laid (t' := s.toks) (fun _ _ => PyProof.Rows.sortedAll_old) (Nat.le_succ _) ⟨hlw, out, ep, pairs_vals hout, he'⟩, rfl,
    q _ _ _ (Lls.of fun b hm => hb b (pm.mem_iff.mp hm)) (pm.map (·.2)) (by rw [List.pairwise_map]; exact so) (I.hok.fresh (Nat.le_succ _))⟩
end
section
variable {K : PySem.W.Frag} {σ : L2.St} {H : Hp} {ta tb te : TE} {a b : Addr} {xs ys : List Int}
theorem rv_ltL (h1 : SqL K H a (xs.map V.int)) (h2 : SqL K H b (ys.map V.int)) : RV (rLtL K) (.ref a) (.ref b) H (.bl (decide (xs < ys))) := fun H1 e _ q => ⟨a, b, xs, ys, rfl, rfl, ex_l e h1, ex_l e h2, q H1 (Ex.refl H1)⟩
/-- sorted of a list of lists: some list of lists in order -/
theorem evP_sortLL {xss : List (List Int)} (h : EvP te σ H (IsLL xss)) : EvP (tCB (rSortLL K) (tCons te tNil)) σ H (fun v H1 => ∃ yss : List (List Int), yss.Perm xss ∧ yss.Pairwise (· ≤ ·) ∧ IsLL yss v H1) := fun H1 e Q q =>
  h H1 e _ fun v H2 e2 hv => by
    obtain ⟨p, zs, rfl, hp, hL⟩ := hv
    exact ⟨p, zs, xss, rfl, sq_of hp, hL, fun ws yss o hw hpm hs hn => q _ _ (e2.trans (Ex.new hn)) ⟨yss, hpm, hs, o, ws, rfl, upd_same, hw.mono (Ex.new hn)⟩⟩
theorem ll_unique {a b c : List (List Int)} (h1 : a.Perm c) (h2 : b.Perm c) (s1 : a.Pairwise (· ≤ ·)) (s2 : b.Pairwise (· ≤ ·)) : a = b :=
  (h1.trans h2.symm).eq_of_pairwise (le := fun x y : List Int => x ≤ y) (fun x y _ _ h1 h2 => List.le_antisymm h1 h2) s1 s2
end
end XP
/-! ## Comprehensions over lists of lists -/
namespace XP
open PySem PySem.Spec PyProof.Rows L2 Evl
section
variable {K : PySem.W.Frag} {σ : L2.St} {H : Hp} {te tl : TE} {t : TT} {k : Nat} {vs : List Nat} {xss : List (List Int)}
theorem ev_lenLL (h : EvP te σ H (IsLL xss)) : Ev (tCB (rLenK K) (tCons te tNil)) σ H (.int (xss.length : Int)) := fun H1 e Q q =>
  h H1 e _ fun v H2 e2 hv => by
    obtain ⟨p, zs, rfl, hp, hL⟩ := hv
    refine ⟨p, zs, rfl, .inl (sq_of hp), ?_⟩
    rw [hL.len]
    exact q H2 e2
theorem range_getD {α : Type} (d : α) (l : List α) : (List.range l.length).map (fun i => l.getD i d) = l := by
  refine List.ext_getElem (by simp) fun i h1 h2 => ?_
  rw [List.getElem_map, List.getElem_range]
  simp [List.getD, h2]
theorem given_pairs {α : Type} (d : α) (bs : List α) (p : α → Bool) (f : α → V) : given bs.length (fun i => p (bs.getD i d)) (fun i => f (bs.getD i d)) = (bs.filter p).map f := by
  unfold given
  have e2 : ((List.range bs.length).filter fun i => p (bs.getD i d)).map (fun i => bs.getD i d) = bs.filter p := by
    have := List.filter_map (f := fun i => bs.getD i d) (p := p) (l := List.range bs.length)
    rw [range_getD d bs] at this
    exact this.symm
  rw [← e2, List.map_map]
  rfl
/-- [row for row in rows if ..] -/
theorem evP_lcRows {p : List Int → Bool} (h : EvP tl σ H (IsLL xss)) (hz : xss.length ≤ 40000) (hw : ∀ x, wipe ((wipe σ vs).set k (some x)) vs = wipe σ vs)
    (ht : ∀ (q : Addr) (l : List Int) H1, Ex H H1 → Ll H1 q l → l ∈ xss → EvT t ((wipe σ vs).set k (some (.ref q))) H1 (p l)) (he : ∀ (q : Addr) H1, Ev te ((wipe σ vs).set k (some (.ref q))) H1 (.ref q)) :
    EvP (tLc (iList K tl) (gName k) t te vs) σ H (IsLL (xss.filter p)) := fun H0 e Q q =>
  h H0 e _ fun v H1 e1 hv => by
    obtain ⟨a, zs, rfl, ha, hL⟩ := hv
    obtain ⟨bs, rfl, rfl, hb⟩ := hL.pairs
    have e01 := e.trans e1
    rw [List.length_map] at hz
    refine ⟨a, rfl, ⟨_, sq_of ha⟩, fun Dl hD => ?_⟩
    refine lc_list (xs := bs.map fun b => V.ref b.1) (Cw H1 (fun i => p (bs.getD i (0, [])).2) (fun i => V.ref (bs.getD i (0, [])).1) Dl) ⟨hD, Ex.new hD, upd_same⟩ (fun i H' _ pp => sq_of (pp.2.1 _ _ ha)) (fun i x H' hi pp => ?_) (fun H' pp => ?_)
    · rw [List.getElem?_map] at hi
      cases hbi : bs[i]? with
      | none => rw [hbi] at hi; cases hi
      | some b =>
        rw [hbi] at hi
        cases hi
        have hbm := List.mem_of_getElem? hbi
        have eb : bs.getD i (0, []) = b := by simp [List.getD, hbi]
        have hlt := lt_of_get hbi
        refine ⟨hw _, cw_turn pp (by omega) ?_ fun _ => ?_⟩
        · show EvT t _ H1 (p (bs.getD i (0, [])).2)
          rw [eb]
          exact ht b.1 b.2 H1 e01 (hb b hbm) (List.mem_map.mpr ⟨b, hbm, rfl⟩)
        · show Ev te _ H1 (V.ref (bs.getD i (0, [])).1)
          rw [eb]
          exact he b.1 H1
    · refine q _ H' (e1.trans pp.2.1) ⟨Dl, _, rfl, pp.2.2, ?_⟩
      rw [List.length_map, given_pairs (0, []) bs (fun b => p b.2) fun b => V.ref b.1, List.filter_map]
      exact Lls.of fun b hm => pp.2.1 _ _ (hb b (List.mem_filter.mp hm).1)
/-- [f(row) for row in rows], new lists -/
theorem evP_lcCall {f : List Int → List Int} (h : EvP tl σ H (IsLL xss)) (hz : xss.length ≤ 40000) (hw : ∀ x, wipe ((wipe σ vs).set k (some x)) vs = wipe σ vs)
    (he : ∀ (q : Addr) (l : List Int) H1, Ex H H1 → Ll H1 q l → l ∈ xss → EvL te ((wipe σ vs).set k (some (.ref q))) H1 ((f l).map V.int)) :
    EvP (tLc (iList K tl) (gName k) tYes te vs) σ H (IsLL (xss.map f)) := fun H0 e Q q =>
  h H0 e _ fun v H1 e1 hv => by
    obtain ⟨a, zs, rfl, ha, hL⟩ := hv
    have hlen := hL.len
    have e01 := e.trans e1
    refine ⟨a, rfl, ⟨zs, sq_of ha⟩, fun Dl hD => ?_⟩
    refine lc_list (xs := zs) (fun i H' => Ex H1 H' ∧ ∃ ws : List V, H' Dl = some (.lst ws) ∧ Lls H' ws ((xss.take i).map f) ∧ ∀ z ∈ ws, z ≠ .ref Dl) ⟨Ex.new hD, [], upd_same, by rw [List.take_zero]; exact .nil, fun z hz => by cases hz⟩
      (fun i H' _ p => sq_of (p.1 _ _ ha)) (fun i x H' hi p => ⟨hw x, ?_⟩) (fun H' p => ?_)
    · obtain ⟨eH, ws, hDl, hLw, hn⟩ := p
      obtain ⟨qa, l, rfl, hl, hq⟩ := hL.at hi
      have hlt := lt_of_get hl
      refine et_yes H' (Ex.refl H') _ fun H3 e3 => ?_
      rw [if_pos rfl]
      refine he qa l H3 (e01.trans (eH.trans e3)) ((eH.trans e3) _ _ hq) (List.mem_of_getElem? hl) H3 (Ex.refl H3) _ fun r H4 nr e4 hr => ?_
      have hD4 := (e3.trans e4) _ _ hDl
      have hrD : r ≠ Dl := fun z => by
        have := e3 _ _ hDl
        rw [← z, nr] at this
        cases this
      have ll := hLw.len
      rw [List.length_map, List.length_take] at ll
      have hn' : ∀ z ∈ ws ++ [V.ref r], z ≠ .ref Dl := fun z hm => by
        rcases List.mem_append.mp hm with m | m
        · exact hn z m
        · rw [List.mem_singleton.mp m]
          intro e
          cases e
          exact hrD rfl
      refine ⟨ws, hD4, sz_lt (by omega), ((eH.trans e3).trans e4).mut hD, ws ++ [.ref r], upd_same, ?_, hn'⟩
      rw [take_one hl, List.map_append]
      exact ((hLw.mono (e3.trans e4)).snoc hr).upd hn'
    · obtain ⟨eH, ws, hDl, hLw, hn⟩ := p
      rw [hlen, List.take_length] at hLw
      exact q _ _ (e1.trans eH) ⟨Dl, ws, rfl, hDl, hLw⟩
end
end XP
namespace ZL
open PySem PySem.Spec PyProof.Rows
/-! ### itertools.zip_longest over two lists -/
theorem zl_mro : mroOf (.type "itertools.zip_longest") = pure [.type "itertools.zip_longest", .type "object"] := by rw [mroOf_type]; kernel_rfl
theorem zl_lookup_new : typeLookup (.type "itertools.zip_longest") "__new__" = pure (some (.builtin "itertools.zip_longest.__new__")) := by
  rw [typeLookup_type, builtinLookup_eq_fast]
  kernel_rfl
theorem zl_sub : isSubtype (.type "itertools.zip_longest") (.type "itertools.zip_longest") = pure true := by rw [isSubtype_type]; kernel_rfl
theorem zl_slot_init : Slot "itertools.zip_longest" "__init__" "object.__init__" :=
  Slot.of (n := "__init__") (owner := "object") (by rw [typeLookup_type, builtinLookup_eq_fast]; kernel_rfl) (by decide +kernel) (by decide +kernel) (by decide +kernel)
    (by first | exact Or.inl (by decide +kernel) | exact Or.inr (by decide +kernel)) (by rw [isSubtype_type]; kernel_rfl)
theorem zl_slot_iter : Slot "itertools.zip_longest" "__iter__" "itertools.zip_longest.__iter__" :=
  Slot.of (n := "__iter__") (owner := "itertools.zip_longest") (by rw [typeLookup_type, builtinLookup_eq_fast]; kernel_rfl) (by decide +kernel) (by decide +kernel) (by decide +kernel)
    (by first | exact Or.inl (by decide +kernel) | exact Or.inr (by decide +kernel)) zl_sub
theorem zl_slot_next : Slot "itertools.zip_longest" "__next__" "itertools.zip_longest.__next__" :=
  Slot.of (n := "__next__") (owner := "itertools.zip_longest") (by rw [typeLookup_type, builtinLookup_eq_fast]; kernel_rfl) (by decide +kernel) (by decide +kernel) (by decide +kernel)
    (by first | exact Or.inl (by decide +kernel) | exact Or.inr (by decide +kernel)) zl_sub
theorem zl_entry_new : entryFor table "itertools.zip_longest.__new__" = some Builtin.«itertools.zip_longest.__new__» := entryFor_of_tree (by kernel_rfl)
theorem zl_entry_next : entryFor table "itertools.zip_longest.__next__" = some Builtin.«itertools.zip_longest.__next__» := entryFor_of_tree (by kernel_rfl)
theorem zl_entry_iter : entryFor table "itertools.zip_longest.__iter__" = some Builtin.«dict_keyiterator.__iter__» :=
  entryFor_alias (id' := "dict_keyiterator.__iter__") (by kernel_rfl) (by first | rfl | decide +kernel | (unfold String.splitOn; simp +decide [String.splitOnAux])) (by decide +kernel) (by kernel_rfl)
theorem zl_called : TypeCalled "itertools.zip_longest" "itertools.zip_longest.__new__" "object.__init__" :=
  ⟨by decide +kernel, by decide +kernel, ⟨_, _, zl_mro⟩, madeBy_type zl_mro zl_lookup_new (by decide +kernel), by decide +kernel, zl_sub, zl_slot_init⟩
theorem zl_typeCall (a b c : Value) : checkTypeCall "itertools.zip_longest" ⟨[a, b], [(Str.ofString "fillvalue", c)]⟩ = pure () := by kernel_rfl
theorem zl_newCall (a b c : Value) : checkBuiltinCall "itertools.zip_longest.__new__" ⟨[.type "itertools.zip_longest", a, b], [(Str.ofString "fillvalue", c)]⟩ = pure () := by kernel_rfl
theorem zl_initArgs (o a b c : Value) : argsOk "object.__init__" ⟨[o, a, b], [(Str.ofString "fillvalue", c)]⟩ := by unfold argsOk; kernel_rfl
theorem zl_owner : Manifest.owners.lookup (String.ofList ['t', 's', 'e', 'g', 'n', 'o', 'l', '_', 'p', 'i', 'z', '.', 's', 'l', 'o', 'o', 't', 'r', 'e', 't', 'i'].reverse) = some Manifest.sig_itertools_zip_longest := by kernel_rfl
theorem zl_args_iter (a : Value) : argsOk "itertools.zip_longest.__iter__" ⟨[a], []⟩ := by
  unfold argsOk
  rw [signature?_of (id := "itertools.zip_longest.__iter__") (o := ['t', 's', 'e', 'g', 'n', 'o', 'l', '_', 'p', 'i', 'z', '.', 's', 'l', 'o', 'o', 't', 'r', 'e', 't', 'i']) (n := ['_', '_', 'r', 'e', 't', 'i', '_', '_']) (by kernel_rfl) zl_owner]
  kernel_rfl
theorem zl_args_next (a : Value) : argsOk "itertools.zip_longest.__next__" ⟨[a], []⟩ := by
  unfold argsOk
  rw [signature?_of (id := "itertools.zip_longest.__next__") (o := ['t', 's', 'e', 'g', 'n', 'o', 'l', '_', 'p', 'i', 'z', '.', 's', 'l', 'o', 'o', 't', 'r', 'e', 't', 'i']) (n := ['_', '_', 't', 'x', 'e', 'n', '_', '_']) (by kernel_rfl) zl_owner]
  kernel_rfl
theorem zl_noDict : typeHasDict (.type "itertools.zip_longest") = false := by decide +kernel
end ZL
namespace ZL
open PySem PySem.Spec PyProof.Rows
abbrev IsZL (h : Heap) (z TI TO : Addr) (f0 d : Value) (run : Int) : Prop :=
  h.get? z = some { cls := .type "itertools.zip_longest", dict := none, data := .fields #[f0, .bool false, d, .int run 0, .ref TI, .ref TO], slots := #[] }
abbrev Tup (h : Heap) (T : Addr) (es : Array Value) : Prop := h.get? T = some { cls := .type "tuple", data := .seq es }
def Fld (h : Heap) (i : Addr) : Prop := ∃ o vs, h.get? i = some o ∧ o.data = .fields vs
section
variable {prog : Program} {w : World} {A : Around} {E : Value → Shared → Prop} {s : Shared}
theorem zl_pool {T : Addr} {es : Array Value} {Q : Array Value → Shared → Prop} (h : Tup s.heap T es) (q : Q es s) : wpAny (model prog w) A (Builtin.Itertools.itPoolItems (.ref T)) Q E s := by
  unfold Builtin.Itertools.itPoolItems
  exact wpAny_bind (wpAny_seqItems h rfl (wpAny_pure q))
theorem zl_run {z TI TO : Addr} {f0 d : Value} {run : Int} {Q : Int → Shared → Prop} (h : IsZL s.heap z TI TO f0 d run) (q : Q run s) : wpAny (model prog w) A (Builtin.Itertools.itIntField (.ref z) 3) Q E s := by
  unfold Builtin.Itertools.itIntField
  exact wpAny_bind (wpAny_field h rfl (x := .int run 0) rfl (wpAny_pure q))
/-- a list's iterator comes to its end: what is left of it -/
theorem zl_end {it l : Addr} {i : Nat} {items : Array Value} {Q : Option Value → Shared → Prop} (hh : A.handled = none) (hit : s.heap.IsListIter it l i) (hl : s.heap.IsList l items) (hx : items[i]? = none)
    (hQ : ∀ h', Heap.ExtBut it s.heap h' → Fld h' it → s.heap.objs.size ≤ h'.objs.size → Q none { s with heap := h' }) : wpAny (model prog w) A (pyNext (.ref it)) Q E s := by
  have hT := hit.typeIs
  obtain ⟨oi, hoi, ci, di⟩ := hit
  obtain ⟨ol, hol, _, nl, dl⟩ := hl
  unfold pyNext
  refine wpAny_bind (wpAny_attempt (wpAny_callSpecial?_slot (name := Str.ofString "__next__") hT slot_listiter_next (wpAny_call_entry slot_listiter_next hT entry_listiter_next ?_ (args_listiter_next _))))
  show wpAny _ _ (field (.ref it) 0 >>= _) _ _ s
  refine wpAny_bind (wpAny_field hoi di (x := .ref l) rfl ?_)
  show wpAny _ _ (if (Value.ref l == Value.none) = true then _ else _) _ _ s
  rw [if_neg (fun e : (Value.ref l == Value.none) = true => Bool.false_ne_true e)]
  show wpAny _ _ (field (.ref it) 1 >>= _) _ _ s
  refine wpAny_bind (wpAny_field hoi di (x := .int i 0) rfl ?_)
  show wpAny _ _ (seqItems? (.ref l) >>= _) _ _ s
  refine wpAny_bind (wpAny_seqItems hol dl ?_)
  simp only [hx, Int.toNat_natCast]
  refine wpAny_bind (wpAny_rule (wpAny_bind (wpAny_setField hoi di (by simp) ?_)))
  show wpAny _ _ (newExc (.type "StopIteration") [] >>= _) _ _ _
  refine wpAny_bind ?_
  simp only [newTuple, newExc]
  refine wpAny_bind (wpAny_newObj_type ?_ (by size_fits))
  refine wpAny_bind (m := firstArgMember _ _) (wpAny_of_eq (a := Value.none) (by (first | rfl | (simp only [firstArgMember]; rfl))) ?_)
  refine wpAny_newObj_type ?_ (by size_fits)
  simp only [raiseNew]
  refine wpAny_bind (wpAny_handled ?_)
  have e1 : A.in1.handled = none := hh
  rw [e1]
  refine wpAny_bind (wpAny_pure (wpAny_throw ?_))
  refine wpAny_bind (wpAny_isInstance (b := true) (T := "StopIteration") ⟨_, Heap.get?_push_size _ rfl, rfl⟩ isSubtype_stop ?_)
  refine wpAny_pure (hQ _ (((Heap.SameBut.update ..).extBut.push _).push _) ⟨_, _, Heap.get?_push_of_some _ (Heap.get?_push_of_some _ (Heap.get?_update_self _ hoi (Obj.isFreed_of_fields (Obj.data_mapFields di _)))), Obj.data_mapFields di _⟩ ?_)
  rw [Heap.size_push, Heap.size_push, Heap.size_update]
  omega
end
/-- how a column is drawn from: it is gone; it has an item; it ends, another one runs; it ends as the last -/
def ColT (prog : Program) (w : World) (A : Around) (t : Sem (Option Value)) (z TI TO i l : Addr) (c : Nat) (d : Value) : Prop :=
  ∀ (k : Nat) (xs es : Array Value) (f0 : Value) (run : Int) (E : Value → Shared → Prop) (s : Shared) (Q : Option Value → Shared → Prop), IsZL s.heap z TI TO f0 d run → Tup s.heap TI es → es.size = 2 →
    (es.getD c .none = .none → Q (some d) s → wpAny (model prog w) A t Q E s) ∧
    (es.getD c .none = .ref i → s.heap.IsListIter i l k → s.heap.IsList l xs →
      (∀ x, xs[k]? = some x → (∀ h', h'.IsListIter i l (k + 1) → Heap.SameBut i s.heap h' → Q (some x) { s with heap := h' }) → wpAny (model prog w) A t Q E s) ∧
      (xs[k]? = none → run ≠ 1 → (∀ h', IsZL h' z TI TO f0 d (run - 1) → Tup h' TI (es.setIfInBounds c .none) → Fld h' i → s.heap.objs.size ≤ h'.objs.size →
        (∀ a o, a ≠ z → a ≠ TI → a ≠ i → s.heap.get? a = some o → h'.get? a = some o) → Q (some d) { s with heap := h' }) → wpAny (model prog w) A t Q E s) ∧
      (xs[k]? = none → run = 1 → (∀ h', IsZL h' z TI TO f0 d 0 → (∀ a o, a ≠ z → a ≠ i → s.heap.get? a = some o → h'.get? a = some o) → Q none { s with heap := h' }) → wpAny (model prog w) A t Q E s))
section
variable {prog : Program} {w : World} {A : Around} {s : Shared}
/-- one column's turn, the last end left out -/
theorem zl_col {t : Sem (Option Value)} {z TI TO i l : Addr} {c k : Nat} {d f0 : Value} {run : Int} {xs es : Array Value} {E : Value → Shared → Prop} {Q : Option Value → Shared → Prop} (C : ColT prog w A t z TI TO i l c d) (hiz : i ≠ z) (hTi : TI ≠ i)
    (hz : IsZL s.heap z TI TO f0 d run) (hT : Tup s.heap TI es) (h2 : es.size = 2) (he : es.getD c .none = if xs.size < k then .none else .ref i) (hi : k ≤ xs.size → s.heap.IsListIter i l k) (hf : Fld s.heap i) (hl : s.heap.IsList l xs) (hr : k = xs.size → run ≠ 1)
    (hQ : ∀ h', IsZL h' z TI TO f0 d (run - if k = xs.size then 1 else 0) → Tup h' TI (if k = xs.size then es.setIfInBounds c .none else es) → (k + 1 ≤ xs.size → h'.IsListIter i l (k + 1)) → Fld h' i → s.heap.objs.size ≤ h'.objs.size →
      (∀ a o, a ≠ z → a ≠ TI → a ≠ i → s.heap.get? a = some o → h'.get? a = some o) → Q (some (xs[k]?.getD d)) { s with heap := h' }) : wpAny (model prog w) A t Q E s := by
  obtain ⟨c1, c2⟩ := C k xs es f0 run E s Q hz hT h2
  rcases Nat.lt_trichotomy k xs.size with a | a | a
  · rw [if_neg (by omega)] at he
    refine (c2 he (hi (by omega)) hl).1 xs[k] (by simp [a]) fun h' hi' sb => ?_
    have e := hQ h'
    rw [if_neg (by omega), if_neg (by omega), Int.sub_zero, Array.getElem?_eq_getElem a] at e
    have hfl : Fld h' i := by
      obtain ⟨o, e1, _, e2⟩ := hi'
      exact ⟨o, _, e1, e2⟩
    exact e ((sb.2 z hiz.symm).trans hz) ((sb.2 TI hTi).trans hT) (fun _ => hi') hfl (Nat.le_of_eq sb.1.symm) fun b o _ _ b3 e => (sb.2 b b3).trans e
  · have hn : xs[k]? = none := by simp [a]
    rw [if_neg (by omega)] at he
    refine (c2 he (hi (by omega)) hl).2.1 hn (hr a) fun h' h1 h2 h3 h4 h5 => ?_
    have e := hQ h'
    rw [if_pos a, if_pos a, hn] at e
    exact e h1 h2 (fun q => absurd q (by omega)) h3 h4 h5
  · have hn : xs[k]? = none := by simp; omega
    rw [if_pos (by omega)] at he
    have e := hQ s.heap
    rw [if_neg (by omega), if_neg (by omega), Int.sub_zero, hn] at e
    exact c1 he (e hz hT (fun q => absurd q (by omega)) hf (Nat.le_refl _) fun _ _ _ _ _ q => q)
end
end ZL
namespace ZL
open PySem PySem.Spec PyProof.Rows
def ent (n k : Nat) (i : Addr) : Value := if n < k then .none else .ref i
def runAt (n m k : Nat) : Int := (if n < k then 0 else 1) + if m < k then 0 else 1
/-- the state ahead of turn k -/
def ZSt (z TI TO i1 i2 l1 l2 : Addr) (d : Value) (n m k : Nat) (f0 : Value) (h : Heap) : Prop :=
  IsZL h z TI TO f0 d (runAt n m k) ∧ Tup h TI #[ent n k i1, ent m k i2] ∧ (∃ x y, Tup h TO #[x, y]) ∧ (k ≤ n → h.IsListIter i1 l1 k) ∧ (k ≤ m → h.IsListIter i2 l2 k) ∧ Fld h i1 ∧ Fld h i2
theorem ent_one {n k : Nat} {i : Addr} {e : Value} : (if k = n then (#[ent n k i, e] : Array Value).setIfInBounds 0 .none else #[ent n k i, e]) = #[ent n (k + 1) i, e] := by
  unfold ent
  by_cases a : k = n
  · rw [if_pos a, if_pos (show n < k + 1 by omega)]
    rfl
  · rw [if_neg a]
    by_cases b : n < k
    · rw [if_pos b, if_pos (show n < k + 1 by omega)]
    · rw [if_neg b, if_neg (show ¬ n < k + 1 by omega)]
theorem ent_two {n k : Nat} {i : Addr} {e : Value} : (if k = n then (#[e, ent n k i] : Array Value).setIfInBounds 1 .none else #[e, ent n k i]) = #[e, ent n (k + 1) i] := by
  unfold ent
  by_cases a : k = n
  · rw [if_pos a, if_pos (show n < k + 1 by omega)]
    rfl
  · rw [if_neg a]
    by_cases b : n < k
    · rw [if_pos b, if_pos (show n < k + 1 by omega)]
    · rw [if_neg b, if_neg (show ¬ n < k + 1 by omega)]
section
variable {prog : Program} {w : World} {A : Around} {E : Value → Shared → Prop} {s : Shared}
theorem zl_put {T : Addr} {es : Array Value} {k : Nat} {x : Value} {Q : Unit → Shared → Prop} (hT : Tup s.heap T es) (h2 : es.size = 2)
    (h : ∀ h', Tup h' T (es.setIfInBounds k x) → Heap.SameBut T s.heap h' → Q () { s with heap := h' }) : wpAny (model prog w) A (updateSeq T (·.setIfInBounds k x)) Q E s := by
  refine wpAny_updateSeq hT rfl (h _ ?_ (Heap.SameBut.update ..)) (by rw [h2]; decide) (by rw [Array.size_setIfInBounds, h2]; decide)
  show (s.heap.update T _).get? T = _
  rw [Heap.get?_update_self _ hT rfl]
  simp [Obj.mapSeq]
theorem Fld.at {h h' : Heap} {i : Addr} (f : Fld h i) (e : ∀ o, h.get? i = some o → h'.get? i = some o) : Fld h' i := by
  obtain ⟨o, vs, a, b⟩ := f
  exact ⟨o, vs, e _ a, b⟩
theorem zl_next {z TI TO i1 i2 l1 l2 : Addr} {k : Nat} {d : Value} {xs ys : Array Value} {Q : Value → Shared → Prop} (hh : A.handled = none) (D : ZipApart z TI TO i1 i2 l1 l2) (hl1T : l1 ≠ TI) (hl2T : l2 ≠ TI)
    (S : ZSt z TI TO i1 i2 l1 l2 d xs.size ys.size k .none s.heap) (hl1 : s.heap.IsList l1 xs) (hl2 : s.heap.IsList l2 ys) (hk : k < xs.size ∨ k < ys.size)
    (hQ : ∀ h' (T : Addr), ZSt z TI TO i1 i2 l1 l2 d xs.size ys.size (k + 1) (rawInt T) h' → Tup h' T #[xs[k]?.getD d, ys[k]?.getD d] → s.heap.objs.size ≤ T →
      (∀ c o, c ≠ z → c ≠ TI → c ≠ TO → c ≠ i1 → c ≠ i2 → s.heap.get? c = some o → h'.get? c = some o) → Q (.ref T) { s with heap := h' }) :
    wpAny (model prog w) A (Builtin.«itertools.zip_longest.__next__» ⟨[.ref z], []⟩) (fun fin s' => ∃ v, fin = .done (.ret v) ∧ Q v s') E s := by
  obtain ⟨hz, hTI, ⟨a, b, hTO⟩, h1, h2, f1, f2⟩ := S
  have hr : ¬ ((runAt xs.size ys.size k == 0) = true) := by
    rw [beq_iff_eq]
    unfold runAt
    split <;> split <;> omega
  show wpAny _ _ (Builtin.Itertools.itIntField (.ref z) 3 >>= _) _ _ _
  refine wpAny_bind (zl_run hz ?_)
  rw [if_neg hr]
  refine wpAny_bind (wpAny_field hz rfl (x := .ref TI) rfl ?_)
  refine wpAny_bind (zl_pool hTI ?_)
  refine wpAny_bind ?_
  unfold Builtin.Itertools.itOwnedIsFree
  refine wpAny_bind (wpAny_field hz rfl (x := .none) rfl (wpAny_pure ?_))
  rw [if_pos rfl]
  refine wpAny_bind (wpAny_rule ?_)
  refine wpAny_bind (wpAny_field hz rfl (x := .ref TO) rfl ?_)
  refine wpAny_bind (wpAny_setField_rec hz (by simp) fun g1 z1 s1 => ?_)
  replace z1 : IsZL g1 z TI TO .ellipsis d (runAt xs.size ys.size k) := z1
  have er : List.range (#[ent xs.size k i1, ent ys.size k i2] : Array Value).size = [0, 1] := rfl
  rw [er]
  refine wpAny_bind ?_
  simp only [List.forIn_cons, List.forIn_nil]
  have x1 := s1.extBut
  refine wpAny_bind (wpAny_bind (wpAny_onRaise (zl_col (c := 0) ?c0 D.i1z D.TIi1 z1 (x1 _ _ D.TIz hTI) rfl rfl (fun q => (h1 q).extBut x1 D.i1z) (f1.at fun o e => x1 _ o D.i1z e) (hl1.extBut x1 D.l1z) (fun q => ?r0) fun g2 z2 t2 a2 b2 n2 k2 => ?_)))
  rotate_left 2
  rw [ent_one] at t2
  refine wpAny_bind (zl_pool (k2 TO _ D.TOz D.TITO.symm D.TOi1 (x1 _ _ D.TOz hTO)) ?_)
  refine wpAny_bind (zl_put (k2 TO _ D.TOz D.TITO.symm D.TOi1 (x1 _ _ D.TOz hTO)) rfl fun g3 t3 s3 => ?_)
  refine wpAny_bind (wpAny_letGo (wpAny_pure ?_))
  have x3 := s3.extBut
  refine wpAny_bind (wpAny_bind (wpAny_onRaise (zl_col (c := 1) ?c1 D.i2z D.TIi2 (x3 _ _ D.TOz.symm z2) (x3 _ _ D.TITO t2) rfl rfl (fun q => (((h2 q).extBut x1 D.i2z).at fun o e => k2 _ o D.i2z D.TIi2.symm D.i12.symm e).extBut x3 D.TOi2.symm)
    (((f2.at fun o e => x1 _ o D.i2z e).at fun o e => k2 _ o D.i2z D.TIi2.symm D.i12.symm e).at fun o e => x3 _ o D.TOi2.symm e) (((hl2.extBut x1 D.l2z).at fun o e => k2 _ o D.l2z hl2T D.l2i1 e).extBut x3 D.l2TO) (fun q => ?r1) fun g4 z4 t4 a4 b4 n4 k4 => ?_)))
  rotate_left 2
  rw [ent_two] at t4
  have t5 := k4 TO _ D.TOz D.TITO.symm D.TOi2 t3
  refine wpAny_bind (zl_pool t5 ?_)
  refine wpAny_bind (zl_put t5 rfl fun g5 t6 s5 => ?_)
  replace t6 : Tup g5 TO #[xs[k]?.getD d, ys[k]?.getD d] := t6
  have x5 := s5.extBut
  refine wpAny_bind (wpAny_letGo (wpAny_pure (wpAny_pure ?_)))
  refine wpAny_bind (zl_pool t6 ?_)
  refine wpAny_bind (wpAny_newTuple ?_)
  have z6 : IsZL (g5.push { cls := .type "tuple", data := .seq #[xs[k]?.getD d, ys[k]?.getD d] }) z TI TO .ellipsis d (runAt xs.size ys.size k - (if k = xs.size then 1 else 0) - if k = ys.size then 1 else 0) := Heap.get?_push_of_some _ (x5 _ _ D.TOz.symm z4)
  have er2 : runAt xs.size ys.size k - (if k = xs.size then 1 else 0) - (if k = ys.size then 1 else 0) = runAt xs.size ys.size (k + 1) := by
    unfold runAt
    repeat' split
    all_goals omega
  rw [er2] at z6
  have hle : s.heap.objs.size ≤ g5.objs.size := by
    have q1 : g1.objs.size = s.heap.objs.size := s1.1
    have q2 : g1.objs.size ≤ g2.objs.size := n2
    have q3 : g3.objs.size = g2.objs.size := s3.1
    have q4 : g3.objs.size ≤ g4.objs.size := n4
    have q5 : g5.objs.size = g4.objs.size := s5.1
    omega
  have hlt : z < g5.objs.size := Heap.lt_size (x5 _ _ D.TOz.symm z4)
  refine wpAny_bind ?_
  unfold Builtin.Itertools.itOwnedHandOut
  refine wpAny_bind (wpAny_setField_rec z6 (by simp) fun g7 z7 s7 => ?_)
  replace z7 : IsZL g7 z TI TO (rawInt g5.objs.size) d (runAt xs.size ys.size (k + 1)) := z7
  refine wpAny_setField_rec z7 (by simp) fun g8 z8 s8 => ?_
  replace z8 : IsZL g8 z TI TO (rawInt g5.objs.size) d (runAt xs.size ys.size (k + 1)) := z8
  have up : ∀ c o, c ≠ z → g5.get? c = some o → g8.get? c = some o := fun c o c1 e => s8.extBut _ _ c1 (s7.extBut _ _ c1 (Heap.get?_push_of_some _ e))
  have hT8 : Tup g8 g5.objs.size #[xs[k]?.getD d, ys[k]?.getD d] := s8.extBut _ _ (Nat.ne_of_gt hlt) (s7.extBut _ _ (Nat.ne_of_gt hlt) (Heap.get?_push_size _ rfl))
  refine wpAny_pure ⟨_, rfl, hQ g8 g5.objs.size ⟨z8, up _ _ D.TIz (x5 _ _ D.TITO t4), ⟨_, _, up _ _ D.TOz t6⟩, fun q => ?i1, fun q => ?i2, ?f1, ?f2⟩ hT8 hle fun c o c1 c2 c3 c4 c5 e => ?main⟩
  case i1 => exact (((a2 q).extBut x3 D.TOi1.symm).at fun o e => x5 _ o D.TOi1.symm (k4 _ o D.i1z D.TIi1.symm D.i12 e)).at fun o e => up _ o D.i1z e
  case i2 => exact ((a4 q).extBut x5 D.TOi2.symm).at fun o e => up _ o D.i2z e
  case f1 => exact b2.at fun o e => up _ o D.i1z (x5 _ o D.TOi1.symm (k4 _ o D.i1z D.TIi1.symm D.i12 (x3 _ o D.TOi1.symm e)))
  case f2 => exact b4.at fun o e => up _ o D.i2z (x5 _ o D.TOi2.symm e)
  case r0 =>
    unfold runAt
    repeat' split
    all_goals omega
  case r1 =>
    unfold runAt
    repeat' split
    all_goals omega
  case main => exact up _ _ c1 (x5 _ _ c3 (k4 _ _ c1 c2 c5 (x3 _ _ c3 (k2 _ _ c1 c2 c4 (x1 _ _ c1 e)))))
  case' c0 =>
    show ColT _ _ _ _ z TI TO i1 l1 0 d
    have hiz := D.i1z
    have hTi := D.TIi1
  case' c1 =>
    show ColT _ _ _ _ z TI TO i2 l2 1 d
    have hiz := D.i2z
    have hTi := D.TIi2
  all_goals
    clear hQ
    intro k xs es f0 run E s Q hz hT hn
    refine ⟨fun e q => ?_, fun e hi hl => ⟨fun x hx q => ?_, fun hx hr q => ?_, fun hx hr q => ?_⟩⟩
    all_goals
      show wpAny _ _ (field (.ref z) 4 >>= _) _ _ s
      refine wpAny_bind (wpAny_field hz rfl (x := .ref TI) rfl ?_)
      refine wpAny_bind (zl_pool hT ?_)
      rw [e]
      refine wpAny_bind (wpAny_field hz rfl (x := d) rfl ?_)
    · rw [if_pos (show (Value.none == Value.none) = true from rfl)]
      exact wpAny_pure q
    all_goals rw [if_neg (fun e : (Value.ref _ == Value.none) = true => Bool.false_ne_true e)]
    · exact wpAny_bind (wpAny_onRaise (wpAny_pyNext_list_item hi hl hx fun h' a1 a2 => wpAny_pure (q h' a1 a2)))
    all_goals
      refine wpAny_bind (wpAny_onRaise (zl_end hh hi hl hx fun h' a1 a2 a3 => ?_))
      refine wpAny_bind (zl_pool (a1 _ _ hTi hT) ?_)
      rw [e, if_neg (fun e : (Value.ref _ == Value.none) = true => Bool.false_ne_true e)]
      refine wpAny_bind (zl_run (a1 _ _ hiz.symm hz) ?_)
      refine wpAny_bind (wpAny_setField_rec (a1 _ _ hiz.symm hz) (by simp) fun h'' b1 b2 => ?_)
      have x2 := b2.extBut
    · rw [if_neg (by rw [beq_iff_eq]; exact hr)]
      refine wpAny_bind (wpAny_rule ?_)
      refine wpAny_bind (zl_put (x2 _ _ D.TIz (a1 _ _ hTi hT)) hn fun h3 c1 c2 => ?_)
      refine wpAny_bind (wpAny_letGo (wpAny_pure ?_))
      have x3 := c2.extBut
      refine q h3 (x3 _ _ D.TIz.symm b1) c1 ((a2.at fun o e => x2 _ o hiz e).at fun o e => x3 _ o hTi.symm e) ?_ fun c o n1 n2 n3 e => x3 _ _ n2 (x2 _ _ n1 (a1 _ _ n3 e))
      have q1 : h''.objs.size = h'.objs.size := b2.1
      have q2 : h3.objs.size = h''.objs.size := c2.1
      omega
    · rw [if_pos (by rw [hr]; rfl)]
      subst hr
      exact wpAny_pure (q h'' b1 fun c o n1 n3 e => x2 _ _ n1 (a1 _ _ n3 e))
/-- its end, once both are through -/
theorem zl_stop {z TI TO i1 i2 l1 l2 : Addr} {k : Nat} {d : Value} {xs ys : Array Value} {Q : PySem.Fin → Shared → Prop} (hh : A.handled = none) (D : ZipApart z TI TO i1 i2 l1 l2) (hl1T : l1 ≠ TI) (hl2T : l2 ≠ TI)
    (S : ZSt z TI TO i1 i2 l1 l2 d xs.size ys.size k .none s.heap) (hl1 : s.heap.IsList l1 xs) (hl2 : s.heap.IsList l2 ys) (hk : (k = xs.size ∧ ys.size ≤ k) ∨ (k = ys.size ∧ xs.size ≤ k))
    (hE : ∀ h' e, (∀ c o, c ≠ z → c ≠ TI → c ≠ TO → c ≠ i1 → c ≠ i2 → s.heap.get? c = some o → h'.get? c = some o) → (∃ o, h'.get? e = some o ∧ o.cls = .type "StopIteration") → E (.ref e) { s with heap := h' }) :
    wpAny (model prog w) A (Builtin.«itertools.zip_longest.__next__» ⟨[.ref z], []⟩) Q E s := by
  obtain ⟨hz, hTI, ⟨a, b, hTO⟩, h1, h2, f1, f2⟩ := S
  have hr : ¬ ((runAt xs.size ys.size k == 0) = true) := by
    rw [beq_iff_eq]
    unfold runAt
    split <;> split <;> omega
  show wpAny _ _ (Builtin.Itertools.itIntField (.ref z) 3 >>= _) _ _ _
  refine wpAny_bind (zl_run hz ?_)
  rw [if_neg hr]
  refine wpAny_bind (wpAny_field hz rfl (x := .ref TI) rfl ?_)
  refine wpAny_bind (zl_pool hTI ?_)
  refine wpAny_bind ?_
  unfold Builtin.Itertools.itOwnedIsFree
  refine wpAny_bind (wpAny_field hz rfl (x := .none) rfl (wpAny_pure ?_))
  rw [if_pos rfl]
  refine wpAny_bind (wpAny_rule ?_)
  refine wpAny_bind (wpAny_field hz rfl (x := .ref TO) rfl ?_)
  refine wpAny_bind (wpAny_setField_rec hz (by simp) fun g1 z1 s1 => ?_)
  replace z1 : IsZL g1 z TI TO .ellipsis d (runAt xs.size ys.size k) := z1
  have er : List.range (#[ent xs.size k i1, ent ys.size k i2] : Array Value).size = [0, 1] := rfl
  rw [er]
  refine wpAny_bind ?_
  simp only [List.forIn_cons, List.forIn_nil]
  have x1 := s1.extBut
  have hend : ∀ (g : Heap) (Q' : Unit → Shared → Prop) (q : ∀ g' e, (∀ c o, g.get? c = some o → g'.get? c = some o) → (∃ o, g'.get? e = some o ∧ o.cls = .type "StopIteration") → E (.ref e) { s with heap := g' }),
      wpAny (model prog w) A (Builtin.Itertools.itStop (α := Unit)) Q' E { s with heap := g } := fun g Q' q => by
    unfold Builtin.Itertools.itStop
    refine wpAny_bind ?_
    simp only [newTuple, newExc]
    refine wpAny_bind (wpAny_newObj_type ?_ (by size_fits))
    refine wpAny_bind (m := firstArgMember _ _) (wpAny_of_eq (a := Value.none) (by (first | rfl | (simp only [firstArgMember]; rfl))) ?_)
    refine wpAny_newObj_type ?_ (by size_fits)
    simp only [raiseNew]
    refine wpAny_bind (wpAny_handled ?_)
    rw [hh]
    refine wpAny_bind (wpAny_pure (wpAny_throw ?_))
    exact q _ _ (fun c o e => Heap.get?_push_of_some _ (Heap.get?_push_of_some _ e)) ⟨_, Heap.get?_push_size _ rfl, rfl⟩
  have he1 : (#[ent xs.size k i1, ent ys.size k i2] : Array Value).getD 0 .none = ent xs.size k i1 := rfl
  by_cases hB : k = xs.size ∧ ys.size < k
  · obtain ⟨b1, b2⟩ := hB
    have c0 : ∀ t, ColT prog w A t z TI TO i1 l1 0 d → ColT prog w A t z TI TO i1 l1 0 d := fun _ q => q
    have er1 : runAt xs.size ys.size k = 1 := by
      unfold runAt
      rw [if_neg (by omega), if_pos b2]
      rfl
    have en : xs[k]? = none := by simp; omega
    refine wpAny_bind (wpAny_bind (wpAny_onRaise (((c0 _ ?c0) k xs _ _ _ _ _ _ z1 (x1 _ _ D.TIz hTI) rfl).2 ?ee ((h1 (by omega)).extBut x1 D.i1z) (hl1.extBut x1 D.l1z) |>.2.2 en er1 fun g2 z2 k2 => ?main)))
    case ee =>
      show ent xs.size k i1 = _
      unfold ent
      rw [if_neg (by omega)]
    case main =>
      refine wpAny_bind (wpAny_setField_rec z2 (by simp) fun g3 z3 s3 => ?_)
      refine wpAny_bind (hend g3 _ fun g4 e kk he => hE _ _ (fun c o n1 n2 n3 n4 n5 q => kk _ _ (s3.extBut _ _ n1 (k2 _ _ n1 n4 (x1 _ _ n1 q)))) he)
    case c0 =>
      show ColT _ _ _ _ z TI TO i1 l1 0 d
      have hiz := D.i1z
      have hTi := D.TIi1
      clear hE
      intro k xs es f0 run E s Q hz hT hn
      refine ⟨fun e q => ?_, fun e hi hl => ⟨fun x hx q => ?_, fun hx hr q => ?_, fun hx hr q => ?_⟩⟩
      all_goals
        show wpAny _ _ (field (.ref z) 4 >>= _) _ _ s
        refine wpAny_bind (wpAny_field hz rfl (x := .ref TI) rfl ?_)
        refine wpAny_bind (zl_pool hT ?_)
        rw [e]
        refine wpAny_bind (wpAny_field hz rfl (x := d) rfl ?_)
      · rw [if_pos (show (Value.none == Value.none) = true from rfl)]
        exact wpAny_pure q
      all_goals rw [if_neg (fun e : (Value.ref _ == Value.none) = true => Bool.false_ne_true e)]
      · exact wpAny_bind (wpAny_onRaise (wpAny_pyNext_list_item hi hl hx fun h' a1 a2 => wpAny_pure (q h' a1 a2)))
      all_goals
        refine wpAny_bind (wpAny_onRaise (zl_end hh hi hl hx fun h' a1 a2 a3 => ?_))
        refine wpAny_bind (zl_pool (a1 _ _ hTi hT) ?_)
        rw [e, if_neg (fun e : (Value.ref _ == Value.none) = true => Bool.false_ne_true e)]
        refine wpAny_bind (zl_run (a1 _ _ hiz.symm hz) ?_)
        refine wpAny_bind (wpAny_setField_rec (a1 _ _ hiz.symm hz) (by simp) fun h'' b1 b2 => ?_)
        have x2 := b2.extBut
      · rw [if_neg (by rw [beq_iff_eq]; exact hr)]
        refine wpAny_bind (wpAny_rule ?_)
        refine wpAny_bind (zl_put (x2 _ _ D.TIz (a1 _ _ hTi hT)) hn fun h3 c1 c2 => ?_)
        refine wpAny_bind (wpAny_letGo (wpAny_pure ?_))
        have x3 := c2.extBut
        refine q h3 (x3 _ _ D.TIz.symm b1) c1 ((a2.at fun o e => x2 _ o hiz e).at fun o e => x3 _ o hTi.symm e) ?_ fun c o n1 n2 n3 e => x3 _ _ n2 (x2 _ _ n1 (a1 _ _ n3 e))
        have q1 : h''.objs.size = h'.objs.size := b2.1
        have q2 : h3.objs.size = h''.objs.size := c2.1
        omega
      · rw [if_pos (by rw [hr]; rfl)]
        subst hr
        exact wpAny_pure (q h'' b1 fun c o n1 n3 e => x2 _ _ n1 (a1 _ _ n3 e))
  · refine wpAny_bind (wpAny_bind (wpAny_onRaise (zl_col (c := 0) ?c0 D.i1z D.TIi1 z1 (x1 _ _ D.TIz hTI) rfl rfl (fun q => (h1 q).extBut x1 D.i1z) (f1.at fun o e => x1 _ o D.i1z e) (hl1.extBut x1 D.l1z) (fun q => ?r0) fun g2 z2 t2 a2 b2 n2 k2 => ?_)))
    rotate_left 2
    · rw [ent_one] at t2
      refine wpAny_bind (zl_pool (k2 TO _ D.TOz D.TITO.symm D.TOi1 (x1 _ _ D.TOz hTO)) ?_)
      refine wpAny_bind (zl_put (k2 TO _ D.TOz D.TITO.symm D.TOi1 (x1 _ _ D.TOz hTO)) rfl fun g3 t3 s3 => ?_)
      refine wpAny_bind (wpAny_letGo (wpAny_pure ?_))
      have x3 := s3.extBut
      have c1 : ∀ t, ColT prog w A t z TI TO i2 l2 1 d → ColT prog w A t z TI TO i2 l2 1 d := fun _ q => q
      have er1 : (runAt xs.size ys.size k - if k = xs.size then 1 else 0) = 1 := by
        unfold runAt
        repeat' split
        all_goals omega
      have en : ys[k]? = none := by simp; omega
      refine wpAny_bind (wpAny_bind (wpAny_onRaise (((c1 _ ?c1) k ys _ _ _ _ _ _ (x3 _ _ D.TOz.symm z2) (x3 _ _ D.TITO t2) rfl).2 ?ee ((((h2 (by omega)).extBut x1 D.i2z).at fun o e => k2 _ o D.i2z D.TIi2.symm D.i12.symm e).extBut x3 D.TOi2.symm)
        (((hl2.extBut x1 D.l2z).at fun o e => k2 _ o D.l2z hl2T D.l2i1 e).extBut x3 D.l2TO) |>.2.2 en er1 fun g4 z4 k4 => ?main)))
      case ee =>
        show ent ys.size k i2 = _
        unfold ent
        rw [if_neg (by omega)]
      case main =>
        refine wpAny_bind (wpAny_setField_rec z4 (by simp) fun g5 z5 s5 => ?_)
        refine wpAny_bind (hend g5 _ fun g6 e kk he => hE _ _ (fun c o n1 n2 n3 n4 n5 q => kk _ _ (s5.extBut _ _ n1 (k4 _ _ n1 n5 (x3 _ _ n3 (k2 _ _ n1 n2 n4 (x1 _ _ n1 q)))))) he)
      case c1 =>
        show ColT _ _ _ _ z TI TO i2 l2 1 d
        have hiz := D.i2z
        have hTi := D.TIi2
        clear hE
        intro k xs es f0 run E s Q hz hT hn
        refine ⟨fun e q => ?_, fun e hi hl => ⟨fun x hx q => ?_, fun hx hr q => ?_, fun hx hr q => ?_⟩⟩
        all_goals
          show wpAny _ _ (field (.ref z) 4 >>= _) _ _ s
          refine wpAny_bind (wpAny_field hz rfl (x := .ref TI) rfl ?_)
          refine wpAny_bind (zl_pool hT ?_)
          rw [e]
          refine wpAny_bind (wpAny_field hz rfl (x := d) rfl ?_)
        · rw [if_pos (show (Value.none == Value.none) = true from rfl)]
          exact wpAny_pure q
        all_goals rw [if_neg (fun e : (Value.ref _ == Value.none) = true => Bool.false_ne_true e)]
        · exact wpAny_bind (wpAny_onRaise (wpAny_pyNext_list_item hi hl hx fun h' a1 a2 => wpAny_pure (q h' a1 a2)))
        all_goals
          refine wpAny_bind (wpAny_onRaise (zl_end hh hi hl hx fun h' a1 a2 a3 => ?_))
          refine wpAny_bind (zl_pool (a1 _ _ hTi hT) ?_)
          rw [e, if_neg (fun e : (Value.ref _ == Value.none) = true => Bool.false_ne_true e)]
          refine wpAny_bind (zl_run (a1 _ _ hiz.symm hz) ?_)
          refine wpAny_bind (wpAny_setField_rec (a1 _ _ hiz.symm hz) (by simp) fun h'' b1 b2 => ?_)
          have x2 := b2.extBut
        · rw [if_neg (by rw [beq_iff_eq]; exact hr)]
          refine wpAny_bind (wpAny_rule ?_)
          refine wpAny_bind (zl_put (x2 _ _ D.TIz (a1 _ _ hTi hT)) hn fun h3 c1 c2 => ?_)
          refine wpAny_bind (wpAny_letGo (wpAny_pure ?_))
          have x3 := c2.extBut
          refine q h3 (x3 _ _ D.TIz.symm b1) c1 ((a2.at fun o e => x2 _ o hiz e).at fun o e => x3 _ o hTi.symm e) ?_ fun c o n1 n2 n3 e => x3 _ _ n2 (x2 _ _ n1 (a1 _ _ n3 e))
          have q1 : h''.objs.size = h'.objs.size := b2.1
          have q2 : h3.objs.size = h''.objs.size := c2.1
          omega
        · rw [if_pos (by rw [hr]; rfl)]
          subst hr
          exact wpAny_pure (q h'' b1 fun c o n1 n3 e => x2 _ _ n1 (a1 _ _ n3 e))
    case r0 =>
      unfold runAt
      repeat' split
      all_goals omega
    case c0 =>
      show ColT _ _ _ _ z TI TO i1 l1 0 d
      have hiz := D.i1z
      have hTi := D.TIi1
      clear hE
      intro k xs es f0 run E s Q hz hT hn
      refine ⟨fun e q => ?_, fun e hi hl => ⟨fun x hx q => ?_, fun hx hr q => ?_, fun hx hr q => ?_⟩⟩
      all_goals
        show wpAny _ _ (field (.ref z) 4 >>= _) _ _ s
        refine wpAny_bind (wpAny_field hz rfl (x := .ref TI) rfl ?_)
        refine wpAny_bind (zl_pool hT ?_)
        rw [e]
        refine wpAny_bind (wpAny_field hz rfl (x := d) rfl ?_)
      · rw [if_pos (show (Value.none == Value.none) = true from rfl)]
        exact wpAny_pure q
      all_goals rw [if_neg (fun e : (Value.ref _ == Value.none) = true => Bool.false_ne_true e)]
      · exact wpAny_bind (wpAny_onRaise (wpAny_pyNext_list_item hi hl hx fun h' a1 a2 => wpAny_pure (q h' a1 a2)))
      all_goals
        refine wpAny_bind (wpAny_onRaise (zl_end hh hi hl hx fun h' a1 a2 a3 => ?_))
        refine wpAny_bind (zl_pool (a1 _ _ hTi hT) ?_)
        rw [e, if_neg (fun e : (Value.ref _ == Value.none) = true => Bool.false_ne_true e)]
        refine wpAny_bind (zl_run (a1 _ _ hiz.symm hz) ?_)
        refine wpAny_bind (wpAny_setField_rec (a1 _ _ hiz.symm hz) (by simp) fun h'' b1 b2 => ?_)
        have x2 := b2.extBut
      · rw [if_neg (by rw [beq_iff_eq]; exact hr)]
        refine wpAny_bind (wpAny_rule ?_)
        refine wpAny_bind (zl_put (x2 _ _ D.TIz (a1 _ _ hTi hT)) hn fun h3 c1 c2 => ?_)
        refine wpAny_bind (wpAny_letGo (wpAny_pure ?_))
        have x3 := c2.extBut
        refine q h3 (x3 _ _ D.TIz.symm b1) c1 ((a2.at fun o e => x2 _ o hiz e).at fun o e => x3 _ o hTi.symm e) ?_ fun c o n1 n2 n3 e => x3 _ _ n2 (x2 _ _ n1 (a1 _ _ n3 e))
        have q1 : h''.objs.size = h'.objs.size := b2.1
        have q2 : h3.objs.size = h''.objs.size := c2.1
        omega
      · rw [if_pos (by rw [hr]; rfl)]
        subst hr
        exact wpAny_pure (q h'' b1 fun c o n1 n3 e => x2 _ _ n1 (a1 _ _ n3 e))
end
end ZL
namespace ZL
open PySem PySem.Spec PyProof.Rows
section
variable {prog : Program} {w : World} {A : Around} {E : Value → Shared → Prop} {s : Shared}
theorem zl_pyNext {z TI TO i1 i2 l1 l2 : Addr} {k : Nat} {d : Value} {xs ys : Array Value} {Q : Option Value → Shared → Prop} (hh : A.handled = none) (D : ZipApart z TI TO i1 i2 l1 l2) (hl1T : l1 ≠ TI) (hl2T : l2 ≠ TI)
    (S : ZSt z TI TO i1 i2 l1 l2 d xs.size ys.size k .none s.heap) (hl1 : s.heap.IsList l1 xs) (hl2 : s.heap.IsList l2 ys) (hk : k < xs.size ∨ k < ys.size)
    (hQ : ∀ h' (T : Addr), ZSt z TI TO i1 i2 l1 l2 d xs.size ys.size (k + 1) (rawInt T) h' → Tup h' T #[xs[k]?.getD d, ys[k]?.getD d] → s.heap.objs.size ≤ T →
      (∀ c o, c ≠ z → c ≠ TI → c ≠ TO → c ≠ i1 → c ≠ i2 → s.heap.get? c = some o → h'.get? c = some o) → Q (some (.ref T)) { s with heap := h' }) :
    wpAny (model prog w) A (pyNext (.ref z)) Q E s := by
  have hT : s.TypeIs (.ref z) "itertools.zip_longest" := ⟨_, S.1, rfl⟩
  have hh1 : A.in1.handled = none := hh
  unfold pyNext
  refine wpAny_bind (wpAny_attempt (wpAny_callSpecial?_slot (name := Str.ofString "__next__") hT zl_slot_next (wpAny_call_entry zl_slot_next hT zl_entry_next ?_ (zl_args_next _))))
  exact zl_next hh1 D hl1T hl2T S hl1 hl2 hk fun h' T a1 a2 a3 a4 => wpAny_pure (hQ h' T a1 a2 a3 a4)
theorem zl_pyStop {z TI TO i1 i2 l1 l2 : Addr} {k : Nat} {d : Value} {xs ys : Array Value} {Q : Option Value → Shared → Prop} (hh : A.handled = none) (D : ZipApart z TI TO i1 i2 l1 l2) (hl1T : l1 ≠ TI) (hl2T : l2 ≠ TI)
    (S : ZSt z TI TO i1 i2 l1 l2 d xs.size ys.size k .none s.heap) (hl1 : s.heap.IsList l1 xs) (hl2 : s.heap.IsList l2 ys) (hk : (k = xs.size ∧ ys.size ≤ k) ∨ (k = ys.size ∧ xs.size ≤ k))
    (hQ : ∀ h', (∀ c o, c ≠ z → c ≠ TI → c ≠ TO → c ≠ i1 → c ≠ i2 → s.heap.get? c = some o → h'.get? c = some o) → Q none { s with heap := h' }) :
    wpAny (model prog w) A (pyNext (.ref z)) Q E s := by
  have hT : s.TypeIs (.ref z) "itertools.zip_longest" := ⟨_, S.1, rfl⟩
  have hh1 : A.in1.handled = none := hh
  unfold pyNext
  refine wpAny_bind (wpAny_attempt (wpAny_callSpecial?_slot (name := Str.ofString "__next__") hT zl_slot_next (wpAny_call_entry zl_slot_next hT zl_entry_next ?_ (zl_args_next _))))
  refine zl_stop hh1 D hl1T hl2T S hl1 hl2 hk fun h' e kk he => ?_
  obtain ⟨o, ho, hc⟩ := he
  exact wpAny_bind (wpAny_isInstance (b := true) (T := "StopIteration") ⟨o, ho, hc⟩ isSubtype_stop (wpAny_pure (hQ _ kk)))
theorem zl_go {elts : List Expr} {x1 : Nat} {pos : Pos} {z TI TO T i1 i2 l1 l2 : Addr} {d : Value} {n m k : Nat} {Q : Unit → Shared → Prop} (D : ZipApart z TI TO i1 i2 l1 l2) (S : ZSt z TI TO i1 i2 l1 l2 d n m k (rawInt T) s.heap)
    (hQ : ∀ h', ZSt z TI TO i1 i2 l1 l2 d n m k .none h' → Heap.SameBut z s.heap h' → Q () { s with heap := h' }) : wpAny (model prog w) A (letOwnedTupleGo (.Tuple elts x1 pos) (.ref z) (.ref T)) Q E s := by
  obtain ⟨hz, hTI, ⟨a, b, hTO⟩, h1, h2, f1, f2⟩ := S
  unfold letOwnedTupleGo
  refine wpAny_bind (wpAny_load hz ?_)
  have e : (["enumerate", "zip", "dict_itemiterator", "dict_reverseitemiterator", "odict_iterator", "itertools.zip_longest", "itertools.pairwise"].contains "itertools.zip_longest" &&
    (#[rawInt T, .bool false, d, .int (runAt n m k) 0, .ref TI, .ref TO] : Array Value)[0]? == some (rawInt T)) = true := by simp
  show wpAny _ _ (if _ = true then _ else _) Q E s
  rw [if_pos e]
  refine wpAny_bind (wpAny_rule ?_)
  show wpAny _ _ (setField (.ref z) 0 .none) Q E s
  refine wpAny_setField_rec hz (by simp) fun h' z' s' => ?_
  have x := s'.extBut
  exact hQ h' ⟨z', x _ _ D.TIz hTI, ⟨a, b, x _ _ D.TOz hTO⟩, fun q => (h1 q).extBut x D.i1z, fun q => (h2 q).extBut x D.i2z, f1.at fun o e => x _ o D.i1z e, f2.at fun o e => x _ o D.i2z e⟩ s'
theorem zl_pyIter {z TI TO : Addr} {f0 d : Value} {run : Int} {Q : Value → Shared → Prop} (hz : IsZL s.heap z TI TO f0 d run) (q : Q (.ref z) s) : wpAny (model prog w) A (pyIter (.ref z)) Q E s := by
  have hT : s.TypeIs (.ref z) "itertools.zip_longest" := ⟨_, hz, rfl⟩
  refine wpAny_pyIter_slot hT zl_slot_iter (wpAny_call_entry zl_slot_iter hT zl_entry_iter ?_ (zl_args_iter _))
  show wpAny _ _ (ret (.ref z)) _ _ s
  exact wpAny_pure ⟨_, rfl, "itertools.zip_longest", _, hT, zl_slot_next.lookup, q⟩
end
abbrev zH1 (h : Heap) (l1 : Addr) : Heap := Heap.push h { cls := .type "list_iterator", data := .fields #[.ref l1, .int 0 0] }
abbrev zH2 (h : Heap) (l1 l2 : Addr) : Heap := Heap.push (zH1 h l1) { cls := .type "list_iterator", data := .fields #[.ref l2, .int 0 0] }
abbrev zH3 (h : Heap) (l1 l2 : Addr) : Heap := Heap.push (zH2 h l1 l2) { cls := .type "tuple", data := .seq #[.ref h.objs.size, .ref (zH1 h l1).objs.size] }
abbrev zH4 (h : Heap) (l1 l2 : Addr) : Heap := Heap.push (zH3 h l1 l2) { cls := .type "tuple", data := .seq #[.none, .none] }
abbrev zH5 (h : Heap) (l1 l2 : Addr) (d : Value) : Heap := Heap.push (zH4 h l1 l2) { cls := .type "itertools.zip_longest", data := .fields #[.none, .bool false, d, .int 2 0, .ref (zH2 h l1 l2).objs.size, .ref (zH3 h l1 l2).objs.size] }
theorem zl_new (l1 l2 : Addr) (xs ys : Array Value) (d : Value) : Meets (Builtin.«itertools.zip_longest.__new__» ⟨[.type "itertools.zip_longest", .ref l1, .ref l2], [(Str.ofString "fillvalue", d)]⟩)
    (fun _ R s => s.heap.IsList l1 xs ∧ s.heap.IsList l2 ys ∧ R (.ok (.ret (.ref (zH4 s.heap l1 l2).objs.size))) { s with heap := zH5 s.heap l1 l2 d }) :=
  .of_wp fun prog w A R s h => by
    obtain ⟨hp, g, dd, tk, os⟩ := s
    obtain ⟨hl1, hl2, h⟩ := h
    have es : ("itertools." ++ "zip_longest" : String) = "itertools.zip_longest" := by decide +kernel
    have hsub : isSubtype (.type "itertools.zip_longest") (.type ("itertools." ++ "zip_longest")) = pure true := by
      rw [es]
      exact zl_sub
    have hnd := zl_noDict
    have e1 : (Str.ofString "fillvalue" == ("fillvalue" : Str)) = true := by decide +kernel
    have hL1 : Heap.IsList (Shared.heap ⟨hp, g, dd, tk, os⟩) l1 xs := hl1
    have hL2 : Heap.IsList (Shared.heap ⟨zH1 hp l1, g, dd, tk, os⟩) l2 ys := Heap.IsList.push hl2 _
    wp_walk using wpAny_pyIter_list hL1, wpAny_pyIter_list hL2
    exact ⟨_, rfl, h⟩
end ZL
namespace ZL
open PySem PySem.Spec PyProof.Rows
section
variable {prog : Program} {w : World} {A : Around} {E : Value → Shared → Prop} {s : Shared}
theorem zl_call {l1 l2 : Addr} {xs ys : Array Value} {d : Value} {Q : Value → Shared → Prop} (hl1 : s.heap.IsList l1 xs) (hl2 : s.heap.IsList l2 ys)
    (h : ∀ h', ZSt (s.heap.objs.size + 4) (s.heap.objs.size + 2) (s.heap.objs.size + 3) s.heap.objs.size (s.heap.objs.size + 1) l1 l2 d xs.size ys.size 0 .none h' → h'.objs.size = s.heap.objs.size + 5 →
      (∀ c o, s.heap.get? c = some o → h'.get? c = some o) → Q (.ref (s.heap.objs.size + 4)) { s with heap := h' }) :
    wpAny (model prog w) A (call (.type "itertools.zip_longest") [.ref l1, .ref l2] [(Str.ofString "fillvalue", d)]) Q E s := by
  refine callType_newKw zl_called (by decide) (zl_typeCall _ _ _) (zl_newCall _ _ _) (fun o => zl_initArgs o _ _ _) zl_entry_new (zl_new l1 l2 xs ys d) ⟨hl1, hl2, ?_⟩
  have y1 : (zH1 s.heap l1).objs.size = s.heap.objs.size + 1 := Heap.size_push ..
  have y2 : (zH2 s.heap l1 l2).objs.size = s.heap.objs.size + 2 := by rw [Heap.size_push, y1]
  have y3 : (zH3 s.heap l1 l2).objs.size = s.heap.objs.size + 3 := by rw [Heap.size_push, y2]
  have y4 : (zH4 s.heap l1 l2).objs.size = s.heap.objs.size + 4 := by rw [Heap.size_push, y3]
  have y5 : (zH5 s.heap l1 l2 d).objs.size = s.heap.objs.size + 5 := by rw [Heap.size_push, y4]
  have u5 : (zH5 s.heap l1 l2 d).get? (zH4 s.heap l1 l2).objs.size = some _ := Heap.get?_push_size _ rfl
  have u4 : (zH5 s.heap l1 l2 d).get? (zH3 s.heap l1 l2).objs.size = some _ := Heap.get?_push_of_some _ (Heap.get?_push_size _ rfl)
  have u3 : (zH5 s.heap l1 l2 d).get? (zH2 s.heap l1 l2).objs.size = some _ := Heap.get?_push_of_some _ (Heap.get?_push_of_some _ (Heap.get?_push_size _ rfl))
  have u2 : (zH5 s.heap l1 l2 d).get? (zH1 s.heap l1).objs.size = some _ := Heap.get?_push_of_some _ (Heap.get?_push_of_some _ (Heap.get?_push_of_some _ (Heap.get?_push_size _ rfl)))
  have u1 : (zH5 s.heap l1 l2 d).get? s.heap.objs.size = some _ := Heap.get?_push_of_some _ (Heap.get?_push_of_some _ (Heap.get?_push_of_some _ (Heap.get?_push_of_some _ (Heap.get?_push_size _ rfl))))
  rw [y2, y3, y4] at u5
  rw [y1, y2] at u3
  rw [y3] at u4
  rw [y1] at u2
  show _ ∧ _
  rw [y4]
  refine ⟨⟨_, u5, rfl⟩, h _ ⟨?_, ?_, ⟨_, _, u4⟩, fun _ => ⟨_, u1, rfl, rfl⟩, fun _ => ⟨_, u2, rfl, rfl⟩, ⟨_, _, u1, rfl⟩, ⟨_, _, u2, rfl⟩⟩ y5 fun c o q =>
    Heap.get?_push_of_some _ (Heap.get?_push_of_some _ (Heap.get?_push_of_some _ (Heap.get?_push_of_some _ (Heap.get?_push_of_some _ q))))⟩
  · have er : runAt xs.size ys.size 0 = 2 := by
      unfold runAt
      rw [if_neg (by omega), if_neg (by omega)]
      rfl
    rw [er]
    exact u5
  · unfold ent
    rw [if_neg (by omega), if_neg (by omega)]
    exact u3
theorem callWith_tyKw {pos : Pos} {T : String} {env : Env} {e : Expr} {rest : List Expr} {kws : List Keyword} {M : Model} {Q : Value → Shared → Prop}
    (h : wpAny M A (spliced (backTo pos (starEach (e :: rest) env))) (fun vs s1 => wpAny M A (evalAll ((backToKw pos (keywordEach kws env)).map (·.2)))
      (fun ks s2 => wpAny M A (call (.type T) vs (((backToKw pos (keywordEach kws env)).filterMap (·.1)).zip ks)) Q E s2) E s1) E s)
    (he : backTo pos (starEach (e :: rest) env) = (false, eval e env) :: backTo pos (starEach rest env) := by rfl) (hp : (backTo pos (starEach (e :: rest) env)).any (·.1) = false := by rfl)
    (hall : (backToKw pos (keywordEach kws env)).all (·.1.isSome) = true := by rfl) (hn : (backToKw pos (keywordEach kws env)).any (·.1.isNone) = false := by rfl) :
    wpAny M A (callWith pos (.type T) [] (backTo pos (starEach (e :: rest) env)) (backToKw pos (keywordEach kws env))) Q E s := by
  have g : wpAny M A (evalArgs (.type T) true (backTo pos (starEach (e :: rest) env)) (backToKw pos (keywordEach kws env))) (fun a s1 => wpAny M A (call (.type T) ([] ++ a.pos) a.kw) Q E s1) E s := by
    rw [he] at h ⊢
    exact evalArgs_kwB hall h
  unfold callWith
  refine wpAny_bind (wpAny_holding (wpAny_mono g (fun a s1 q => wpAny_bind (wpAny_standAt ?_)) fun _ _ q => q))
  simp only [hn, hp, Bool.or_false]
  refine wpAny_bind (wpAny_pure ?_)
  exact wpAny_bind (wpAny_mono q (fun r s2 q2 => wpAny_bind (wpAny_holding (wpAny_point (wpAny_pure q2)))) fun _ _ q => q)
end
end ZL
namespace L2
open PySem PySem.Spec PyProof.Rows ZL
theorem relV_getD {xs : List V} {us : List Value} {d : V} {u : Value} (r : Vals xs us) (rd : RelV d u) (i : Nat) : RelV (xs[i]?.getD d) (us.toArray[i]?.getD u) := by
  cases e : xs[i]? with
  | none =>
    have hn : us.toArray[i]? = none := by
      have hl := r.length
      have := List.getElem?_eq_none_iff.mp e
      simp
      omega
    rw [hn]
    exact rd
  | some x =>
    obtain ⟨v, hv, rv⟩ := r.get e
    have hv' : us.toArray[i]? = some v := by simpa using hv
    rw [hv']
    exact rv
/-- two lists at a and b, as they stand, side by side, d in the place of what is wanting -/
def ItLg (K : PySem.W.Frag) (a b : Addr) (d : V) (n m : Nat) : It where
  go := fun i H => ∃ xs ys : List V, SqL K H a xs ∧ SqL K H b ys ∧ xs.length = n ∧ ys.length = m ∧ (i < n ∨ i < m)
  yld := fun i H v H' => ∃ (T : Addr) (x y : V), v = .ref T ∧ H T = none ∧ H' = upd H T (.tup [x, y]) ∧ (∀ xs, SqL K H a xs → x = xs[i]?.getD d) ∧ ∀ ys, SqL K H b ys → y = ys[i]?.getD d
  stop := fun i H => ∃ xs ys : List V, SqL K H a xs ∧ SqL K H b ys ∧ xs.length = n ∧ ys.length = m ∧ ((i = n ∧ m ≤ i) ∨ (i = m ∧ n ≤ i))
theorem turn_zipL {P : Program} {w : World} {K : PySem.W.Frag} {elts : List Expr} {kk : Nat} {tpos : Pos} {a b z TI TO i1 i2 : Addr} {d : V} {u : Value} {n m : Nat} (D : ZipApart z TI TO i1 i2 a b) (haT : a ≠ TI) (hbT : b ≠ TI) (rd : RelV d u) :
    Turn P w K (.Tuple elts kk tpos) (ItLg K a b d n m) [z, TI, TO, i1, i2] z (fun i h => ZSt z TI TO i1 i2 a b u n m i .none h) where
  mem := by simp
  obj := fun i h st c hc => by
    obtain ⟨hz, hTI, ⟨x, y, hTO⟩, _, _, ⟨o1, v1, e1, d1⟩, o2, v2, e2, d2⟩ := st
    have e' : c = z ∨ c = TI ∨ c = TO ∨ c = i1 ∨ c = i2 := by simpa using hc
    rcases e' with q | q | q | q | q <;> rw [q]
    · exact ⟨_, hz, fun v q => nomatch q⟩
    · exact ⟨_, hTI, fun v q => nomatch q⟩
    · exact ⟨_, hTO, fun v q => nomatch q⟩
    · exact ⟨o1, e1, fun v q => by rw [d1] at q; cases q⟩
    · exact ⟨o2, e2, fun v q => by rw [d2] at q; cases q⟩
  keep := fun i h h' st k => by
    obtain ⟨hz, hTI, ⟨x, y, hTO⟩, h1, h2, f1, f2⟩ := st
    exact ⟨k z (by simp) _ hz, k TI (by simp) _ hTI, ⟨x, y, k TO (by simp) _ hTO⟩, fun q => (h1 q).at fun o e => k i1 (by simp) o e, fun q => (h2 q).at fun o e => k i2 (by simp) o e, f1.at fun o e => k i1 (by simp) o e, f2.at fun o e => k i2 (by simp) o e⟩
  item := by
    intro X hP hw hK hc i pins s σ H E I hf st hg
    subst hP hw hK
    obtain ⟨xs, ys, hqx, hqy, en, em, hk⟩ := hg
    obtain ⟨its, rv, p, _⟩ := I.list hqx
    obtain ⟨its2, rv2, p2, _⟩ := I.list hqy
    have en' : its.toArray.size = n := by
      have := rv.length
      simp
      omega
    have em' : its2.toArray.size = m := by
      have := rv2.length
      simp
      omega
    obtain ⟨hz, hTI, ⟨x0, y0, hTO⟩, h1, h2, ⟨o1, v1, e1, d1⟩, o2, v2, e2, d2⟩ := id st
    have hzl : z < s.heap.objs.size := Heap.lt_size hz
    rw [← en', ← em'] at st hk
    refine zl_pyNext (I.ok.hd hc) D haT hbT st p.isList p2.isList hk fun h' T S' hT hle kp => ?_
    refine ⟨_, rfl, zl_go D S' (s := { s with heap := h' }) fun h'' S2 sb => ?_⟩
    have hTz : T ≠ z := Nat.ne_of_gt (Nat.lt_of_lt_of_le hzl hle)
    have hT2 : h''.get? T = some { cls := .type "tuple", data := .seq #[its.toArray[i]?.getD u, its2.toArray[i]?.getD u] } := (sb.2 _ hTz).trans hT
    have new : ObjOk X.prog X.w (upd H T (.tup [xs[i]?.getD d, ys[i]?.getD d])) h'' T (.tup [xs[i]?.getD d, ys[i]?.getD d]) :=
      ⟨by show 2 ≤ sizeLine; decide, [its.toArray[i]?.getD u, its2.toArray[i]?.getD u], .cons (relV_getD rv rd i) (.cons (relV_getD rv2 rd i) .nil), ⟨_, hT2, rfl, _, rfl⟩⟩
    have I1 : Inv X pins σ (upd H T (.tup [xs[i]?.getD d, ys[i]?.getD d])) { s with heap := h'' } :=
      I.turnedNew (ch := [z, TI, TO, i1, i2]) (t' := s.toks) (fun c o hb q => (sb.2 c (fun e => hb (by simp [e]))).trans (kp c o (fun e => hb (by simp [e])) (fun e => hb (by simp [e])) (fun e => hb (by simp [e])) (fun e => hb (by simp [e])) (fun e => hb (by simp [e])) q)) hf hle new
    rw [en', em'] at S2
    refine ⟨.ref T, _, I1, rfl, ⟨T, _, _, rfl, I.hok.fresh hle, rfl, fun l hl => by rw [I.list_inj hl hqx], fun l hl => by rw [I.list_inj hl hqy]⟩, S2, fun c hcm => ?_⟩
    have hlt : c < s.heap.objs.size := by
      have e' : c = z ∨ c = TI ∨ c = TO ∨ c = i1 ∨ c = i2 := by simpa using hcm
      rcases e' with q | q | q | q | q <;> rw [q]
      · exact hzl
      · exact Heap.lt_size hTI
      · exact Heap.lt_size hTO
      · exact Heap.lt_size e1
      · exact Heap.lt_size e2
    rw [upd_ne (Nat.ne_of_lt (Nat.lt_of_lt_of_le hlt hle))]
    exact (hf c hcm).1
  done := by
    intro X hP hw hK hc i pins s σ H E I hf st hg
    subst hP hw hK
    obtain ⟨xs, ys, hqx, hqy, en, em, hk⟩ := hg
    obtain ⟨its, rv, p, _⟩ := I.list hqx
    obtain ⟨its2, rv2, p2, _⟩ := I.list hqy
    have en' : its.toArray.size = n := by
      have := rv.length
      simp
      omega
    have em' : its2.toArray.size = m := by
      have := rv2.length
      simp
      omega
    rw [← en', ← em'] at st hk
    exact zl_pyStop (I.ok.hd hc) D haT hbT st p.isList p2.isList hk fun h' kp => ⟨rfl, I.turnedL (ch := [z, TI, TO, i1, i2]) (t' := s.toks)
      (fun c o hb q => kp c o (fun e => hb (by simp [e])) (fun e => hb (by simp [e])) (fun e => hb (by simp [e])) (fun e => hb (by simp [e])) (fun e => hb (by simp [e])) q) hf⟩
  self := fun A i s Q E st h => zl_pyIter st.1 h
def iZipL (K : PySem.W.Frag) (ta tk : TA) : TI := fun σ H R => ta σ H fun vs H1 => tk σ H1 fun zs H2 => ∃ (a b : Addr) (xs ys : List V) (d : V), vs = [.ref a, .ref b] ∧ zs = [d] ∧ SqL K H2 a xs ∧ SqL K H2 b ys ∧ R (ItLg K a b d xs.length ys.length) H2
theorem pi_zipL {X : Cx} {e e2 : Expr} {kws : List Keyword} {ta tk : TA} {p pos tpos : Pos} {elts : List Expr} {kk : Nat} (hg : Gl X "zip_longest") (hm : X.mg "zip_longest" = some (.type "itertools.zip_longest")) (ha : PA X [e, e2] ta) (hk : PK X kws tk)
    (he : backTo pos (starEach [e, e2] X.env) = (false, eval e X.env) :: backTo pos (starEach [e2] X.env) := by rfl) (hp : (backTo pos (starEach [e, e2] X.env)).any (·.1) = false := by rfl)
    (hall : (backToKw pos (keywordEach kws X.env)).all (·.1.isSome) = true := by rfl) (hn : (backToKw pos (keywordEach kws X.env)).any (·.1.isNone) = false := by rfl) (hks : (backToKw pos (keywordEach kws X.env)).filterMap (·.1) = [Str.ofString "fillvalue"] := by rfl) :
    PI X (.Tuple elts kk tpos) (.Call (.Name "zip_longest" p) [e, e2] kws pos) (iZipL X.K ta tk) := by
  refine ⟨fun pins s σ H R I h => ?_⟩
  refine wpAny_Call_Name_kw (ld_glob I hg hm ?_)
  refine callWith_tyKw (thn (ha.run pos pins s σ H _ I h) fun us s1 ⟨vs, H1, I1, r1, q1⟩ => thn (hk.run pos pins s1 σ H1 _ I1 q1) fun ws s2 ⟨zs, H2, I2, r2, q2⟩ => ?_) he hp hall hn
  rw [hks]
  obtain ⟨a, b, xs, ys, d, rfl, rfl, hqx, hqy, q⟩ := q2
  cases r1 with
  | cons r rr =>
    cases rr with
    | cons r' rr =>
      cases rr
      cases r
      cases r'
      cases r2 with
      | cons rd rz =>
        cases rz
        obtain ⟨its, rv, p1, _⟩ := I2.list hqx
        obtain ⟨its2, rv2, p2, _⟩ := I2.list hqy
        have la : a < s2.heap.objs.size := p1.lt
        have lb : b < s2.heap.objs.size := p2.lt
        refine zl_call p1.isList p2.isList fun h' S hsz hkp => zl_pyIter S.1 ?_
        have I3 : Inv X pins σ H2 { s2 with heap := h' } := I2.kept (t' := s2.toks) hkp
        have en' : its.toArray.size = xs.length := by
          have := rv.length
          simp
          omega
        have em' : its2.toArray.size = ys.length := by
          have := rv2.length
          simp
          omega
        rw [en', em'] at S
        refine ⟨s2.heap.objs.size + 4, [s2.heap.objs.size + 4, s2.heap.objs.size + 2, s2.heap.objs.size + 3, s2.heap.objs.size, s2.heap.objs.size + 1], _, _, H2, rfl, I3, turn_zipL (PySem.W.ktu_apart s2.heap.objs.size a b la lb) (Nat.ne_of_lt (Nat.lt_of_lt_of_le la (Nat.le_add_right _ _))) (Nat.ne_of_lt (Nat.lt_of_lt_of_le lb (Nat.le_add_right _ _))) rd, S, fun c hcm => ?_, q⟩
        have hle : s2.heap.objs.size ≤ c := by
          have e' : c = s2.heap.objs.size + 4 ∨ c = s2.heap.objs.size + 2 ∨ c = s2.heap.objs.size + 3 ∨ c = s2.heap.objs.size ∨ c = s2.heap.objs.size + 1 := by simpa using hcm
          rcases e' with q | q | q | q | q <;> rw [q]
          all_goals first | exact Nat.le_add_right _ _ | exact Nat.le_refl _
        exact I2.fpOk hle (I2.hok.fresh hle)
end L2
/-! ## comprehensions over zip_longest -/
namespace XP
open PySem PySem.Spec PyProof.Rows L2 Evl
section
variable {K : PySem.W.Frag} {σ : L2.St} {H : Hp} {ta tb te : TE} {t : TT} {a b : Addr} {xs ys : List V} {d : V} {j k : Nat} {vs : List Nat} {D : Ends} {tu tz : TS}
/-- [.. for x, y in zip_longest(xs, ys, fillvalue=d)] -/
theorem el_lcZ {t1 t2 : TA} (f : Nat → Bool) (val : Nat → V) (h1 : EvA t1 σ H [.ref a, .ref b]) (h2 : EvA t2 σ H [d]) (hx : SqL K H a xs) (hy : SqL K H b ys) (hn : xs.length ≤ 40000 ∧ ys.length ≤ 40000) (hw : ∀ x y, wipe (((wipe σ vs).set j (some x)).set k (some y)) vs = wipe σ vs)
    (ht : ∀ i H2, i < max xs.length ys.length → Ex H H2 → EvT t (((wipe σ vs).set j (some (xs[i]?.getD d))).set k (some (ys[i]?.getD d))) H2 (f i))
    (he : ∀ i H2, i < max xs.length ys.length → Ex H H2 → f i = true → Ev te (((wipe σ vs).set j (some (xs[i]?.getD d))).set k (some (ys[i]?.getD d))) H2 (val i)) :
    EvL (tLc (iZipL K t1 t2) (g2n K j k) t te vs) σ H (given (max xs.length ys.length) f val) := fun H0 e Q q =>
  h1 H0 e _ fun H1 e1 => h2 H1 (e.trans e1) _ fun H2 e2 => by
    have e02 := e.trans (e1.trans e2)
    refine ⟨a, b, xs, ys, d, rfl, rfl, ex_l e02 hx, ex_l e02 hy, fun Dl hD => ?_⟩
    refine lc_pair (n := max xs.length ys.length) (u := fun i => xs[i]?.getD d) (v := fun i => ys[i]?.getD d) (f := f) (val := val) (fun i H3 hi e3 => ⟨xs, ys, ex_l (e02.trans e3) hx, ex_l (e02.trans e3) hy, rfl, rfl, by omega⟩) (fun H3 e3 => ⟨xs, ys, ex_l (e02.trans e3) hx, ex_l (e02.trans e3) hy, rfl, rfl, by omega⟩)
      (fun i H3 x H4 hi e3 y => ?_) (by omega) hw (fun i H3 hi e3 => ht i H3 hi (e02.trans e3)) (fun i H3 hi e3 => he i H3 hi (e02.trans e3)) hD (fun H3 p => q Dl H3 (fresh_back (e1.trans e2) p.1) ((e1.trans e2).trans p.2.1) p.2.2)
    obtain ⟨T, x', y', rfl, hT, rfl, k1, k2⟩ := y
    exact ⟨T, rfl, hT, by rw [k1 xs (ex_l (e02.trans e3) hx), k2 ys (ex_l (e02.trans e3) hy)]⟩
end
end XP
/-! ## Things of any kind compared with themselves; x not in a tuple; tuple(xs) -/
namespace XP
open PySem PySem.Spec PyProof.Rows L2 Evl
section
variable {X : Cx} {K : PySem.W.Frag}
def rTupleK (K : PySem.W.Frag) : List V → Hp → VK → Prop := fun xs H Q => ∃ p ys, xs = [.ref p] ∧ ((SqL K H p ys ∧ ∀ l, H l = none → Q (.ref l) (upd H l (.tup ys))) ∨ (SqT K H p ys ∧ Q (.ref p) H))
theorem tupleK (h : X.K = K) : CallR X (.type "tuple") (rTupleK K) := h ▸ call_tuple_of
def rNeA (K : PySem.W.Frag) : R2 := fun x y H Q => rNeD K x y H Q ∨ rNeDA x y H Q
theorem neAK (h : X.K = K) (hu : X.A.units + 64 < cLine) : OpR X (compareOp .NotEq) (rNeA K) := by
  subst h
  intro pins s σ H x y v u Q I rx ry h
  rcases h with h | h
  · exact op_neD hu _ _ _ _ _ _ _ _ _ I rx ry h
  · exact op_ne_dictA (by omega) _ _ _ _ _ _ _ _ _ I rx ry h
def rNotInT (K : PySem.W.Frag) : R2 := fun x y H Q => ∃ d ds, Dp K H x d ∧ Dp K H y (.tuple ds) ∧ d.canLay0 = true ∧ d.depth ≤ 8 ∧ PyData.canLayAll0 ds = true ∧ Q (.bl (!ds.any fun z => PyData.eqv z d)) H
theorem notInTK (h : X.K = K) (hu : X.A.units + 64 < cLine) : OpR X (compareOp .NotIn) (rNotInT K) := by
  subst h
  intro pins s σ H x y v u Q I rx ry h
  obtain ⟨d, ds, hd, he, sd, dd, se, q⟩ := h
  obtain ⟨as, r1⟩ := Dp.reads I d x v hd rx
  obtain ⟨bs, r2⟩ := Dp.reads I (.tuple ds) y u he ry
  exact SeqAt.notIn_tuple_reads r2 r1 se sd (by have := Nat.min_le_right (PyData.depthAll ds) d.depth; omega) ⟨.bl _, H, I, rfl, q⟩
end
mutual
theorem Dp.mono {K : PySem.W.Frag} {H H' : Hp} (e : Ex H H') : ∀ (d : PyData) (v : V), Dp K H v d → Dp K H' v d
  | .none, _, h => by cases h; exact .non
  | .bool _, _, h => by cases h; exact .bl _
  | .int _, _, h => by cases h; exact .int _
  | .str _, _, h => by cases h; exact .str _
  | .list ds, _, h => by
    cases h with
    | lst hs ha => exact .lst (ex_l e hs) (DpAll.mono e ds _ ha)
  | .tuple ds, _, h => by
    cases h with
    | tup hs ha => exact .tup (ex_t e hs) (DpAll.mono e ds _ ha)
  | .dict _, _, h => by cases h
theorem DpAll.mono {K : PySem.W.Frag} {H H' : Hp} (e : Ex H H') : ∀ (ds : List PyData) (vs : List V), DpAll K H vs ds → DpAll K H' vs ds
  | [], _, h => by cases h; exact .nil
  | d :: ds, _, h => by
    cases h with
    | cons h1 h2 => exact .cons (Dp.mono e d _ h1) (DpAll.mono e ds _ h2)
end
/-- a flat item's data, or a list of one number -/
def flD : PyData → Bool
  | .none => true
  | .bool _ => true
  | .int _ => true
  | .str s => PyData.strOk s
  | .list [.int _] => true
  | _ => false
theorem flD_ok : ∀ d : PyData, flD d = true → d.canLay0 = true ∧ d.depth ≤ 1 ∧ d.plain = true
  | .none, _ => ⟨rfl, by simp [PyData.depth], rfl⟩
  | .bool _, _ => ⟨rfl, by simp [PyData.depth], rfl⟩
  | .int _, _ => ⟨rfl, by simp [PyData.depth], rfl⟩
  | .str s, h => ⟨by simpa [PyData.canLay0] using (show PyData.strOk s = true from h), by simp [PyData.depth], by first | rfl | simpa [PyData.plain] using (show PyData.strOk s = true from h)⟩
  | .list [.int _], _ => ⟨by simp [PyData.canLay0, PyData.canLayAll0], by simp [PyData.depth, PyData.depthAll], by simp [PyData.plain, PyData.plainAll]⟩
theorem flAll_ok : ∀ ds : List PyData, ds.all flD = true → PyData.canLayAll0 ds = true ∧ PyData.depthAll ds ≤ 1 ∧ PyData.plainAll ds = true
  | [], _ => ⟨by simp [PyData.canLayAll0], by simp [PyData.depthAll], by simp [PyData.plainAll]⟩
  | d :: ds, h => by
    rw [List.all_cons, Bool.and_eq_true] at h
    obtain ⟨a1, a2, a3⟩ := flD_ok d h.1
    obtain ⟨b1, b2, b3⟩ := flAll_ok ds h.2
    exact ⟨by simp [PyData.canLayAll0, a1, b1], by simp [PyData.depthAll]; omega, by simp [PyData.plainAll, a3, b3]⟩
theorem shaped_fl {ds : List PyData} (h : ds.all flD = true) : SeqAt.shaped (.list ds) = true ∧ (PyData.list ds).plain = true := by
  obtain ⟨h1, h2, h3⟩ := flAll_ok ds h
  refine ⟨?_, by simpa [PyData.plain] using h3⟩
  simp [SeqAt.shaped, PyData.canLay0, PyData.depth, h1]
  omega
section
variable {K : PySem.W.Frag} {H : Hp} {a b : Addr} {x : V} {zs : List V}
theorem rv_neSelf {d : PyData} (h : Dp K H x d) (hs : SeqAt.shaped d = true) (hp : d.plain = true) : RV (rNeA K) x x H (.bl false) := fun H1 e Q q =>
  .inl ⟨d, d, Dp.mono e _ _ h, Dp.mono e _ _ h, hs, hs, by rw [SeqAt.eqv_refl_plain d hp]; exact q H1 (Ex.refl H1)⟩
theorem rv_neSame {ds : List PyData} (ha : H a = some (.lst zs)) (hb : H b = some (.lst zs)) (h : DpAll K H zs ds) (hf : ds.all flD = true) : RV (rNeA K) (.ref a) (.ref b) H (.bl false) := fun H1 e Q q =>
  .inl ⟨.list ds, .list ds, .lst (sq_of (e _ _ ha)) (DpAll.mono e _ _ h), .lst (sq_of (e _ _ hb)) (DpAll.mono e _ _ h), (shaped_fl hf).1, (shaped_fl hf).1, by rw [SeqAt.eqv_refl_plain _ (shaped_fl hf).2]; exact q H1 (Ex.refl H1)⟩
theorem rv_neDict {ks : List (Key × V)} (ha : H a = some (.dK ks)) (h : ∀ p ∈ ks, valV ks p.1 = some p.2 ∧ flatB p.2 = true) : RV (rNeA K) (.ref a) (.ref a) H (.bl false) := fun H1 e Q q =>
  .inr ⟨a, a, ks, ks, rfl, rfl, e _ _ ha, e _ _ ha, rfl, h, q H1 (Ex.refl H1)⟩
/-- x != c of a thing whose data is known -/
theorem rv_neC {d c : PyData} {y : V} (h : Dp K H x d) (hs : SeqAt.shaped d = true) (hy : Dp K H y c) (hc : SeqAt.shaped c = true) : RV (rNeA K) x y H (.bl (!PyData.eqv d c)) := fun H1 e Q q =>
  .inl ⟨d, c, Dp.mono e _ _ h, Dp.mono e _ _ hy, hs, hc, q H1 (Ex.refl H1)⟩
end
end XP
/-! ## Evaluations that never give a value; promises joined -/
namespace XP
open PySem PySem.Spec PyProof.Rows L2 Evl
def EvX (te : TE) (σ : L2.St) (H : Hp) : Prop := ∀ H1, Ex H H1 → ∀ Q : VK, te σ H1 Q
def EtX (tt : TT) (σ : L2.St) (H : Hp) : Prop := ∀ H1, Ex H H1 → ∀ Q : Bool → Hp → Prop, tt σ H1 Q
section
variable {σ : L2.St} {H : Hp} {ta tb te : TE} {t : TT} {D : Ends} {tz tu tw : TS} {r : R2} {g : TG}
theorem evx_call {sp : Sp} {dvs vs : List V} {E : XK} {ta : TA} (h : EvA ta σ H vs) (hs : ∀ H1, Ex H H1 → ∀ Q : VK, sp (vs ++ dvs) H1 Q E) : EvX (tCall sp dvs E ta) σ H := fun H1 e Q => h H1 e _ fun H2 e2 => hs H2 (e.trans e2) Q
theorem evx_op (h : EvX ta σ H) : EvX (tOp r ta tb) σ H := fun H1 e _ => h H1 e _
theorem etx_test (h : EvX te σ H) : EtX (tTest te) σ H := fun H1 e _ => h H1 e _
theorem q_dropX (h : EvX te σ H) : tSeq (tDrop te) tz D σ H := h H (Ex.refl H) _
theorem s_dropX (h : EvX te σ H) : tDrop te D σ H := h H (Ex.refl H) _
theorem q_asgX (h : EvX te σ H) : tSeq (tAsg te g) tz D σ H := h H (Ex.refl H) _
theorem s_retX (h : EvX te σ H) : tRet te D σ H := h H (Ex.refl H) _
theorem q_ifX (h : EtX t σ H) : tSeq (tIfS t tu tw) tz D σ H := h H (Ex.refl H) _
end
section
variable {P : Program} {w : World} {K : PySem.W.Frag} {mg : Str → Option Value} {base : Heap} {CX : CXT} {k : Nat} {f : Addr} {fd : FuncData} {ps : List Str} {sp sp2 : Sp}
theorem fnOk_none : FnOk P w K mg base CX k f fd ps (fun _ _ _ _ => False) := ⟨fun _ _ _ _ h => h.elim, fun _ _ _ _ _ _ _ _ _ _ _ _ _ h => h.elim⟩
theorem fnOk_or (F : FnOk P w K mg base CX k f fd ps sp) (G : FnOk P w K mg base CX k f fd ps sp2) : FnOk P w K mg base CX k f fd ps (fun vs H Q E => sp vs H Q E ∨ sp2 vs H Q E) :=
  ⟨fun vs H Q E h => h.elim (F.len vs H Q E) (G.len vs H Q E), fun A outer s H args us vs Q E hr he hb hv h => h.elim (F.run A outer s H args us vs Q E hr he hb hv) (G.run A outer s H args us vs Q E hr he hb hv)⟩
theorem fnOk_lift (F : FnOk P w K mg base CX0 k f fd ps sp) : FnOk P w K mg base (L2.CX P w) k f fd ps sp :=
  ⟨F.len, fun A outer s H args us vs Q E hr he hb hv h => codeAny_mono (F.run A outer s H args us vs Q E hr he hb hv h) fun r s' hq => by
    cases r with
    | error e => exact hq.elim
    | ok fl => cases fl <;> exact hq⟩
end
end XP
namespace K1
open PySem PySem.Spec PyProof.Rows L2 Evl XP
def topS (i : Nat) : Stmt := PySem.Challenge.pw_stairparts_k01_what_is_refused.main.body.getD i (.Pass ⟨0, 0, 0, 0⟩)
/-- slots: 0 thing -/
abbrev s_is_number : Stmt := topS 8
theorem sc_is_number : FnScope ["thing"] ["thing"] (defScope s_is_number) := ⟨rfl, rfl, rfl, by decide +kernel, rfl, by decide +kernel, by decide +kernel⟩
/-- slots: 0 thing -/
abbrev s_check_number : Stmt := topS 9
theorem sc_check_number : FnScope ["thing"] ["thing"] (defScope s_check_number) := ⟨rfl, rfl, rfl, by decide +kernel, rfl, by decide +kernel, by decide +kernel⟩
/-- slots: 0 thing, 1 whole, 2 ahead, 3 part -/
abbrev s_is_parting : Stmt := topS 10
theorem sc_is_parting : FnScope ["thing", "whole", "ahead", "part"] ["thing"] (defScope s_is_parting) := ⟨rfl, rfl, rfl, by decide +kernel, rfl, by decide +kernel, by decide +kernel⟩
/-- slots: 0 thing -/
abbrev s_check_parting : Stmt := topS 11
theorem sc_check_parting : FnScope ["thing"] ["thing"] (defScope s_check_parting) := ⟨rfl, rfl, rfl, by decide +kernel, rfl, by decide +kernel, by decide +kernel⟩
/-- slots: 0 parting (cell), 1 column -/
abbrev s_turned : Stmt := topS 12
theorem sc_turned : FnScope ["parting", "column"] ["parting"] (defScope s_turned) := ⟨rfl, rfl, rfl, by decide +kernel, rfl, by decide +kernel, by decide +kernel⟩
/-- slots: 0 parting, 1 column (cell), 2 part -/
abbrev s_column_height : Stmt := topS 13
theorem sc_column_height : FnScope ["parting", "column", "part"] ["parting", "column"] (defScope s_column_height) := ⟨rfl, rfl, rfl, by decide +kernel, rfl, by decide +kernel, by decide +kernel⟩
/-- slots: 0 whole, 1 most, 2 greatest -/
abbrev s_how_many : Stmt := topS 15
theorem sc_how_many : FnScope ["whole", "most", "greatest"] ["whole", "most"] (defScope s_how_many) := ⟨rfl, rfl, rfl, by decide +kernel, rfl, by decide +kernel, by decide +kernel⟩
/-- slots: 0 parting, 1 rest, 2 rows, 3 number, 4 part -/
abbrev s_number_of : Stmt := topS 16
theorem sc_number_of : FnScope ["parting", "rest", "rows", "number", "part"] ["parting"] (defScope s_number_of) := ⟨rfl, rfl, rfl, by decide +kernel, rfl, by decide +kernel, by decide +kernel⟩
/-- slots: 0 whole, 1 number, 2 rows, 3 parting, 4 rest, 5 ahead, 6 part -/
abbrev s_parting_of : Stmt := topS 17
theorem sc_parting_of : FnScope ["whole", "number", "rows", "parting", "rest", "ahead", "part"] ["whole", "number"] (defScope s_parting_of) := ⟨rfl, rfl, rfl, by decide +kernel, rfl, by decide +kernel, by decide +kernel⟩
/-- slots: 0 thing -/
abbrev s_check_whole : Stmt := topS 18
theorem sc_check_whole : FnScope ["thing"] ["thing"] (defScope s_check_whole) := ⟨rfl, rfl, rfl, by decide +kernel, rfl, by decide +kernel, by decide +kernel⟩
/-- slots: 0 whole, 1 greatest, 2 rows, 3 most, 4 row, 5 total -/
abbrev s_count_rows : Stmt := topS 19
theorem sc_count_rows : FnScope ["whole", "greatest", "rows", "most", "row", "total"] ["whole", "greatest"] (defScope s_count_rows) := ⟨rfl, rfl, rfl, by decide +kernel, rfl, by decide +kernel, by decide +kernel⟩
/-- slots: 0 rows, 1 whole, 2 number, 3 part -/
abbrev s_first_part : Stmt := topS 20
theorem sc_first_part : FnScope ["rows", "whole", "number", "part"] ["rows", "whole", "number"] (defScope s_first_part) := ⟨rfl, rfl, rfl, by decide +kernel, rfl, by decide +kernel, by decide +kernel⟩
/-- slots: 0 parting (cell), 1 parts, 2 part, 3 power -/
abbrev s_unlike_of : Stmt := topS 22
theorem sc_unlike_of : FnScope ["parting", "parts", "part", "power"] ["parting"] (defScope s_unlike_of) := ⟨rfl, rfl, rfl, by decide +kernel, rfl, by decide +kernel, by decide +kernel⟩
/-- slots: 0 parting, 1 parts, 2 part, 3 power -/
abbrev s_odd_of : Stmt := topS 23
theorem sc_odd_of : FnScope ["parting", "parts", "part", "power"] ["parting"] (defScope s_odd_of) := ⟨rfl, rfl, rfl, by decide +kernel, rfl, by decide +kernel, by decide +kernel⟩
/-- slots: 0 parting, 1 place, 2 part -/
abbrev s_bends_of : Stmt := topS 24
theorem sc_bends_of : FnScope ["parting", "place", "part"] ["parting"] (defScope s_bends_of) := ⟨rfl, rfl, rfl, by decide +kernel, rfl, by decide +kernel, by decide +kernel⟩
/-- slots: 0 parting, 1 rows, 2 place, 3 bend -/
abbrev s_unbent : Stmt := topS 25
theorem sc_unbent : FnScope ["parting", "rows", "place", "bend"] ["parting"] (defScope s_unbent) := ⟨rfl, rfl, rfl, by decide +kernel, rfl, by decide +kernel, by decide +kernel⟩
/-- slots: 0 parting, 1 part -/
abbrev s_check_odd : Stmt := topS 26
theorem sc_check_odd : FnScope ["parting", "part"] ["parting"] (defScope s_check_odd) := ⟨rfl, rfl, rfl, by decide +kernel, rfl, by decide +kernel, by decide +kernel⟩
/-- slots: 0 parting -/
abbrev s_check_unlike : Stmt := topS 27
theorem sc_check_unlike : FnScope ["parting"] ["parting"] (defScope s_check_unlike) := ⟨rfl, rfl, rfl, by decide +kernel, rfl, by decide +kernel, by decide +kernel⟩
/-- slots: 0 many, 1 powers, 2 power, 3 rest -/
abbrev s_powers_in : Stmt := topS 28
theorem sc_powers_in : FnScope ["many", "powers", "power", "rest"] ["many"] (defScope s_powers_in) := ⟨rfl, rfl, rfl, by decide +kernel, rfl, by decide +kernel, by decide +kernel⟩
/-- slots: 0 part, 1 power -/
abbrev s_greatest_power_within : Stmt := topS 29
theorem sc_greatest_power_within : FnScope ["part", "power"] ["part"] (defScope s_greatest_power_within) := ⟨rfl, rfl, rfl, by decide +kernel, rfl, by decide +kernel, by decide +kernel⟩
/-- slots: 0 one, 1 other -/
abbrev s_lies_above : Stmt := topS 31
theorem sc_lies_above : FnScope ["one", "other"] ["one", "other"] (defScope s_lies_above) := ⟨rfl, rfl, rfl, by decide +kernel, rfl, by decide +kernel, by decide +kernel⟩
/-- slots: 0 one, 1 other, 2 lead, 3 place, 4 gap -/
abbrev s_lacking_count : Stmt := topS 32
theorem sc_lacking_count : FnScope ["one", "other", "lead", "place", "gap"] ["one", "other"] (defScope s_lacking_count) := ⟨rfl, rfl, rfl, by decide +kernel, rfl, by decide +kernel, by decide +kernel⟩
/-- slots: 0 parting, 1 first, 2 second, 3 parts -/
abbrev s_let_down : Stmt := topS 33
theorem sc_let_down : FnScope ["parting", "first", "second", "parts"] ["parting", "first", "second"] (defScope s_let_down) := ⟨rfl, rfl, rfl, by decide +kernel, rfl, by decide +kernel, by decide +kernel⟩
/-- slots: 0 one, 1 other, 2 way -/
abbrev s_way_down : Stmt := topS 34
theorem sc_way_down : FnScope ["one", "other", "way"] ["one", "other"] (defScope s_way_down) := ⟨rfl, rfl, rfl, by decide +kernel, rfl, by decide +kernel, by decide +kernel⟩
/-- slots: 0 one, 1 other -/
abbrev s_check_pair : Stmt := topS 35
theorem sc_check_pair : FnScope ["one", "other"] ["one", "other"] (defScope s_check_pair) := ⟨rfl, rfl, rfl, by decide +kernel, rfl, by decide +kernel, by decide +kernel⟩
/-- slots: 0 one, 1 other, 2 part, 3 facing -/
abbrev s_gaps : Stmt := topS 36
theorem sc_gaps : FnScope ["one", "other", "part", "facing"] ["one", "other"] (defScope s_gaps) := ⟨rfl, rfl, rfl, by decide +kernel, rfl, by decide +kernel, by decide +kernel⟩
/-- slots: 0 parting, 1 first, 2 second -/
abbrev s_are_places : Stmt := topS 37
theorem sc_are_places : FnScope ["parting", "first", "second"] ["parting", "first", "second"] (defScope s_are_places) := ⟨rfl, rfl, rfl, by decide +kernel, rfl, by decide +kernel, by decide +kernel⟩
/-- slots: 0 parting, 1 goal, 2 gaps, 3 second, 4 first, 5 place, 6 gap -/
abbrev s_nearer : Stmt := topS 38
theorem sc_nearer : FnScope ["parting", "goal", "gaps", "second", "first", "place", "gap"] ["parting", "goal"] (defScope s_nearer) := ⟨rfl, rfl, rfl, by decide +kernel, rfl, by decide +kernel, by decide +kernel⟩
/-- slots: 0 parting, 1 place, 2 part -/
abbrev s_square_of : Stmt := topS 40
theorem sc_square_of : FnScope ["parting", "place", "part"] ["parting"] (defScope s_square_of) := ⟨rfl, rfl, rfl, by decide +kernel, rfl, by decide +kernel, by decide +kernel⟩
/-- slots: 0 parting, 1 number (cell), 2 beside, 3 beneath, 4 part -/
abbrev s_cut_square : Stmt := topS 41
theorem sc_cut_square : FnScope ["parting", "number", "beside", "beneath", "part"] ["parting"] (defScope s_cut_square) := ⟨rfl, rfl, rfl, by decide +kernel, rfl, by decide +kernel, by decide +kernel⟩
/-- slots: 0 beside, 1 beneath, 2 number (cell), 3 noughts, 4 part -/
abbrev s_put_square : Stmt := topS 42
theorem sc_put_square : FnScope ["beside", "beneath", "number", "noughts", "part"] ["beside", "beneath", "number"] (defScope s_put_square) := ⟨rfl, rfl, rfl, by decide +kernel, rfl, by decide +kernel, by decide +kernel⟩
/-- slots: 0 _law_number_here, 1 _law_k -/
abbrev s_law_mixed : Stmt := topS 44
theorem sc_law_mixed : FnScope ["_law_number_here", "_law_k"] ["_law_number_here", "_law_k"] (defScope s_law_mixed) := ⟨rfl, rfl, rfl, by decide +kernel, rfl, by decide +kernel, by decide +kernel⟩
/-- slots: 0 _law_script, 1 _law_k -/
abbrev s_law_number : Stmt := topS 45
theorem sc_law_number : FnScope ["_law_script", "_law_k"] ["_law_script", "_law_k"] (defScope s_law_number) := ⟨rfl, rfl, rfl, by decide +kernel, rfl, by decide +kernel, by decide +kernel⟩
/-- slots: 0 _law_script, 1 _law_first, 2 _law_number_here, 3 _law_most, 4 _law_many, 5 _law_found, 6 _law_k, 7 _law_part -/
abbrev s_law_parting_by : Stmt := topS 46
theorem sc_law_parting_by : FnScope ["_law_script", "_law_first", "_law_number_here", "_law_most", "_law_many", "_law_found", "_law_k", "_law_part"] ["_law_script", "_law_first"] (defScope s_law_parting_by) := ⟨rfl, rfl, rfl, by decide +kernel, rfl, by decide +kernel, by decide +kernel⟩
/-- slots: 0 _law_error, 1 _law_names -/
abbrev s_law_name : Stmt := topS 47
theorem sc_law_name : FnScope ["_law_error", "_law_names"] ["_law_error"] (defScope s_law_name) := ⟨rfl, rfl, rfl, by decide +kernel, rfl, by decide +kernel, by decide +kernel⟩
/-- slots: 0 _law_parting, 1 _law_number_here, 2 _law_at, 3 _law_odd, 4 _law_kind, 5 _law_ahead, 6 _law_part -/
abbrev s_law_spoilt : Stmt := topS 48
theorem sc_law_spoilt : FnScope ["_law_parting", "_law_number_here", "_law_at", "_law_odd", "_law_kind", "_law_ahead", "_law_part"] ["_law_parting", "_law_number_here"] (defScope s_law_spoilt) := ⟨rfl, rfl, rfl, by decide +kernel, rfl, by decide +kernel, by decide +kernel⟩
/-- slots: 0 _law_which, 1 _law_one, 2 _law_other -/
abbrev s_law_asked : Stmt := topS 49
theorem sc_law_asked : FnScope ["_law_which", "_law_one", "_law_other"] ["_law_which", "_law_one", "_law_other"] (defScope s_law_asked) := ⟨rfl, rfl, rfl, by decide +kernel, rfl, by decide +kernel, by decide +kernel⟩
/-- slots: 0 _law_which, 1 _law_one, 2 _law_other, 3 _law_caught, 4 _law_error -/
abbrev s_law_told : Stmt := topS 50
theorem sc_law_told : FnScope ["_law_which", "_law_one", "_law_other", "_law_caught", "_law_error"] ["_law_which", "_law_one", "_law_other"] (defScope s_law_told) := ⟨rfl, rfl, rfl, by decide +kernel, rfl, by decide +kernel, by decide +kernel⟩
/-- slots: 0 _law_which, 1 _law_first, 2 _law_second, 3 _law_caught, 4 _law_error -/
abbrev s_law_counted : Stmt := topS 51
theorem sc_law_counted : FnScope ["_law_which", "_law_first", "_law_second", "_law_caught", "_law_error"] ["_law_which", "_law_first", "_law_second"] (defScope s_law_counted) := ⟨rfl, rfl, rfl, by decide +kernel, rfl, by decide +kernel, by decide +kernel⟩
/-- slots: 0 _law_number_here, 1 _law_odd, 2 _law_which -/
abbrev s_law_numbers : Stmt := topS 52
theorem sc_law_numbers : FnScope ["_law_number_here", "_law_odd", "_law_which"] ["_law_number_here"] (defScope s_law_numbers) := ⟨rfl, rfl, rfl, by decide +kernel, rfl, by decide +kernel, by decide +kernel⟩
/-- slots: 0 _law_script, 1 _law_parting, 2 _law_spoilt_here, 3 _law_handed, 4 _law_which -/
abbrev s_law : Stmt := topS 53
theorem sc_law : FnScope ["_law_script", "_law_parting", "_law_spoilt_here", "_law_handed", "_law_which"] ["_law_script"] (defScope s_law) := ⟨rfl, rfl, rfl, by decide +kernel, rfl, by decide +kernel, by decide +kernel⟩
structure Tx (K : PySem.W.Frag) (mg : Str → Option Value) where
  a_is_number : Addr
  d_is_number : FuncData
  F_is_number : Fun K "is_number" "is_number" s_is_number a_is_number d_is_number
  b_is_number : Binds K d_is_number ["thing"] []
  g_is_number : mg "is_number" = some (.ref a_is_number)
  a_check_number : Addr
  d_check_number : FuncData
  F_check_number : Fun K "check_number" "check_number" s_check_number a_check_number d_check_number
  b_check_number : Binds K d_check_number ["thing"] []
  g_check_number : mg "check_number" = some (.ref a_check_number)
  a_is_parting : Addr
  d_is_parting : FuncData
  F_is_parting : Fun K "is_parting" "is_parting" s_is_parting a_is_parting d_is_parting
  b_is_parting : Binds K d_is_parting ["thing"] []
  g_is_parting : mg "is_parting" = some (.ref a_is_parting)
  a_check_parting : Addr
  d_check_parting : FuncData
  F_check_parting : Fun K "check_parting" "check_parting" s_check_parting a_check_parting d_check_parting
  b_check_parting : Binds K d_check_parting ["thing"] []
  g_check_parting : mg "check_parting" = some (.ref a_check_parting)
  a_turned : Addr
  d_turned : FuncData
  F_turned : Fun K "turned" "turned" s_turned a_turned d_turned
  b_turned : Binds K d_turned ["parting"] []
  g_turned : mg "turned" = some (.ref a_turned)
  a_column_height : Addr
  d_column_height : FuncData
  F_column_height : Fun K "_column_height" "_column_height" s_column_height a_column_height d_column_height
  b_column_height : Binds K d_column_height ["parting", "column"] []
  g_column_height : mg "_column_height" = some (.ref a_column_height)
  a_how_many : Addr
  d_how_many : FuncData
  F_how_many : FunD K "how_many" "how_many" (defArgs s_how_many) (defBody s_how_many) (defScope s_how_many) [.non] [] a_how_many d_how_many
  b_how_many : Binds K d_how_many ["whole", "most"] []
  v_how_many : List Value
  w_how_many : Vals [.non] v_how_many
  b1_how_many : Binds K d_how_many ["whole", "most"] v_how_many
  g_how_many : mg "how_many" = some (.ref a_how_many)
  a_number_of : Addr
  d_number_of : FuncData
  F_number_of : Fun K "number_of" "number_of" s_number_of a_number_of d_number_of
  b_number_of : Binds K d_number_of ["parting"] []
  g_number_of : mg "number_of" = some (.ref a_number_of)
  a_parting_of : Addr
  d_parting_of : FuncData
  F_parting_of : Fun K "parting_of" "parting_of" s_parting_of a_parting_of d_parting_of
  b_parting_of : Binds K d_parting_of ["whole", "number"] []
  g_parting_of : mg "parting_of" = some (.ref a_parting_of)
  a_check_whole : Addr
  d_check_whole : FuncData
  F_check_whole : Fun K "_check_whole" "_check_whole" s_check_whole a_check_whole d_check_whole
  b_check_whole : Binds K d_check_whole ["thing"] []
  g_check_whole : mg "_check_whole" = some (.ref a_check_whole)
  a_count_rows : Addr
  d_count_rows : FuncData
  F_count_rows : Fun K "_count_rows" "_count_rows" s_count_rows a_count_rows d_count_rows
  b_count_rows : Binds K d_count_rows ["whole", "greatest"] []
  g_count_rows : mg "_count_rows" = some (.ref a_count_rows)
  a_first_part : Addr
  d_first_part : FuncData
  F_first_part : Fun K "_first_part" "_first_part" s_first_part a_first_part d_first_part
  b_first_part : Binds K d_first_part ["rows", "whole", "number"] []
  g_first_part : mg "_first_part" = some (.ref a_first_part)
  a_unlike_of : Addr
  d_unlike_of : FuncData
  F_unlike_of : Fun K "unlike_of" "unlike_of" s_unlike_of a_unlike_of d_unlike_of
  b_unlike_of : Binds K d_unlike_of ["parting"] []
  g_unlike_of : mg "unlike_of" = some (.ref a_unlike_of)
  a_odd_of : Addr
  d_odd_of : FuncData
  F_odd_of : Fun K "odd_of" "odd_of" s_odd_of a_odd_of d_odd_of
  b_odd_of : Binds K d_odd_of ["parting"] []
  g_odd_of : mg "odd_of" = some (.ref a_odd_of)
  a_bends_of : Addr
  d_bends_of : FuncData
  F_bends_of : Fun K "bends_of" "bends_of" s_bends_of a_bends_of d_bends_of
  b_bends_of : Binds K d_bends_of ["parting"] []
  g_bends_of : mg "bends_of" = some (.ref a_bends_of)
  a_unbent : Addr
  d_unbent : FuncData
  F_unbent : Fun K "unbent" "unbent" s_unbent a_unbent d_unbent
  b_unbent : Binds K d_unbent ["parting"] []
  g_unbent : mg "unbent" = some (.ref a_unbent)
  a_check_odd : Addr
  d_check_odd : FuncData
  F_check_odd : Fun K "_check_odd" "_check_odd" s_check_odd a_check_odd d_check_odd
  b_check_odd : Binds K d_check_odd ["parting"] []
  g_check_odd : mg "_check_odd" = some (.ref a_check_odd)
  a_check_unlike : Addr
  d_check_unlike : FuncData
  F_check_unlike : Fun K "_check_unlike" "_check_unlike" s_check_unlike a_check_unlike d_check_unlike
  b_check_unlike : Binds K d_check_unlike ["parting"] []
  g_check_unlike : mg "_check_unlike" = some (.ref a_check_unlike)
  a_powers_in : Addr
  d_powers_in : FuncData
  F_powers_in : Fun K "_powers_in" "_powers_in" s_powers_in a_powers_in d_powers_in
  b_powers_in : Binds K d_powers_in ["many"] []
  g_powers_in : mg "_powers_in" = some (.ref a_powers_in)
  a_greatest_power_within : Addr
  d_greatest_power_within : FuncData
  F_greatest_power_within : Fun K "_greatest_power_within" "_greatest_power_within" s_greatest_power_within a_greatest_power_within d_greatest_power_within
  b_greatest_power_within : Binds K d_greatest_power_within ["part"] []
  g_greatest_power_within : mg "_greatest_power_within" = some (.ref a_greatest_power_within)
  a_lies_above : Addr
  d_lies_above : FuncData
  F_lies_above : Fun K "lies_above" "lies_above" s_lies_above a_lies_above d_lies_above
  b_lies_above : Binds K d_lies_above ["one", "other"] []
  g_lies_above : mg "lies_above" = some (.ref a_lies_above)
  a_lacking_count : Addr
  d_lacking_count : FuncData
  F_lacking_count : Fun K "lacking_count" "lacking_count" s_lacking_count a_lacking_count d_lacking_count
  b_lacking_count : Binds K d_lacking_count ["one", "other"] []
  g_lacking_count : mg "lacking_count" = some (.ref a_lacking_count)
  a_let_down : Addr
  d_let_down : FuncData
  F_let_down : Fun K "let_down" "let_down" s_let_down a_let_down d_let_down
  b_let_down : Binds K d_let_down ["parting", "first", "second"] []
  g_let_down : mg "let_down" = some (.ref a_let_down)
  a_way_down : Addr
  d_way_down : FuncData
  F_way_down : Fun K "way_down" "way_down" s_way_down a_way_down d_way_down
  b_way_down : Binds K d_way_down ["one", "other"] []
  g_way_down : mg "way_down" = some (.ref a_way_down)
  a_check_pair : Addr
  d_check_pair : FuncData
  F_check_pair : Fun K "_check_pair" "_check_pair" s_check_pair a_check_pair d_check_pair
  b_check_pair : Binds K d_check_pair ["one", "other"] []
  g_check_pair : mg "_check_pair" = some (.ref a_check_pair)
  a_gaps : Addr
  d_gaps : FuncData
  F_gaps : Fun K "_gaps" "_gaps" s_gaps a_gaps d_gaps
  b_gaps : Binds K d_gaps ["one", "other"] []
  g_gaps : mg "_gaps" = some (.ref a_gaps)
  a_are_places : Addr
  d_are_places : FuncData
  F_are_places : Fun K "_are_places" "_are_places" s_are_places a_are_places d_are_places
  b_are_places : Binds K d_are_places ["parting", "first", "second"] []
  g_are_places : mg "_are_places" = some (.ref a_are_places)
  a_nearer : Addr
  d_nearer : FuncData
  F_nearer : Fun K "_nearer" "_nearer" s_nearer a_nearer d_nearer
  b_nearer : Binds K d_nearer ["parting", "goal"] []
  g_nearer : mg "_nearer" = some (.ref a_nearer)
  a_square_of : Addr
  d_square_of : FuncData
  F_square_of : Fun K "square_of" "square_of" s_square_of a_square_of d_square_of
  b_square_of : Binds K d_square_of ["parting"] []
  g_square_of : mg "square_of" = some (.ref a_square_of)
  a_cut_square : Addr
  d_cut_square : FuncData
  F_cut_square : Fun K "cut_square" "cut_square" s_cut_square a_cut_square d_cut_square
  b_cut_square : Binds K d_cut_square ["parting"] []
  g_cut_square : mg "cut_square" = some (.ref a_cut_square)
  a_put_square : Addr
  d_put_square : FuncData
  F_put_square : Fun K "put_square" "put_square" s_put_square a_put_square d_put_square
  b_put_square : Binds K d_put_square ["beside", "beneath", "number"] []
  g_put_square : mg "put_square" = some (.ref a_put_square)
  a_law_mixed : Addr
  d_law_mixed : FuncData
  F_law_mixed : Fun K "_law_mixed" "_law_mixed" s_law_mixed a_law_mixed d_law_mixed
  b_law_mixed : Binds K d_law_mixed ["_law_number_here", "_law_k"] []
  g_law_mixed : mg "_law_mixed" = some (.ref a_law_mixed)
  a_law_number : Addr
  d_law_number : FuncData
  F_law_number : Fun K "_law_number" "_law_number" s_law_number a_law_number d_law_number
  b_law_number : Binds K d_law_number ["_law_script", "_law_k"] []
  g_law_number : mg "_law_number" = some (.ref a_law_number)
  a_law_parting_by : Addr
  d_law_parting_by : FuncData
  F_law_parting_by : Fun K "_law_parting_by" "_law_parting_by" s_law_parting_by a_law_parting_by d_law_parting_by
  b_law_parting_by : Binds K d_law_parting_by ["_law_script", "_law_first"] []
  g_law_parting_by : mg "_law_parting_by" = some (.ref a_law_parting_by)
  a_law_name : Addr
  d_law_name : FuncData
  F_law_name : Fun K "_law_name" "_law_name" s_law_name a_law_name d_law_name
  b_law_name : Binds K d_law_name ["_law_error"] []
  g_law_name : mg "_law_name" = some (.ref a_law_name)
  a_law_spoilt : Addr
  d_law_spoilt : FuncData
  F_law_spoilt : Fun K "_law_spoilt" "_law_spoilt" s_law_spoilt a_law_spoilt d_law_spoilt
  b_law_spoilt : Binds K d_law_spoilt ["_law_parting", "_law_number_here"] []
  g_law_spoilt : mg "_law_spoilt" = some (.ref a_law_spoilt)
  a_law_asked : Addr
  d_law_asked : FuncData
  F_law_asked : Fun K "_law_asked" "_law_asked" s_law_asked a_law_asked d_law_asked
  b_law_asked : Binds K d_law_asked ["_law_which", "_law_one", "_law_other"] []
  g_law_asked : mg "_law_asked" = some (.ref a_law_asked)
  a_law_told : Addr
  d_law_told : FuncData
  F_law_told : Fun K "_law_told" "_law_told" s_law_told a_law_told d_law_told
  b_law_told : Binds K d_law_told ["_law_which", "_law_one", "_law_other"] []
  g_law_told : mg "_law_told" = some (.ref a_law_told)
  a_law_counted : Addr
  d_law_counted : FuncData
  F_law_counted : Fun K "_law_counted" "_law_counted" s_law_counted a_law_counted d_law_counted
  b_law_counted : Binds K d_law_counted ["_law_which", "_law_first", "_law_second"] []
  g_law_counted : mg "_law_counted" = some (.ref a_law_counted)
  a_law_numbers : Addr
  d_law_numbers : FuncData
  F_law_numbers : Fun K "_law_numbers" "_law_numbers" s_law_numbers a_law_numbers d_law_numbers
  b_law_numbers : Binds K d_law_numbers ["_law_number_here"] []
  g_law_numbers : mg "_law_numbers" = some (.ref a_law_numbers)
  a_law : Addr
  d_law : FuncData
  F_law : Fun K "law" "law" s_law a_law d_law
  b_law : Binds K d_law ["_law_script"] []
  g_law : mg "law" = some (.ref a_law)
  n_ValueError : mg "ValueError" = none
  n_any : mg "any" = none
  n_bool : mg "bool" = none
  n_enumerate : mg "enumerate" = none
  n_int : mg "int" = none
  n_isinstance : mg "isinstance" = none
  n_len : mg "len" = none
  n_list : mg "list" = none
  n_max : mg "max" = none
  n_min : mg "min" = none
  n_range : mg "range" = none
  n_set : mg "set" = none
  n_sorted : mg "sorted" = none
  n_str : mg "str" = none
  n_sum : mg "sum" = none
  n_tuple : mg "tuple" = none
  g_zip_longest : mg "zip_longest" = some (.type "itertools.zip_longest")
  u_GREATEST_WHOLE : Value
  c_GREATEST_WHOLE : mg "GREATEST_WHOLE" = some u_GREATEST_WHOLE
  r_GREATEST_WHOLE : RelV (.int 200) u_GREATEST_WHOLE
  C_NoFit : Addr
  g_NoFit : mg "NoFit" = some (.ref C_NoFit)
  C_NoNumber : Addr
  g_NoNumber : mg "NoNumber" = some (.ref C_NoNumber)
  C_NoParting : Addr
  g_NoParting : mg "NoParting" = some (.ref C_NoParting)
  C_PartError : Addr
  g_PartError : mg "PartError" = some (.ref C_PartError)
  x_NoFit : PySem.W.excIn K C_NoFit [.type "ValueError", .type "Exception", .type "BaseException", .type "object"] "ValueError.__new__" = true
  k_NoFit : PySem.W.keepIn K (.ref C_NoFit) = true
  s_NoFit : PySem.W.subIn K (.ref C_NoFit) (.type "BaseException") = some true
  t_NoFit : PySem.W.typeIn K (.ref C_NoFit) = some (.type "type")
  e_NoFit : ExcC K C_NoFit
  x_NoParting : PySem.W.excIn K C_NoParting [.type "ValueError", .type "Exception", .type "BaseException", .type "object"] "ValueError.__new__" = true
  k_NoParting : PySem.W.keepIn K (.ref C_NoParting) = true
  s_NoParting : PySem.W.subIn K (.ref C_NoParting) (.type "BaseException") = some true
  t_NoParting : PySem.W.typeIn K (.ref C_NoParting) = some (.type "type")
  e_NoParting : ExcC K C_NoParting
  x_NoNumber : PySem.W.excIn K C_NoNumber [.type "ValueError", .type "Exception", .type "BaseException", .type "object"] "ValueError.__new__" = true
  k_NoNumber : PySem.W.keepIn K (.ref C_NoNumber) = true
  s_NoNumber : PySem.W.subIn K (.ref C_NoNumber) (.type "BaseException") = some true
  t_NoNumber : PySem.W.typeIn K (.ref C_NoNumber) = some (.type "type")
  e_NoNumber : ExcC K C_NoNumber
  m_NoParting_PartError : PySem.W.exmOne K (.ref C_NoParting) (.ref C_PartError) = some true
  m_NoFit_PartError : PySem.W.exmOne K (.ref C_NoFit) (.ref C_PartError) = some true
  m_NoNumber_PartError : PySem.W.exmOne K (.ref C_NoNumber) (.ref C_PartError) = some true
  q_NoParting_NoParting : PySem.W.kitOne K (.ref C_NoParting) (.ref C_NoParting) = some true
  q_NoParting_NoFit : PySem.W.kitOne K (.ref C_NoParting) (.ref C_NoFit) = some false
  q_NoParting_NoNumber : PySem.W.kitOne K (.ref C_NoParting) (.ref C_NoNumber) = some false
  q_NoFit_NoParting : PySem.W.kitOne K (.ref C_NoFit) (.ref C_NoParting) = some false
  q_NoFit_NoFit : PySem.W.kitOne K (.ref C_NoFit) (.ref C_NoFit) = some true
  q_NoFit_NoNumber : PySem.W.kitOne K (.ref C_NoFit) (.ref C_NoNumber) = some false
  q_NoNumber_NoParting : PySem.W.kitOne K (.ref C_NoNumber) (.ref C_NoParting) = some false
  q_NoNumber_NoFit : PySem.W.kitOne K (.ref C_NoNumber) (.ref C_NoFit) = some false
  q_NoNumber_NoNumber : PySem.W.kitOne K (.ref C_NoNumber) (.ref C_NoNumber) = some true
  q_NoParting_ValueError : PySem.W.kitOne K (.ref C_NoParting) (.type "ValueError") = some true
  q_NoFit_ValueError : PySem.W.kitOne K (.ref C_NoFit) (.type "ValueError") = some true
  q_NoNumber_ValueError : PySem.W.kitOne K (.ref C_NoNumber) (.type "ValueError") = some true
/-! ### the draws: _law_mixed, _law_number, _law_parting_by -/
def mixed (n k : Int) : Int := ((n % 2147483647 + 7919 * k * k + 31 * k) * 48271 % 2147483647) * (69621 + 2 * k) % 2147483629
theorem mixed_nn (n k : Int) : 0 ≤ mixed n k := Int.emod_nonneg _ (by decide)
theorem mixed_lt (n k : Int) : mixed n k < 2147483629 := Int.emod_lt_of_pos _ (by decide)
def numb (ns : List Int) (k : Int) : Int := if ns = [] then mixed 17 k else mixed (ns.getD (k % (ns.length : Int)).toNat 0) k
theorem numb_nn (ns : List Int) (k : Int) : 0 ≤ numb ns k := by
  unfold numb
  split
  · exact mixed_nn _ _
  · exact mixed_nn _ _
theorem numb_lt (ns : List Int) (k : Int) : numb ns k < 2147483629 := by
  unfold numb
  split
  · exact mixed_lt _ _
  · exact mixed_lt _ _
/-- what a parting is -/
def IsP (p : List Int) : Prop := (∀ x ∈ p, 1 ≤ x) ∧ p.Pairwise (fun a b => b ≤ a) ∧ p.sum ≤ 200
theorem sum_nn : ∀ {p : List Int}, (∀ x ∈ p, 0 ≤ x) → 0 ≤ p.sum
  | [], _ => Int.le_refl _
  | x :: r, h => by
    have h1 := h x List.mem_cons_self
    have h2 := sum_nn (p := r) fun y hy => h y (List.mem_cons_of_mem _ hy)
    rw [List.sum_cons]
    omega
theorem len_le_sum : ∀ {p : List Int}, (∀ x ∈ p, 1 ≤ x) → (p.length : Int) ≤ p.sum
  | [], _ => Int.le_refl _
  | x :: r, h => by
    have h1 := h x List.mem_cons_self
    have h2 := len_le_sum (p := r) fun y hy => h y (List.mem_cons_of_mem _ hy)
    rw [List.sum_cons, List.length_cons]
    omega
theorem IsP.len {p : List Int} (h : IsP p) : p.length ≤ 200 := by
  have h1 := len_le_sum h.1
  have h2 := h.2.2
  omega
theorem le_sum : ∀ {p : List Int}, (∀ x ∈ p, 0 ≤ x) → ∀ x ∈ p, x ≤ p.sum
  | [], _, x, hx => by cases hx
  | y :: r, h, x, hx => by
    have h1 := h y List.mem_cons_self
    have h2 := sum_nn (p := r) fun z hz => h z (List.mem_cons_of_mem _ hz)
    rw [List.sum_cons]
    rcases List.mem_cons.mp hx with e | hx
    · omega
    · have h3 := le_sum (p := r) (fun z hz => h z (List.mem_cons_of_mem _ hz)) x hx
      omega
theorem sum_append (a b : List Int) : (a ++ b).sum = a.sum + b.sum := List.sum_append
theorem sum_perm {a b : List Int} (h : a.Perm b) : a.sum = b.sum := by
  induction h with
  | nil => rfl
  | cons x _ ih => rw [List.sum_cons, List.sum_cons, ih]
  | swap x y l => rw [List.sum_cons, List.sum_cons, List.sum_cons, List.sum_cons]; omega
  | trans _ _ ih1 ih2 => exact ih1.trans ih2
theorem desc_reverse {l : List Int} (h : l.Pairwise (· ≤ ·)) : l.reverse.Pairwise (fun a b => b ≤ a) := List.pairwise_reverse.mpr h
section
variable {P : Program} {w : World} {K : PySem.W.Frag} {mg : Str → Option Value} {base : Heap}
def sp_law_mixed : Sp := fun vs H Q _ => ∃ n k : Int, vs = [.int n, .int k] ∧ 0 ≤ k ∧ k ≤ 100000 ∧ RetV (.int (mixed n k)) H Q
theorem ok_law_mixed (T : Tx K mg) : FnOk P w K mg base CX0 1 T.a_law_mixed T.d_law_mixed ["_law_number_here", "_law_k"] sp_law_mixed := by
  refine T.F_law_mixed.ok sc_law_mixed (fun vs H Q E h => ?_) (fun cdv A outer s H vs Q E hr h => ?_)
  · obtain ⟨n, k, rfl, _⟩ := h
    rfl
  · obtain ⟨n, k, rfl, k0, k1, q⟩ := h
    refine ⟨_, (pss_cons (ps_set (i := 0) sc_law_mixed.nd rfl (Or.inl rfl) (pe_op op_mod (pe_op op_mul (pe_op op_add (pe_op op_add (pe_op op_mod (pv 0) pe_int) (pe_op op_mul (pe_op op_mul pe_int (pv 1)) (pv 1))) (pe_op op_mul pe_int (pv 1))) pe_int) pe_int))
    (pss_one (ps_ret (pe_op op_mod (pe_op op_mul (pv 0) (pe_op op_add pe_int (pe_op op_mul pe_int (pv 1)))) pe_int)))), ?_⟩
    refine q_asg (ev_rI (ev_rI (ev_rI0 (ev_rI0 (ev_rI (ev_var rfl) ev_c (by decide)) (ev_rI (ev_rI ev_c (ev_var rfl) (.inl (by decide))) (ev_var rfl) (.inr (by omega)))) (ev_rI ev_c (ev_var rfl) (.inl (by decide)))) ev_c (.inr (by decide))) ev_c (by decide)) fun H1 e1 => ?_
    refine s_ret (ev_rI (ev_rI (ev_var rfl) (ev_rI0 ev_c (ev_rI ev_c (ev_var rfl) (.inl (by decide)))) (.inr (by omega))) ev_c (by decide)) fun H2 e2 => ?_
    exact q H2 (e1.trans e2)
theorem spv_mixed {n k : Int} {H : Hp} (k0 : 0 ≤ k) (k1 : k ≤ 100000) : SpV sp_law_mixed [.int n, .int k] H (.int (mixed n k)) := fun H1 _ _ q _ => ⟨n, k, rfl, k0, k1, q⟩
def sp_law_number (K : PySem.W.Frag) : Sp := fun vs H Q _ => ∃ (a : Addr) (ns : List Int) (k : Int), vs = [.ref a, .int k] ∧ SqL K H a (ns.map V.int) ∧ 0 ≤ k ∧ k ≤ 100000 ∧ RetV (.int (numb ns k)) H Q
theorem ok_law_number (T : Tx K mg) : FnOk P w K mg base CX0 2 T.a_law_number T.d_law_number ["_law_script", "_law_k"] (sp_law_number K) := by
  refine T.F_law_number.ok sc_law_number (fun vs H Q E h => ?_) (fun cdv A outer s H vs Q E hr h => ?_)
  · obtain ⟨a, ns, k, rfl, _⟩ := h
    rfl
  · obtain ⟨a, ns, k, rfl, hS, k0, k1, q⟩ := h
    refine ⟨_, (pss_cons (ps_if (pt_cmpR (eqK (K := K) rfl hr.units) (pv 0) (pe_lst pa_nil) (nomark _))
      (pss_one (ps_ret (pe_call (ok_law_mixed T) (hr.mono (by decide)) (by rfl) T.g_law_mixed T.F_law_mixed.kp T.b_law_mixed .nil pass0 (pa_cons pe_int (pa_cons (pv 1) pa_nil)))))
      pss_nil)
    (pss_one (ps_ret (pe_call (ok_law_mixed T) (hr.mono (by decide)) (by rfl) T.g_law_mixed T.F_law_mixed.kp T.b_law_mixed .nil pass0 (pa_cons (pe_ix (ixlK (K := K) rfl) (pv 0) (pe_op op_mod (pv 1) (pe_callB (lenK (K := K) rfl) (by rfl) T.n_len PySem.boot_len (pa_cons (pv 0) pa_nil))) (fun _ _ => rfl)) (pa_cons (pv 1) pa_nil)))))), ?_⟩
    refine q_when (b := decide (ns = [])) (et_test (ev_opL (ev_var rfl) (el_lst (vs := []) ea_nil (by decide)) fun p H1 hp e1 => rv_eqL (ys := []) (ex_l e1 hS) (sq_of hp))) (fun hb H1 e1 => ?_) (fun hb H1 e1 => ?_)
    · have hn : ns = [] := of_decide_eq_true hb
      refine s_ret (ev_call (ea_cons ev_c (ea_cons (ev_var rfl) ea_nil)) (spv_mixed k0 k1)) fun H2 e2 => ?_
      have := q H2 (e1.trans e2)
      unfold numb at this
      rw [if_pos hn] at this
      exact this
    · have hn : ns ≠ [] := of_decide_eq_false hb
      have hl : 0 < ns.length := List.length_pos_iff.mpr hn
      have h1 : 0 ≤ k % (ns.length : Int) := Int.emod_nonneg _ (by omega)
      have h2 : k % (ns.length : Int) < ns.length := Int.emod_lt_of_pos _ (by omega)
      have el : ((ns.map V.int).length : Int) = (ns.length : Int) := by rw [List.length_map]
      refine s_ret (ev_call (ea_cons (ev_ixI (ev_var rfl) (ev_is (ev_rI (ev_var rfl) (ev_cb (ea_cons (ev_var rfl) ea_nil) (rc_len (ex_l e1 hS))) (by rw [el]; omega)) (by rw [el])) (ex_l e1 hS) h1 h2) (ea_cons (ev_var rfl) ea_nil)) (spv_mixed k0 k1)) fun H2 e2 => ?_
      have := q H2 (e1.trans e2)
      unfold numb at this
      rw [if_neg hn] at this
      exact this
theorem spv_number {a : Addr} {ns : List Int} {k : Int} {H : Hp} (hS : SqL K H a (ns.map V.int)) (k0 : 0 ≤ k) (k1 : k ≤ 100000) : SpV (sp_law_number K) [.ref a, .int k] H (.int (numb ns k)) := fun H1 e _ q _ => ⟨a, ns, k, rfl, ex_l e hS, k0, k1, q⟩
/-- one of a few written numbers -/
theorem at_few {zs : List Int} {i : Int} (h0 : 0 ≤ i) (h1 : i < zs.length) (lo hi : Int) (hz : ∀ z ∈ zs, lo ≤ z ∧ z ≤ hi) : ∃ z, atI (zs.map V.int) i = some (.int z) ∧ lo ≤ z ∧ z ≤ hi := by
  obtain ⟨j, rfl⟩ := Int.eq_ofNat_of_zero_le h0
  have hj : j < zs.length := by omega
  refine ⟨zs[j], atI_nat ?_, hz _ (List.getElem_mem hj)⟩
  rw [List.getElem?_map, List.getElem?_eq_getElem hj]
  rfl
/-- a list of whole numbers, new, of which P is known -/
def RetLP (P : List Int → Prop) (H : Hp) (Q : VK) : Prop := ∀ (p : Addr) (ys : List Int) (H2 : Hp), H p = none → Ex H H2 → Ll H2 p ys → P ys → Q (.ref p) H2
def sp_law_parting_by (K : PySem.W.Frag) : Sp := fun vs H Q _ => ∃ (a : Addr) (ns : List Int) (k : Int), vs = [.ref a, .int k] ∧ SqL K H a (ns.map V.int) ∧ ns.length ≤ 63 ∧ 0 ≤ k ∧ k ≤ 1000 ∧ RetLP IsP H Q
theorem ok_law_parting_by (T : Tx K mg) : FnOk P w K mg base CX0 3 T.a_law_parting_by T.d_law_parting_by ["_law_script", "_law_first"] (sp_law_parting_by K) := by
  refine T.F_law_parting_by.ok sc_law_parting_by (fun vs H Q E h => ?_) (fun cdv A outer s H vs Q E hr h => ?_)
  · obtain ⟨a, ns, k, rfl, _⟩ := h
    rfl
  · obtain ⟨a, ns, k, rfl, hS, hlen, k0, k1, q⟩ := h
    refine ⟨_, (pss_cons (ps_set (i := 2) sc_law_parting_by.nd rfl (Or.inl rfl) (pe_call (ok_law_number T) (hr.mono (by decide)) (by rfl) T.g_law_number T.F_law_number.kp T.b_law_number .nil pass0 (pa_cons (pv 0) (pa_cons (pv 1) pa_nil))))
    (pss_cons (ps_set (i := 3) sc_law_parting_by.nd rfl (Or.inl rfl) (pe_ix (ixlK (K := K) rfl) (pe_lst (pa_cons pe_int (pa_cons pe_int (pa_cons pe_int (pa_cons pe_int (pa_cons pe_int (pa_cons pe_int pa_nil))))))) (pe_op op_mod (pv 2) pe_int) (fun _ _ => rfl)))
    (pss_cons (ps_set (i := 4) sc_law_parting_by.nd rfl (Or.inl rfl) (pe_ix (ixlK (K := K) rfl) (pe_lst (pa_cons (pe_callB (lenK (K := K) rfl) (by rfl) T.n_len PySem.boot_len (pa_cons (pv 0) pa_nil)) (pa_cons pe_int (pa_cons pe_int (pa_cons pe_int pa_nil))))) (pe_op op_mod (pe_op op_fdiv (pv 2) pe_int) pe_int) (fun _ _ => rfl)))
    (pss_cons (ps_set (i := 5) sc_law_parting_by.nd rfl (Or.inl rfl) (pe_lst pa_nil))
    (pss_cons (ps_for PassesOwn.never rfl (pi_range1 rfl T.n_range (pa_cons (pe_callB (call_min2 rfl) (by rfl) T.n_min (by decide +kernel) (pa_cons (pv 4) (pa_cons pe_int pa_nil))) pa_nil)) (pg_name (i := 6) sc_law_parting_by.nd rfl (Or.inl rfl))
      (pss_cons (ps_set (i := 7) sc_law_parting_by.nd rfl (Or.inl rfl) (pe_op op_add pe_int (pe_op op_mod (pe_call (ok_law_number T) (hr.mono (by decide)) (by rfl) T.g_law_number T.F_law_number.kp T.b_law_number .nil pass0 (pa_cons (pv 0) (pa_cons (pe_op op_add (pe_op op_add (pv 1) pe_int) (pv 6)) pa_nil))) (pv 3))))
      (pss_one (ps_if (pt_cmpR op_le (pe_op op_add (pe_callB (sumK (K := K) rfl rfl) (by rfl) T.n_sum (by decide +kernel) (pa_cons (pv 5) pa_nil)) (pv 7)) pe_int (nomark _))
        (pss_one (ps_expr (pe_bm PySem.F.plainAttrs_list PySem.F.slot_list_append PySem.F.type_list_append mt_append (pv 5) (pa_cons (pv 7) pa_nil))))
        pss_nil))))
    (pss_cons (ps_set (i := 5) sc_law_parting_by.nd rfl (Or.inl rfl) (pe_callB (sortedK (K := K) rfl) (by rfl) T.n_sorted (by decide +kernel) (pa_cons (pv 5) pa_nil)))
    (pss_cons (ps_expr (pe_bm0 PySem.F.plainAttrs_list PySem.F.slot_list_reverse PySem.F.type_list_reverse mt_reverse (pv 5)))
    (pss_one (ps_ret (pv 5)))))))))), ?_⟩
    refine q_asg (ev_call (ea_cons (ev_var rfl) (ea_cons (ev_var rfl) ea_nil)) (spv_number hS k0 (by omega))) fun H1 e1 => ?_
    have n0 := numb_nn ns k
    generalize numb ns k = m at n0 ⊢
    obtain ⟨c, hc, c1, c2⟩ := at_few (zs := [2, 4, 7, 12, 30, 90]) (i := m % 6) (by omega) (by show m % 6 < 6; omega) 2 90 (by decide)
    refine q_asg (ev_ixN (el_lst (ea_cons ev_c (ea_cons ev_c (ea_cons ev_c (ea_cons ev_c (ea_cons ev_c (ea_cons ev_c ea_nil)))))) (by decide)) (fun H2 _ => ev_rI (ev_var rfl) ev_c (by decide)) hc) fun H2 e2 => ?_
    obtain ⟨l, hl, l1, l2⟩ := at_few (zs := [(ns.length : Int), 3, 6, 40]) (i := m / 6 % 4) (by omega) (by show m / 6 % 4 < 4; omega) 0 63 (by
      intro z hz
      simp only [List.mem_cons, List.not_mem_nil, or_false] at hz
      omega)
    have el : ((ns.map V.int).length : Int) = (ns.length : Int) := by rw [List.length_map]
    refine q_asg (ev_ixN (el_lst (ea_cons (ev_is (ev_cb (ea_cons (ev_var rfl) ea_nil) (rc_len (ex_l (e1.trans e2) hS))) (by rw [el])) (ea_cons ev_c (ea_cons ev_c (ea_cons ev_c ea_nil)))) (by show 4 ≤ 100000; decide)) (fun H2 _ => ev_rI (ev_rI (ev_var rfl) ev_c ⟨by decide, by decide⟩) ev_c (by decide)) hl) fun H3 e3 => ?_
    refine q_asgL (xs := []) (el_lst ea_nil (by decide)) fun p H4 np e4 hp => ?_
    have e14 : Ex H H4 := ((e1.trans e2).trans e3).trans e4
    have npH : H p = none := fresh_back ((e1.trans e2).trans e3) np
    have hm : (if (60 : Int) < l then (60 : Int) else l) ≤ 60 := by split <;> omega
    have hm0 : 0 ≤ (if (60 : Int) < l then (60 : Int) else l) := by split <;> omega
    refine q_forR1 (ea_cons (ev_cb (ea_cons (ev_var rfl) (ea_cons ev_c ea_nil)) rc_min2) ea_nil) ⟨hm0, by omega⟩
      (fun i σ' H' => ∃ (fs : List Int) (y1 y2 : Option V), σ' = [some (.ref a), some (.int k), some (.int m), some (.int c), some (.int l), some (.ref p), y1, y2] ∧ Ex H H' ∧ Ll H' p fs ∧ (∀ x ∈ fs, 1 ≤ x) ∧ fs.sum ≤ 200)
      (fun H5 e5 => ⟨[], none, none, rfl, e14.trans e5, e5 _ _ hp, (fun x hx => by cases hx), by decide⟩) (fun i σ' H' hi hP => ?_) (fun σ' H' hP => ?_)
    · obtain ⟨fs, y1, y2, rfl, eH, hf, f1, f2⟩ := hP
      have hS' := ex_l eH hS
      have b0 := numb_nn ns (k + 1 + (i : Int))
      refine q_asg (ev_rI0 ev_c (ev_rI (ev_call (ea_cons (ev_var rfl) (ea_cons (ev_rI0 (ev_rI0 (ev_var rfl) ev_c) (ev_var rfl)) ea_nil)) (spv_number hS' (by omega) (by omega))) (ev_var rfl) (by omega))) fun H5 e5 => ?_
      have d0 : 0 ≤ numb ns (k + 1 + (i : Int)) % c := Int.emod_nonneg _ (by omega)
      generalize hd : numb ns (k + 1 + (i : Int)) % c = d at d0 ⊢
      refine s_when (b := decide (fs.sum + (1 + d) ≤ 200)) (et_test (ev_rI0 (ev_rI0 (ev_cb (ea_cons (ev_var rfl) ea_nil) (rc_sum (ex_l e5 hf.sq))) (ev_var rfl)) ev_c)) (fun hb H6 e6 => ?_) (fun hb H6 e6 => ?_)
      · have hle := of_decide_eq_true hb
        have hfl := len_le_sum f1
        refine s_app (xs := fs.map V.int) ((e5.trans e6) _ _ hf) (ev_var rfl) (ev_var rfl) (by rw [List.length_map]; omega) fun H7 e7 => ?_
        refine ⟨fs ++ [1 + d], _, _, rfl, ((eH.trans (e5.trans e6)).trans e7).mut npH, ?_, fun x hx => ?_, ?_⟩
        · show upd H7 p _ p = _
          rw [upd_same, List.map_append]
          rfl
        · rcases List.mem_append.mp hx with hx | hx
          · exact f1 x hx
          · rw [List.mem_singleton.mp hx]
            omega
        · rw [sum_append]
          show fs.sum + ((1 + d) + 0) ≤ 200
          omega
      · exact ⟨fs, _, _, rfl, eH.trans (e5.trans e6), (e5.trans e6) _ _ hf, f1, f2⟩
    · obtain ⟨fs, y1, y2, rfl, eH, hf, f1, f2⟩ := hP
      refine q_asgP (evP_sorted (ea_cons (ev_var rfl) ea_nil) hf.sq) fun v H5 e5 hv => ?_
      obtain ⟨o, ys, rfl, no, hp1, ho, hy⟩ := hv
      have noH : H o = none := fresh_back eH no
      refine q_rev (ev_var rfl) hy fun H6 e6 => ?_
      refine s_ret (ev_var rfl) fun H7 e7 => ?_
      refine q o ys.reverse H7 noH (((eH.trans (e5.trans e6)).mut noH).trans e7) (e7 _ _ ?_) ⟨fun x hx => ?_, desc_reverse ho, ?_⟩
      · rw [upd_same, List.map_reverse]
      · exact f1 x (hp1.mem_iff.mp (List.mem_reverse.mp hx))
      · rw [sum_perm (List.reverse_perm ys), sum_perm hp1]
        exact f2
theorem evP_parting {a : Addr} {ns : List Int} {k : Int} {σ : L2.St} {H : Hp} {ta : TA} {E : XK} (h : EvA ta σ H [.ref a, .int k]) (hS : SqL K H a (ns.map V.int)) (hl : ns.length ≤ 63) (k0 : 0 ≤ k) (k1 : k ≤ 1000) :
    EvP (tCall (sp_law_parting_by K) [] E ta) σ H (fun v H1 => ∃ (p : Addr) (ys : List Int), v = .ref p ∧ H p = none ∧ Ll H1 p ys ∧ IsP ys) :=
  evP_call h fun H1 e Q q E => ⟨a, ns, k, rfl, ex_l e hS, hl, k0, k1, fun p ys H2 np e2 hp hy => q _ _ e2 ⟨p, ys, rfl, fresh_back e np, hp, hy⟩⟩
end
/-! ### stairparts.partings: is_number, is_parting, check_parting -/
def partB : Int → Int → List Int → Bool
  | _, _, [] => true
  | ahead, whole, x :: r => if x < 1 ∨ ahead < x then false else if 200 < whole + x then false else partB x (whole + x) r
theorem partB_iff : ∀ (p : List Int) (ahead whole : Int), whole ≤ 200 → (partB ahead whole p = true ↔ (∀ x ∈ p, 1 ≤ x ∧ x ≤ ahead) ∧ p.Pairwise (fun a b => b ≤ a) ∧ whole + p.sum ≤ 200)
  | [], ahead, whole, h => by
    refine ⟨fun _ => ⟨fun x hx => (by cases hx), .nil, ?_⟩, fun _ => rfl⟩
    show whole + 0 ≤ 200
    omega
  | x :: r, ahead, whole, h => by
    show (if x < 1 ∨ ahead < x then false else if 200 < whole + x then false else partB x (whole + x) r) = true ↔ _
    rw [List.sum_cons, List.pairwise_cons]
    by_cases c : x < 1 ∨ ahead < x
    · rw [if_pos c]
      refine ⟨fun z => (by cases z), fun ⟨h1, _, _⟩ => ?_⟩
      have := h1 x List.mem_cons_self
      omega
    · rw [if_neg c]
      by_cases c2 : 200 < whole + x
      · rw [if_pos c2]
        refine ⟨fun z => (by cases z), fun ⟨h1, _, h3⟩ => ?_⟩
        have := sum_nn (p := r) fun y hy => (by have := h1 y (List.mem_cons_of_mem _ hy); omega)
        omega
      · rw [if_neg c2, partB_iff r x (whole + x) (by omega)]
        refine ⟨fun ⟨h1, h2, h3⟩ => ⟨fun y hy => ?_, ⟨fun y hy => (h1 y hy).2, h2⟩, by omega⟩, fun ⟨h1, h2, h3⟩ => ⟨fun y hy => ⟨(h1 y (List.mem_cons_of_mem _ hy)).1, h2.1 y hy⟩, h2.2, by omega⟩⟩
        rcases List.mem_cons.mp hy with e | hy
        · omega
        · have := h1 y hy
          omega
def isPart (p : List Int) : Bool := partB 200 0 p
theorem isPart_iff {p : List Int} : isPart p = true ↔ IsP p := by
  unfold isPart
  rw [partB_iff p 200 0 (by decide)]
  refine ⟨fun ⟨h1, h2, h3⟩ => ⟨fun x hx => (h1 x hx).1, h2, by omega⟩, fun ⟨h1, h2, h3⟩ => ⟨fun x hx => ⟨h1 x hx, ?_⟩, h2, by omega⟩⟩
  have := le_sum (fun y hy => (by have := h1 y hy; omega)) x hx
  omega
theorem IsP.is {p : List Int} (h : IsP p) : isPart p = true := isPart_iff.mpr h
section
variable {P : Program} {w : World} {K : PySem.W.Frag} {mg : Str → Option Value} {base : Heap}
def sp_is_number (K : PySem.W.Frag) : Sp := fun vs H Q _ => ∃ (x : V) (t : Value) (b1 b2 : Bool), vs = [x] ∧ (∀ H1, Ex H H1 → TyX K H1 x t) ∧ PySem.W.kitOne K t (.type "int") = some b1 ∧ PySem.W.kitOne K t (.type "bool") = some b2 ∧ RetV (.bl (b1 && !b2)) H Q
theorem ok_is_number (T : Tx K mg) : FnOk P w K mg base CX0 1 T.a_is_number T.d_is_number ["thing"] (sp_is_number K) := by
  refine T.F_is_number.ok sc_is_number (fun vs H Q E h => ?_) (fun cdv A outer s H vs Q E hr h => ?_)
  · obtain ⟨x, t, b1, b2, rfl, _⟩ := h
    rfl
  · obtain ⟨x, t, b1, b2, rfl, ty, k1, k2, q⟩ := h
    refine ⟨_, (pss_one (ps_ret (pe_and (pe_callB (isiK (K := K) rfl) (by rfl) T.n_isinstance (by decide +kernel) (pa_cons (pv 0) (pa_cons (pe_bltn (v := .ty "int") (u := .type "int") (by rfl) T.n_int (by decide +kernel) rfl) pa_nil))) (pe_one (pe_not (pe_callB (isiK (K := K) rfl) (by rfl) T.n_isinstance (by decide +kernel) (pa_cons (pv 0) (pa_cons (pe_bltn (v := .ty "bool") (u := .type "bool") (by rfl) T.n_bool (by decide +kernel) rfl) pa_nil)))))))), ?_⟩
    exact s_ret (ev_andV (ev_cb (ea_cons (ev_var rfl) (ea_cons ev_c ea_nil)) (rc_isi (.ty _) ty k1)) fun _ => ev_notV (ev_cb (ea_cons (ev_var rfl) (ea_cons ev_c ea_nil)) (rc_isi (.ty _) ty k2))) fun H1 e1 => q H1 e1
theorem spv_number_int {i : Int} {H : Hp} : SpV (sp_is_number K) [.int i] H (.bl true) := fun H1 e Q q _ =>
  ⟨.int i, .type "int", true, false, rfl, fun _ _ => .base (.int _), kit_ty (by decide +kernel), kit_ty (by decide +kernel), q⟩
def sp_is_parting : Sp := fun vs H Q _ => ∃ (a : Addr) (ns : List Int), vs = [.ref a] ∧ Ll H a ns ∧ RetV (.bl (isPart ns)) H Q
theorem ok_is_parting (T : Tx K mg) : FnOk P w K mg base CX0 2 T.a_is_parting T.d_is_parting ["thing"] sp_is_parting := by
  refine T.F_is_parting.ok sc_is_parting (fun vs H Q E h => ?_) (fun cdv A outer s H vs Q E hr h => ?_)
  · obtain ⟨a, ns, rfl, _⟩ := h
    rfl
  · obtain ⟨a, ns, rfl, hL, q⟩ := h
    refine ⟨_, (pss_cons (ps_if (pt_not (pt_val (pe_callB (isiK (K := K) rfl) (by rfl) T.n_isinstance (by decide +kernel) (pa_cons (pv 0) (pa_cons (pe_bltn (v := .ty "list") (u := .type "list") (by rfl) T.n_list (by decide +kernel) rfl) pa_nil)))))
      (pss_one (ps_ret pe_bl))
      pss_nil)
    (pss_cons (ps_set (i := 1) sc_is_parting.nd rfl (Or.inl rfl) pe_int)
    (pss_cons (ps_set (i := 2) sc_is_parting.nd rfl (Or.inl rfl) (pe_glob rfl T.c_GREATEST_WHOLE T.r_GREATEST_WHOLE))
    (pss_cons (ps_for PassesOwn.never rfl (pi_list (pv 0)) (pg_name (i := 3) sc_is_parting.nd rfl (Or.inl rfl))
      (pss_cons (ps_if (PW.pt (pw_or (pt_not (pt_val (pe_call (ok_is_number T) (hr.mono (by decide)) (by rfl) T.g_is_number T.F_is_number.kp T.b_is_number .nil pass0 (pa_cons (pv 3) pa_nil)))) (pw_or (pt_cmpR op_lt (pv 3) pe_int (nomark _)) (pw_or1 (pt_cmpR op_gt (pv 3) (pv 2) (nomark _))))))
        (pss_one (ps_ret pe_bl))
        pss_nil)
      (pss_cons (ps_set (i := 2) sc_is_parting.nd rfl (Or.inl rfl) (pv 3))
      (pss_cons (ps_aug (i := 1) sc_is_parting.nd rfl (Or.inl rfl) (pv 3) ip_add)
      (pss_one (ps_if (pt_cmpR op_gt (pv 1) (pe_glob rfl T.c_GREATEST_WHOLE T.r_GREATEST_WHOLE) (nomark _))
        (pss_one (ps_ret pe_bl))
        pss_nil))))))
    (pss_one (ps_ret pe_bl)))))), ?_⟩
    refine q_when (et_not (et_B (ev_cb (ea_cons (ev_var rfl) (ea_cons ev_c ea_nil)) (rc_isiL hL)))) (fun hb => by cases hb) (fun _ H1 e1 => ?_)
    refine q_asg ev_c fun H2 e2 => ?_
    refine q_asg ev_c fun H3 e3 => ?_
    have e13 := (e1.trans e2).trans e3
    refine q_forLn (ev_var rfl) (ex_l e13 hL.sq) (fun i σ' H' => ∃ (ah wh : Int) (y : Option V), σ' = [some (.ref a), some (.int wh), some (.int ah), y] ∧ Ex H H' ∧ isPart ns = partB ah wh (ns.drop i))
      (fun H4 e4 => ⟨200, 0, none, rfl, e13.trans e4, rfl⟩) (fun i σ' H' _ hP => ?_) (fun i x σ' H' hx hP => ?_) (fun σ' H' hP => ?_)
    · obtain ⟨ah, wh, y, rfl, eH, _⟩ := hP
      exact ex_l eH hL.sq
    · obtain ⟨ah, wh, y, rfl, eH, hp⟩ := hP
      obtain ⟨z, hz, rfl⟩ := get_int hx
      rw [drop_one hz] at hp
      have hp' : isPart ns = if z < 1 ∨ ah < z then false else if 200 < wh + z then false else partB z (wh + z) (ns.drop (i + 1)) := hp
      refine q_when (b := decide (z < 1) || decide (ah < z)) (et_is (et_or (et_not (et_B (ev_call (ea_cons (ev_var rfl) ea_nil) spv_number_int))) fun _ => et_or (et_test (ev_rI0 (ev_var rfl) ev_c)) fun _ => et_test (ev_rI0 (ev_var rfl) (ev_var rfl))) rfl) (fun hb H4 e4 => ?_) (fun hb H4 e4 => ?_)
      · refine s_ret ev_c fun H5 e5 => ?_
        rw [Bool.or_eq_true, decide_eq_true_eq, decide_eq_true_eq] at hb
        rw [if_pos hb] at hp'
        have := q H5 (eH.trans (e4.trans e5))
        rw [hp'] at this
        exact this
      · rw [Bool.or_eq_false_iff, decide_eq_false_iff_not, decide_eq_false_iff_not] at hb
        rw [if_neg (by omega)] at hp'
        refine q_asg (ev_var rfl) fun H5 e5 => ?_
        refine q_aug rfl (ev_var rfl) fun H6 e6 => ?_
        refine s_when (b := decide (200 < wh + z)) (et_test (ev_rI0 (ev_var rfl) ev_c)) (fun hb H7 e7 => ?_) (fun hb H7 e7 => ?_)
        · refine s_ret ev_c fun H8 e8 => ?_
          rw [if_pos (of_decide_eq_true hb)] at hp'
          have := q H8 (eH.trans ((((e4.trans e5).trans e6).trans e7).trans e8))
          rw [hp'] at this
          exact this
        · rw [if_neg (of_decide_eq_false hb)] at hp'
          exact ⟨z, wh + z, _, rfl, eH.trans (((e4.trans e5).trans e6).trans e7), hp'⟩
    · obtain ⟨ah, wh, y, rfl, eH, hp⟩ := hP
      have hp' : isPart ns = true := by
        rw [hp, List.drop_of_length_le (by rw [List.length_map]; exact Nat.le_refl _)]
        rfl
      refine s_ret ev_c fun H5 e5 => ?_
      have := q H5 (eH.trans e5)
      rw [hp'] at this
      exact this
theorem spv_is_parting {a : Addr} {ns : List Int} {H : Hp} (hL : Ll H a ns) : SpV sp_is_parting [.ref a] H (.bl (isPart ns)) := fun H1 e _ q _ => ⟨a, ns, rfl, e _ _ hL, q⟩
def sp_check_parting : Sp := fun vs H Q _ => ∃ (a : Addr) (ns : List Int), vs = [.ref a] ∧ Ll H a ns ∧ IsP ns ∧ RetV .non H Q
theorem ok_check_parting (T : Tx K mg) : FnOk P w K mg base CX0 3 T.a_check_parting T.d_check_parting ["thing"] sp_check_parting := by
  refine T.F_check_parting.ok sc_check_parting (fun vs H Q E h => ?_) (fun cdv A outer s H vs Q E hr h => ?_)
  · obtain ⟨a, ns, rfl, _⟩ := h
    rfl
  · obtain ⟨a, ns, rfl, hL, hp, q⟩ := h
    refine ⟨_, (pss_one (ps_if (pt_not (pt_val (pe_call (ok_is_parting T) (hr.mono (by decide)) (by rfl) T.g_is_parting T.F_is_parting.kp T.b_is_parting .nil pass0 (pa_cons (pv 0) pa_nil))))
      (pss_one ps_never)
      pss_nil)), ?_⟩
    refine s_when (et_not (et_B (ev_call (ea_cons (ev_var rfl) ea_nil) (spv_is_parting hL)))) (fun hb => ?_) (fun _ H1 e1 => q H1 e1)
    rw [hp.is] at hb
    cases hb
theorem spv_check {a : Addr} {ns : List Int} {H : Hp} (hL : Ll H a ns) (hp : IsP ns) : SpV sp_check_parting [.ref a] H .non := fun H1 e _ q _ => ⟨a, ns, rfl, e _ _ hL, hp, q⟩
end
/-! ### stairparts.partings: check_number, where it is one -/
section
variable {P : Program} {w : World} {K : PySem.W.Frag} {mg : Str → Option Value} {base : Heap}
def sp_check_number : Sp := fun vs H Q _ => ∃ i : Int, vs = [.int i] ∧ 0 ≤ i ∧ RetV .non H Q
theorem ok_check_number (T : Tx K mg) : FnOk P w K mg base CX0 3 T.a_check_number T.d_check_number ["thing"] sp_check_number := by
  refine T.F_check_number.ok sc_check_number (fun vs H Q E h => ?_) (fun cdv A outer s H vs Q E hr h => ?_)
  · obtain ⟨i, rfl, _⟩ := h
    rfl
  · obtain ⟨i, rfl, h0, q⟩ := h
    refine ⟨_, (pss_one (ps_if (PW.pt (pw_or (pt_not (pt_val (pe_call (ok_is_number T) (hr.mono (by decide)) (by rfl) T.g_is_number T.F_is_number.kp T.b_is_number .nil pass0 (pa_cons (pv 0) pa_nil)))) (pw_or1 (pt_cmpR op_lt (pv 0) pe_int (nomark _)))))
      (pss_one ps_never)
      pss_nil)), ?_⟩
    refine s_when (et_or (et_not (et_B (ev_call (ea_cons (ev_var rfl) ea_nil) spv_number_int))) fun _ => et_test (ev_rI0 (ev_var rfl) ev_c)) (fun hb => ?_) (fun _ H1 e1 => q H1 e1)
    simp at hb
    omega
theorem spv_checkn {i : Int} {H : Hp} (h : 0 ≤ i) : SpV sp_check_number [.int i] H .non := fun _ _ _ q _ => ⟨i, rfl, h, q⟩
end
/-! ### stairparts.partings: turned -/
def cnt (ns : List Int) (c : Int) : Int := ((ns.filter fun z => decide (c < z)).length : Int)
def mx (ns : List Int) : Int := ns.foldl max 0
theorem foldl_max_ge : ∀ (ns : List Int) (d : Int), d ≤ ns.foldl max d
  | [], d => Int.le_refl d
  | x :: r, d => by
    have := foldl_max_ge r (max d x)
    rw [List.foldl_cons]
    omega
theorem foldl_max_mem : ∀ (ns : List Int) (d : Int), ∀ x ∈ ns, x ≤ ns.foldl max d
  | [], _, x, h => by cases h
  | y :: r, d, x, h => by
    rw [List.foldl_cons]
    rcases List.mem_cons.mp h with e | h
    · have := foldl_max_ge r (max d y)
      omega
    · exact foldl_max_mem r _ x h
theorem foldl_max_le : ∀ (ns : List Int) (d m : Int), d ≤ m → (∀ x ∈ ns, x ≤ m) → ns.foldl max d ≤ m
  | [], d, m, h, _ => h
  | x :: r, d, m, h, hx => by
    have := hx x List.mem_cons_self
    rw [List.foldl_cons]
    exact foldl_max_le r _ m (by omega) fun y hy => hx y (List.mem_cons_of_mem _ hy)
theorem mx_nn (ns : List Int) : 0 ≤ mx ns := foldl_max_ge ns 0
theorem mx_mem {ns : List Int} : ∀ x ∈ ns, x ≤ mx ns := foldl_max_mem ns 0
theorem mx_eq {ns : List Int} {m : Int} (h0 : 0 ≤ m) (hm : m ∈ ns) (hle : ∀ y ∈ ns, y ≤ m) : m = mx ns := by
  have h1 := mx_mem m hm
  have h2 := foldl_max_le ns 0 m h0 hle
  unfold mx at *
  omega
theorem mx_le {ns : List Int} (h : IsP ns) : mx ns ≤ 200 := foldl_max_le ns 0 200 (by decide) fun x hx => by
  have := le_sum (fun y hy => (by have := h.1 y hy; omega)) x hx
  have := h.2.2
  omega
/-- the stair's columns -/
def Tn (ns : List Int) : List Int := (List.range (mx ns).toNat).map fun (j : Nat) => cnt ns (j : Int)
section
variable {P : Program} {w : World} {K : PySem.W.Frag} {mg : Str → Option Value} {base : Heap}
def sp_column_height : Sp := fun vs H Q _ => ∃ (a : Addr) (ns : List Int) (c : Int), vs = [.ref a, .int c] ∧ Ll H a ns ∧ ns.length ≤ 40000 ∧ RetV (.int (cnt ns c)) H Q
theorem ok_column_height (T : Tx K mg) : FnOk P w K mg base CX0 1 T.a_column_height T.d_column_height ["parting", "column"] sp_column_height := by
  refine T.F_column_height.ok sc_column_height (fun vs H Q E h => ?_) (fun cdv A outer s H vs Q E hr h => ?_)
  · obtain ⟨a, ns, c, rfl, _⟩ := h
    rfl
  · obtain ⟨a, ns, c, rfl, hL, hz, q⟩ := h
    refine ⟨_, (pss_one (ps_ret (pe_callB (lenK (K := K) rfl) (by rfl) T.n_len PySem.boot_len (pa_cons (pe_lc (own := [("part", 2)]) (g := gName 2) (by rfl) sc_column_height.nd (pi_list (pv 0)) (blkOk_by (own := [("part", 2)]) (N := ["parting", "column", "part"]) (sc := defScope s_column_height) (by decide +kernel)) (fun _ _ _ _ _ => (pg_name (i := 2) sc_column_height.nd rfl (Or.inl rfl))) (fun _ _ _ _ _ => pts_one (pt_cmpR op_gt (pv 2) (pv 1) (nomark _))) (fun _ _ _ _ _ => (pv 2))) pa_nil)))), ?_⟩
    refine s_ret (ev_cbL (el_lcI (fun z => decide (c < z)) V.int (ev_var rfl) hL.sq hz (fun _ => rfl) (fun z H1 _ _ => et_test (ev_rI0 (ev_var rfl) (ev_var rfl))) fun z H1 _ _ _ => ev_var rfl) fun p H1 _ hp => rc_len (sq_of hp)) fun H1 e1 => ?_
    rw [List.length_map]
    exact q H1 e1
theorem spv_column {a : Addr} {ns : List Int} {c : Int} {H : Hp} (hL : Ll H a ns) (hz : ns.length ≤ 40000) : SpV sp_column_height [.ref a, .int c] H (.int (cnt ns c)) := fun H1 e _ q _ => ⟨a, ns, c, rfl, e _ _ hL, hz, q⟩
def sp_turned : Sp := fun vs H Q _ => ∃ (a : Addr) (ns : List Int), vs = [.ref a] ∧ Ll H a ns ∧ IsP ns ∧ RetL ((Tn ns).map V.int) H Q
theorem ok_turned (T : Tx K mg) : FnOk P w K mg base CX0 4 T.a_turned T.d_turned ["parting"] sp_turned := by
  refine T.F_turned.ok sc_turned (fun vs H Q E h => ?_) (fun cdv A outer s H vs Q E hr h => ?_)
  · obtain ⟨a, ns, rfl, _⟩ := h
    rfl
  · obtain ⟨a, ns, rfl, hL, hp, q⟩ := h
    refine ⟨_, (pss_cons (ps_expr (pe_call (ok_check_parting T) (hr.mono (by decide)) (by rfl) T.g_check_parting T.F_check_parting.kp T.b_check_parting .nil pass0 (pa_cons (pv 0) pa_nil)))
    (pss_one (ps_ret (pe_lc (own := [("column", 1)]) (g := gName 1) (by rfl) sc_turned.nd (pi_range1 rfl T.n_range (pa_cons (pe_callBK (maxDK (K := K) rfl rfl hr.two) (by rfl) T.n_max (by decide +kernel) (pa_cons (pv 0) pa_nil) (pk_cons pe_int pk_nil)) pa_nil)) (blkOk_by (own := [("column", 1)]) (N := ["parting", "column"]) (sc := defScope s_turned) (by decide +kernel)) (fun _ _ _ _ _ => (pg_name (i := 1) sc_turned.nd rfl (Or.inl rfl))) (fun _ _ _ _ _ => pts_nil) (fun _ _ _ _ _ => (pe_call (ok_column_height T) (hr.mono (by decide)) (by rfl) T.g_column_height T.F_column_height.kp T.b_column_height .nil pass0 (pa_cons (pv 0) (pa_cons (pv 1) pa_nil)))))))), ?_⟩
    refine q_drop (ev_call (ea_cons (ev_var rfl) ea_nil) (spv_check hL hp)) fun H1 e1 => ?_
    have hl := hp.len
    have h0 := mx_nn ns
    have h1 := mx_le hp
    refine s_retL (el_lcRA (fun i => V.int (cnt ns (i : Int))) (ea_cons (ev_maxD (ea_cons (ev_var rfl) ea_nil) (ea_cons ev_c ea_nil) (ex_l e1 hL.sq) (fun z => ?_) (fun k k1 k2 => ?_)) ea_nil) ⟨h0, by omega⟩ (fun _ => rfl) fun i H2 e2 _ => ev_call (ea_cons (ev_var rfl) (ea_cons (ev_var rfl) ea_nil)) (spv_column ((e1.trans e2) _ _ hL) (by omega))) fun p H2 np e2 h2 => ?_
    · rw [z]
      rfl
    · exact mx_eq (by have := hp.1 k k1; omega) k1 k2
    · refine q p H2 (fresh_back e1 np) (e1.trans e2) ?_
      rw [h2]
      unfold Tn
      rw [List.map_map]
      rfl
end
/-! ### stairparts.order: _check_pair, _gaps, lacking_count, lies_above -/
/-- the differences, part by part -/
def gapsL (xs ys : List Int) : List Int := (List.range (max xs.length ys.length)).map fun i => xs.getD i 0 - ys.getD i 0
/-- how far the first i parts of xs are ahead of those of ys -/
def lead (xs ys : List Int) (i : Nat) : Int := (xs.take i).sum - (ys.take i).sum
theorem take_next (xs : List Int) (i : Nat) : (xs.take (i + 1)).sum = (xs.take i).sum + xs.getD i 0 := by
  cases e : xs[i]? with
  | none =>
    have h := List.getElem?_eq_none_iff.mp e
    rw [List.take_of_length_le (by omega), List.take_of_length_le h]
    simp [List.getD, e]
  | some x =>
    rw [take_one e, sum_append]
    simp [List.getD, e]
theorem lead_next (xs ys : List Int) (i : Nat) : lead xs ys (i + 1) = lead xs ys i + (xs.getD i 0 - ys.getD i 0) := by
  unfold lead
  rw [take_next, take_next]
  omega
theorem lead_zero (xs ys : List Int) : lead xs ys 0 = 0 := rfl
/-- the least m of i + 1 .. i + n with P m below 0 -/
def firstF (P : Nat → Int) : Nat → Nat → V
  | _, 0 => .non
  | i, n + 1 => if P (i + 1) < 0 then .int ((i + 1 : Nat) : Int) else firstF P (i + 1) n
def lackV (xs ys : List Int) : V := firstF (lead xs ys) 0 (max xs.length ys.length)
theorem firstF_step {P : Nat → Int} {i n : Nat} (h : i < n) : firstF P i (n - i) = if P (i + 1) < 0 then .int ((i + 1 : Nat) : Int) else firstF P (i + 1) (n - (i + 1)) := by
  obtain ⟨m, rfl⟩ : ∃ m, n = i + (m + 1) := ⟨n - i - 1, by omega⟩
  rw [show i + (m + 1) - i = m + 1 by omega, show i + (m + 1) - (i + 1) = m by omega]
  rfl
theorem firstF_non {P : Nat → Int} : ∀ {n i : Nat}, firstF P i n = .non ↔ ∀ m, i < m → m ≤ i + n → 0 ≤ P m
  | 0, i => ⟨fun _ m h1 h2 => by omega, fun _ => rfl⟩
  | n + 1, i => by
    unfold firstF
    by_cases c : P (i + 1) < 0
    · rw [if_pos c]
      refine ⟨fun z => (by cases z), fun h => ?_⟩
      have := h (i + 1) (by omega) (by omega)
      omega
    · rw [if_neg c, firstF_non (n := n)]
      refine ⟨fun h m h1 h2 => ?_, fun h m h1 h2 => h m (by omega) (by omega)⟩
      by_cases e : m = i + 1
      · rw [e]
        omega
      · exact h m (by omega) (by omega)
theorem firstF_some {P : Nat → Int} : ∀ {n i : Nat} {v : V}, firstF P i n = v → v ≠ .non → ∃ m : Nat, v = .int (m : Int) ∧ i < m ∧ m ≤ i + n ∧ P m < 0
  | 0, i, v, h, hv => absurd h.symm hv
  | n + 1, i, v, h, hv => by
    unfold firstF at h
    by_cases c : P (i + 1) < 0
    · rw [if_pos c] at h
      exact ⟨i + 1, h.symm, by omega, by omega, c⟩
    · rw [if_neg c] at h
      obtain ⟨m, h1, h2, h3, h4⟩ := firstF_some h hv
      exact ⟨m, h1, by omega, by omega, h4⟩
theorem gaps_len (xs ys : List Int) : (gapsL xs ys).length = max xs.length ys.length := by
  unfold gapsL
  simp
theorem gaps_get {xs ys : List Int} {i : Nat} {x : V} (h : ((gapsL xs ys).map V.int)[i]? = some x) : i < max xs.length ys.length ∧ x = .int (xs.getD i 0 - ys.getD i 0) := by
  have hi := lt_of_get h
  rw [List.length_map, gaps_len] at hi
  refine ⟨hi, ?_⟩
  unfold gapsL at h
  rw [List.getElem?_map, List.getElem?_map, List.getElem?_range hi] at h
  cases h
  rfl
theorem vget (xs : List Int) (i : Nat) : (xs.map V.int)[i]?.getD (.int 0) = .int (xs.getD i 0) := by
  rw [List.getElem?_map]
  cases e : xs[i]? <;> simp [List.getD, e]
section
variable {P : Program} {w : World} {K : PySem.W.Frag} {mg : Str → Option Value} {base : Heap}
def sp_gaps : Sp := fun vs H Q _ => ∃ (a b : Addr) (xs ys : List Int), vs = [.ref a, .ref b] ∧ Ll H a xs ∧ Ll H b ys ∧ xs.length ≤ 400 ∧ ys.length ≤ 400 ∧ RetL ((gapsL xs ys).map V.int) H Q
theorem ok_gaps (T : Tx K mg) : FnOk P w K mg base CX0 1 T.a_gaps T.d_gaps ["one", "other"] sp_gaps := by
  refine T.F_gaps.ok sc_gaps (fun vs H Q E h => ?_) (fun cdv A outer s H vs Q E hr h => ?_)
  · obtain ⟨a, b, xs, ys, rfl, _⟩ := h
    rfl
  · obtain ⟨a, b, xs, ys, rfl, hx, hy, lx, ly, q⟩ := h
    refine ⟨_, (pss_one (ps_ret (pe_lc (own := [("part", 2), ("facing", 3)]) (g := g2n K 2 3) (by rfl) sc_gaps.nd (pi_zipL (by rfl) T.g_zip_longest (pa_cons (pv 0) (pa_cons (pv 1) pa_nil)) (pk_cons pe_int pk_nil)) (blkOk_by (own := [("part", 2), ("facing", 3)]) (N := ["one", "other", "part", "facing"]) (sc := defScope s_gaps) (by decide +kernel)) (fun _ _ _ _ _ => (pg_tup rfl (pgs_cons (pg_name (i := 2) sc_gaps.nd rfl (Or.inl rfl)) (pgs_cons (pg_name (i := 3) sc_gaps.nd rfl (Or.inl rfl)) pgs_nil)))) (fun _ _ _ _ _ => pts_nil) (fun _ _ _ _ _ => (pe_op op_sub (pv 2) (pv 3)))))), ?_⟩
    refine s_retL (el_is (el_lcZ (d := .int 0) (fun _ => true) (fun i => .int (xs.getD i 0 - ys.getD i 0)) (ea_cons (ev_var rfl) (ea_cons (ev_var rfl) ea_nil)) (ea_cons ev_c ea_nil) hx.sq hy.sq (by rw [List.length_map, List.length_map]; omega) (fun _ _ => rfl)
      (fun i H2 hi e2 => et_yes) fun i H2 hi e2 _ => ?_) ?_) fun p H1 np e1 hp => q p H1 np e1 hp
    · rw [vget, vget]
      exact ev_rI0 (ev_var rfl) (ev_var rfl)
    · rw [List.length_map, List.length_map, given_all]
      unfold gapsL
      rw [List.map_map]
      rfl
theorem spl_gaps {a b : Addr} {xs ys : List Int} {H : Hp} (hx : Ll H a xs) (hy : Ll H b ys) (lx : xs.length ≤ 400) (ly : ys.length ≤ 400) : SpL sp_gaps [.ref a, .ref b] H ((gapsL xs ys).map V.int) := fun H1 e _ q _ => ⟨a, b, xs, ys, rfl, e _ _ hx, e _ _ hy, lx, ly, q⟩
def sp_check_pair (C : Addr) : Sp := fun vs H Q E => ∃ (a b : Addr) (xs ys : List Int), vs = [.ref a, .ref b] ∧ Ll H a xs ∧ Ll H b ys ∧ IsP xs ∧ IsP ys ∧ (xs.sum ≠ ys.sum → ∀ H', Ex H H' → E (.ref C) none H') ∧ (xs.sum = ys.sum → RetV .non H Q)
theorem ok_check_pair (T : Tx K mg) : FnOk P w K mg base (L2.CX P w) 4 T.a_check_pair T.d_check_pair ["one", "other"] (sp_check_pair T.C_NoFit) := by
  refine T.F_check_pair.okX sc_check_pair (fun vs H Q E h => ?_) (fun cdv A outer s H vs Q E hr h => ?_)
  · obtain ⟨a, b, xs, ys, rfl, _⟩ := h
    rfl
  · obtain ⟨a, b, xs, ys, rfl, hx, hy, ix, iy, qn, qs⟩ := h
    refine ⟨_, (pss_cons (ps_expr (pe_call (ok_check_parting T) (hr.mono (by decide)) (by rfl) T.g_check_parting T.F_check_parting.kp T.b_check_parting .nil pass0 (pa_cons (pv 0) pa_nil)))
    (pss_cons (ps_expr (pe_call (ok_check_parting T) (hr.mono (by decide)) (by rfl) T.g_check_parting T.F_check_parting.kp T.b_check_parting .nil pass0 (pa_cons (pv 1) pa_nil)))
    (pss_one (ps_if (pt_cmpR op_ne (pe_callB (sumK (K := K) rfl rfl) (by rfl) T.n_sum (by decide +kernel) (pa_cons (pv 0) pa_nil)) (pe_callB (sumK (K := K) rfl rfl) (by rfl) T.n_sum (by decide +kernel) (pa_cons (pv 1) pa_nil)) (nomark _))
      (pss_one (ps_raise rfl (takes_of rfl rfl rfl rfl) (pmk_own PySem.F.excBase_ValueError T.x_NoFit T.g_NoFit T.k_NoFit (raises_own T.s_NoFit T.t_NoFit) rfl)))
      pss_nil)))), ?_⟩
    refine q_drop (ev_call (ea_cons (ev_var rfl) ea_nil) (spv_check hx ix)) fun H1 e1 => ?_
    refine q_drop (ev_call (ea_cons (ev_var rfl) ea_nil) (spv_check (e1 _ _ hy) iy)) fun H2 e2 => ?_
    have e12 := e1.trans e2
    refine s_when (et_test (ev_ne (ev_cb (ea_cons (ev_var rfl) ea_nil) (rc_sum (Ll.sq (e12 _ _ hx)))) (ev_cb (ea_cons (ev_var rfl) ea_nil) (rc_sum (Ll.sq (e12 _ _ hy)))) rfl)) (fun hb H3 e3 => ?_) (fun hb H3 e3 => ?_)
    · show E (.ref T.C_NoFit) none H3
      exact qn (fun z => by rw [z] at hb; simp at hb) H3 (e12.trans e3)
    · refine qs ?_ H3 (e12.trans e3)
      have := hb
      simp at this
      exact this
theorem spv_pair {a b C : Addr} {xs ys : List Int} {H : Hp} (hx : Ll H a xs) (hy : Ll H b ys) (ix : IsP xs) (iy : IsP ys) (he : xs.sum = ys.sum) : SpV (sp_check_pair C) [.ref a, .ref b] H .non := fun H1 e _ q _ => ⟨a, b, xs, ys, rfl, e _ _ hx, e _ _ hy, ix, iy, fun z => absurd he z, fun _ => q⟩
def sp_lacking_count (C : Addr) : Sp := fun vs H Q E => ∃ (a b : Addr) (xs ys : List Int), vs = [.ref a, .ref b] ∧ Ll H a xs ∧ Ll H b ys ∧ IsP xs ∧ IsP ys ∧ (xs.sum ≠ ys.sum → ∀ H', Ex H H' → E (.ref C) none H') ∧ (xs.sum = ys.sum → RetV (lackV xs ys) H Q)
theorem ok_lacking_count (T : Tx K mg) : FnOk P w K mg base (L2.CX P w) 5 T.a_lacking_count T.d_lacking_count ["one", "other"] (sp_lacking_count T.C_NoFit) := by
  refine T.F_lacking_count.okX sc_lacking_count (fun vs H Q E h => ?_) (fun cdv A outer s H vs Q E hr h => ?_)
  · obtain ⟨a, b, xs, ys, rfl, _⟩ := h
    rfl
  · obtain ⟨a, b, xs, ys, rfl, hx, hy, ix, iy, qn, qs⟩ := h
    refine ⟨_, (pss_cons (ps_expr (pe_call (ok_check_pair T) (hr.mono (by decide)) (by rfl) T.g_check_pair T.F_check_pair.kp T.b_check_pair .nil (E := E) (passes_call (takes_of rfl rfl rfl rfl) fun _ _ _ _ h => h) (pa_cons (pv 0) (pa_cons (pv 1) pa_nil))))
    (pss_cons (ps_set (i := 2) sc_lacking_count.nd rfl (Or.inl rfl) pe_int)
    (pss_cons (ps_for (g := g2n K 3 4) (passes_of rfl) rfl (pi_enum (by rfl) T.n_enumerate (pa_cons (pe_call (ok_gaps T) (hr.mono (by decide)) (by rfl) T.g_gaps T.F_gaps.kp T.b_gaps .nil pass0 (pa_cons (pv 0) (pa_cons (pv 1) pa_nil))) pa_nil)) (pg_tup rfl (pgs_cons (pg_name (i := 3) sc_lacking_count.nd rfl (Or.inl rfl)) (pgs_cons (pg_name (i := 4) sc_lacking_count.nd rfl (Or.inl rfl)) pgs_nil)))
      (pss_cons (ps_aug (i := 2) sc_lacking_count.nd rfl (Or.inl rfl) (pv 4) ip_add)
      (pss_one (ps_if (pt_cmpR op_lt (pv 2) pe_int (nomark _))
        (pss_one (ps_ret (pe_op op_add (pv 3) pe_int)))
        pss_nil))))
    (pss_one (ps_ret pe_non))))), ?_⟩
    by_cases he : xs.sum = ys.sum
    · have q := qs he
      have lx := ix.len
      have ly := iy.len
      refine q_drop (ev_call (ea_cons (ev_var rfl) (ea_cons (ev_var rfl) ea_nil)) (spv_pair hx hy ix iy he)) fun H1 e1 => ?_
      refine q_asg ev_c fun H2 e2 => ?_
      have e12 := e1.trans e2
      refine q_forEN (Pv := fun p i σ' H' => ∃ y1 y2 : Option V, σ' = [some (.ref a), some (.ref b), some (.int (lead xs ys i)), y1, y2] ∧ Ex H H' ∧ Ll H' p (gapsL xs ys) ∧ lackV xs ys = firstF (lead xs ys) i (max xs.length ys.length - i))
        (el_call (ea_cons (ev_var rfl) (ea_cons (ev_var rfl) ea_nil)) (spl_gaps (e12 _ _ hx) (e12 _ _ hy) (by omega) (by omega))) (fun p H3 np e3 hp => ⟨none, none, rfl, e12.trans e3, hp, rfl⟩) (fun p i σ' H' _ hP => ?_) (fun p i x σ' H' H3 hg hP e3 => ?_) (fun p σ' H' hP => ?_)
      · obtain ⟨_, _, _, _, hp, _⟩ := hP
        exact hp.sq
      · obtain ⟨y1, y2, rfl, eH, hp, hl⟩ := hP
        obtain ⟨hi, rfl⟩ := gaps_get hg
        rw [firstF_step hi] at hl
        refine q_aug rfl (ev_var rfl) fun H4 e4 => ?_
        rw [← lead_next]
        refine s_when (et_test (ev_rI0 (ev_var rfl) ev_c)) (fun hb H5 e5 => ?_) (fun hb H5 e5 => ?_)
        · refine s_ret (ev_is (w := lackV xs ys) (ev_rI0 (ev_var rfl) ev_c) ?_) fun H6 e6 => q H6 (eH.trans (((e3.trans e4).trans e5).trans e6))
          rw [hl, if_pos (of_decide_eq_true hb)]
          rfl
        · rw [if_neg (of_decide_eq_false hb)] at hl
          exact ⟨_, _, rfl, eH.trans ((e3.trans e4).trans e5), ((e3.trans e4).trans e5) _ _ hp, hl⟩
      · obtain ⟨y1, y2, rfl, eH, hp, hl⟩ := hP
        rw [List.length_map, gaps_len, Nat.sub_self] at hl
        have hl' : lackV xs ys = .non := hl
        rw [hl'] at q
        exact s_ret ev_c fun H3 e3 => q H3 (eH.trans e3)
    · exact ⟨.ref a, rfl, .ref b, rfl, a, b, xs, ys, rfl, hx, hy, ix, iy, fun _ => qn he, fun z => absurd z he⟩
theorem spv_lacking {a b C : Addr} {xs ys : List Int} {H : Hp} (hx : Ll H a xs) (hy : Ll H b ys) (ix : IsP xs) (iy : IsP ys) (he : xs.sum = ys.sum) : SpV (sp_lacking_count C) [.ref a, .ref b] H (lackV xs ys) := fun H1 e _ q _ => ⟨a, b, xs, ys, rfl, e _ _ hx, e _ _ hy, ix, iy, fun z => absurd he z, fun _ => q⟩
def sp_lies_above (C : Addr) : Sp := fun vs H Q E => ∃ (a b : Addr) (xs ys : List Int), vs = [.ref a, .ref b] ∧ Ll H a xs ∧ Ll H b ys ∧ IsP xs ∧ IsP ys ∧ (xs.sum ≠ ys.sum → ∀ H', Ex H H' → E (.ref C) none H') ∧ (xs.sum = ys.sum → RetV (.bl (decide (lackV xs ys = .non))) H Q)
theorem ok_lies_above (T : Tx K mg) : FnOk P w K mg base (L2.CX P w) 6 T.a_lies_above T.d_lies_above ["one", "other"] (sp_lies_above T.C_NoFit) := by
  refine T.F_lies_above.okX sc_lies_above (fun vs H Q E h => ?_) (fun cdv A outer s H vs Q E hr h => ?_)
  · obtain ⟨a, b, xs, ys, rfl, _⟩ := h
    rfl
  · obtain ⟨a, b, xs, ys, rfl, hx, hy, ix, iy, qn, qs⟩ := h
    refine ⟨_, (pss_one (ps_ret (pe_cmpR op_isN (pe_call (ok_lacking_count T) (hr.mono (by decide)) (by rfl) T.g_lacking_count T.F_lacking_count.kp T.b_lacking_count .nil (E := E) (passes_call (takes_of rfl rfl rfl rfl) fun _ _ _ _ h => h) (pa_cons (pv 0) (pa_cons (pv 1) pa_nil))) pe_non (nomark _)))), ?_⟩
    by_cases he : xs.sum = ys.sum
    · exact s_ret (ev_isN (ev_call (ea_cons (ev_var rfl) (ea_cons (ev_var rfl) ea_nil)) (spv_lacking hx hy ix iy he))) fun H1 e1 => qs he H1 e1
    · exact ⟨.ref a, rfl, .ref b, rfl, a, b, xs, ys, rfl, hx, hy, ix, iy, fun _ => qn he, fun z => absurd z he⟩
theorem spv_above {a b C : Addr} {xs ys : List Int} {H : Hp} (hx : Ll H a xs) (hy : Ll H b ys) (ix : IsP xs) (iy : IsP ys) (he : xs.sum = ys.sum) : SpV (sp_lies_above C) [.ref a, .ref b] H (.bl (decide (lackV xs ys = .non))) := fun H1 e _ q _ => ⟨a, b, xs, ys, rfl, e _ _ hx, e _ _ hy, ix, iy, fun z => absurd he z, fun _ => q⟩
end
/-! ### a box moved: the row, its parts and its sum -/
/-- the row with the box moved, a 0 behind -/
def moved (ns : List Int) (i j : Nat) : List Int := let r := (ns ++ [0]).set i ((ns ++ [0]).getD i 0 - 1); r.set j (r.getD j 0 + 1)
theorem get_getD {l : List Int} {j : Nat} (h : j < l.length) : l[j]? = some (l.getD j 0) := by
  rw [List.getD, List.getElem?_eq_getElem h]
  rfl
theorem moved_len (ns : List Int) (i j : Nat) : (moved ns i j).length = ns.length + 1 := by
  unfold moved
  simp
theorem moved_get {ns : List Int} {i j : Nat} (hij : i < j) (hj : j ≤ ns.length) (k : Nat) : (moved ns i j).getD k 0 = (if k = i then (ns ++ [0]).getD k 0 - 1 else if k = j then (ns ++ [0]).getD k 0 + 1 else (ns ++ [0]).getD k 0) := by
  have hl : (ns ++ [0]).length = ns.length + 1 := by simp
  unfold moved
  simp only [List.getD_eq_getElem?_getD]
  rw [List.getElem?_set]
  by_cases h1 : j = k
  · subst h1
    rw [if_pos rfl, if_neg (by omega : ¬ j = i), if_pos rfl, if_pos (by rw [List.length_set]; omega)]
    simp only [Option.getD_some]
    rw [List.getElem?_set_ne (by omega)]
  · rw [if_neg h1, List.getElem?_set]
    by_cases h2 : i = k
    · subst h2
      rw [if_pos rfl, if_pos rfl, if_pos (by omega)]
      rfl
    · rw [if_neg h2, if_neg (by omega), if_neg (by omega)]
theorem front_get {ns : List Int} {k : Nat} (h : k < ns.length) : (ns ++ [0]).getD k 0 = ns[k] := by
  simp [List.getD, List.getElem?_append_left h, h]
theorem back_get {ns : List Int} : (ns ++ [0]).getD ns.length 0 = 0 := by simp [List.getD]
theorem sum_set_at : ∀ {l : List Int} {k : Nat} (z : Int), k < l.length → (l.set k z).sum = l.sum - l.getD k 0 + z
  | [], _, _, h => by simp at h
  | a :: r, 0, z, _ => by
    show (z :: r).sum = (a :: r).sum - a + z
    rw [List.sum_cons, List.sum_cons]
    omega
  | a :: r, k + 1, z, h => by
    have ih := sum_set_at (l := r) (k := k) z (by simpa using h)
    show (a :: r.set k z).sum = (a :: r).sum - r.getD k 0 + z
    rw [List.sum_cons, List.sum_cons, ih]
    omega
theorem moved_sum {ns : List Int} {i j : Nat} (hij : i < j) (hj : j ≤ ns.length) : (moved ns i j).sum = ns.sum := by
  have hl : (ns ++ [0]).length = ns.length + 1 := by simp
  unfold moved
  rw [sum_set_at _ (by rw [List.length_set]; omega), sum_set_at _ (by omega), sum_append]
  simp only [List.sum_cons, List.sum_nil]
  omega
theorem mem_getD {l : List Int} {x : Int} (h : x ∈ l) : ∃ k, k < l.length ∧ l.getD k 0 = x := by
  obtain ⟨k, hk, e⟩ := List.mem_iff_getElem.mp h
  exact ⟨k, hk, by simp [List.getD, hk, e]⟩
theorem getD_mem {l : List Int} {k : Nat} (h : k < l.length) : l.getD k 0 ∈ l := by
  have : l.getD k 0 = l[k] := by simp [List.getD, h]
  rw [this]
  exact List.getElem_mem h
/-! ### stairparts.order: _are_places, let_down -/
/-- a value of which it is known whether it is a whole number -/
def isI : V → Bool
  | .int _ => true
  | _ => false
def NumV (K : PySem.W.Frag) (H : Hp) (x : V) : Prop := ∃ (t : Value) (b1 b2 : Bool), (∀ H1, Ex H H1 → TyX K H1 x t) ∧ PySem.W.kitOne K t (.type "int") = some b1 ∧ PySem.W.kitOne K t (.type "bool") = some b2 ∧ (b1 && !b2) = isI x
theorem NumV.mono {K : PySem.W.Frag} {H H' : Hp} {x : V} (e : Ex H H') (h : NumV K H x) : NumV K H' x := by
  obtain ⟨t, b1, b2, h1, h2⟩ := h
  exact ⟨t, b1, b2, fun H1 e1 => h1 H1 (e.trans e1), h2⟩
theorem numV_int {K : PySem.W.Frag} {H : Hp} {i : Int} : NumV K H (.int i) := ⟨.type "int", true, false, fun _ _ => .base (.int _), kit_ty (by decide +kernel), kit_ty (by decide +kernel), rfl⟩
theorem numV_bl {K : PySem.W.Frag} {H : Hp} {b : Bool} : NumV K H (.bl b) := ⟨.type "bool", true, true, fun _ _ => .base (.bl _), kit_ty (by decide +kernel), kit_ty (by decide +kernel), rfl⟩
theorem numV_non {K : PySem.W.Frag} {H : Hp} : NumV K H .non := ⟨.type "NoneType", false, false, fun _ _ => .base .non, kit_ty (by decide +kernel), kit_ty (by decide +kernel), rfl⟩
theorem numV_str {K : PySem.W.Frag} {H : Hp} {x : Str} : NumV K H (.str x) := ⟨.type "str", false, false, fun _ _ => .base (.str _), kit_ty (by decide +kernel), kit_ty (by decide +kernel), rfl⟩
theorem numV_lst {K : PySem.W.Frag} {H : Hp} {a : Addr} {zs : List V} (h : H a = some (.lst zs)) : NumV K H (.ref a) := ⟨.type "list", false, false, fun _ e => .base (.lst (e _ _ h)), kit_ty (by decide +kernel), kit_ty (by decide +kernel), rfl⟩
/-- whether these are places of a list of n parts, from which and to which a box may be let down -/
def arePl (n : Nat) : V → V → Bool
  | .int i, .int j => decide (0 ≤ i) && (decide (i < j) && decide (j ≤ (n : Int)))
  | _, _ => false
theorem arePl_iff {n : Nat} {x y : V} : arePl n x y = true ↔ ∃ i j : Nat, x = .int (i : Int) ∧ y = .int (j : Int) ∧ i < j ∧ j ≤ n := by
  constructor
  · intro h
    cases x with
    | int i =>
      cases y with
      | int j =>
        have h' : (decide (0 ≤ i) && (decide (i < j) && decide (j ≤ (n : Int)))) = true := h
        simp only [Bool.and_eq_true, decide_eq_true_eq] at h'
        exact ⟨i.toNat, j.toNat, by rw [Int.toNat_of_nonneg h'.1], by rw [Int.toNat_of_nonneg (by omega)], by omega, by omega⟩
      | _ => cases h
    | _ => cases h
  · rintro ⟨i, j, rfl, rfl, h1, h2⟩
    show (decide (0 ≤ (i : Int)) && (decide ((i : Int) < (j : Int)) && decide ((j : Int) ≤ (n : Int)))) = true
    simp only [Bool.and_eq_true, decide_eq_true_eq]
    omega
theorem arePl_not {n : Nat} {x y : V} (h : isI x = false ∨ isI y = false) : arePl n x y = false := by
  cases x <;> cases y <;> first | rfl | (rcases h with h | h <;> cases h)
def cutz (r : List Int) : List Int := if r.getLastD 1 = 0 then r.dropLast else r
/-- what let_down tells: none, a refusal -/
def ldV (ns : List Int) : V → V → Option (List Int)
  | .int i, .int j => if arePl ns.length (.int i) (.int j) = true ∧ isPart (cutz (moved ns i.toNat j.toNat)) = true then some (cutz (moved ns i.toNat j.toNat)) else none
  | _, _ => none
theorem ldV_no {ns : List Int} {x y : V} (h : arePl ns.length x y = false) : ldV ns x y = none := by
  cases x with
  | int i =>
    cases y with
    | int j =>
      show (if arePl ns.length (.int i) (.int j) = true ∧ isPart (cutz (moved ns i.toNat j.toNat)) = true then some (cutz (moved ns i.toNat j.toNat)) else none) = none
      rw [h, if_neg (fun z => by cases z.1)]
    | _ => rfl
  | _ => rfl
theorem ldV_at {ns : List Int} {i j : Nat} (h : i < j ∧ j ≤ ns.length) : ldV ns (.int (i : Int)) (.int (j : Int)) = if isPart (cutz (moved ns i j)) = true then some (cutz (moved ns i j)) else none := by
  have h1 : arePl ns.length (.int (i : Int)) (.int (j : Int)) = true := arePl_iff.mpr ⟨i, j, rfl, rfl, h.1, h.2⟩
  show (if arePl ns.length (.int (i : Int)) (.int (j : Int)) = true ∧ isPart (cutz (moved ns (i : Int).toNat (j : Int).toNat)) = true then some (cutz (moved ns (i : Int).toNat (j : Int).toNat)) else none) = _
  rw [h1, Int.toNat_natCast, Int.toNat_natCast]
  by_cases c : isPart (cutz (moved ns i j)) = true
  · rw [if_pos ⟨rfl, c⟩, if_pos c]
  · rw [if_neg (fun z => c z.2), if_neg c]
theorem at_back (l : List Int) (z : Int) : atI ((l ++ [z]).map V.int) (-1) = some (.int z) := by
  rw [List.map_append]
  exact atI_last _ _
section
variable {P : Program} {w : World} {K : PySem.W.Frag} {mg : Str → Option Value} {base : Heap}
theorem spv_isnum {x : V} {H : Hp} (h : NumV K H x) : SpV (sp_is_number K) [x] H (.bl (isI x)) := fun H1 e Q q _ => by
  obtain ⟨t, b1, b2, h1, h2, h3, h4⟩ := h
  refine ⟨x, t, b1, b2, rfl, fun H2 e2 => h1 H2 (e.trans e2), h2, h3, ?_⟩
  rw [h4]
  exact q
def sp_are_places (K : PySem.W.Frag) : Sp := fun vs H Q _ => ∃ (a : Addr) (ns : List Int) (x y : V), vs = [.ref a, x, y] ∧ Ll H a ns ∧ NumV K H x ∧ NumV K H y ∧ RetV (.bl (arePl ns.length x y)) H Q
theorem ok_are_places (T : Tx K mg) : FnOk P w K mg base CX0 2 T.a_are_places T.d_are_places ["parting", "first", "second"] (sp_are_places K) := by
  refine T.F_are_places.ok sc_are_places (fun vs H Q E h => ?_) (fun cdv A outer s H vs Q E hr h => ?_)
  · obtain ⟨a, ns, x, y, rfl, _⟩ := h
    rfl
  · obtain ⟨a, ns, x, y, rfl, hL, hx, hy, q⟩ := h
    refine ⟨_, (pss_one (ps_ret (pe_and (pe_call (ok_is_number T) (hr.mono (by decide)) (by rfl) T.g_is_number T.F_is_number.kp T.b_is_number .nil pass0 (pa_cons (pv 1) pa_nil)) (pe_and (pe_call (ok_is_number T) (hr.mono (by decide)) (by rfl) T.g_is_number T.F_is_number.kp T.b_is_number .nil pass0 (pa_cons (pv 2) pa_nil)) (pe_one (pe_chain3 op_le op_lt op_le pe_int (pv 1) (pv 2) (pe_callB (lenK (K := K) rfl) (by rfl) T.n_len PySem.boot_len (pa_cons (pv 0) pa_nil)))))))), ?_⟩
    have e1 : arePl ns.length x y = (isI x && (isI y && arePl ns.length x y)) := by
      cases hx' : isI x with
      | false => rw [arePl_not (.inl hx')]; rfl
      | true =>
        cases hy' : isI y with
        | false => rw [arePl_not (.inr hy')]; rfl
        | true => rw [Bool.true_and, Bool.true_and]
    rw [e1] at q
    refine s_ret (ev_andV (ev_call (ea_cons (ev_var rfl) ea_nil) (spv_isnum hx)) fun ix => ev_andV (ev_call (ea_cons (ev_var rfl) ea_nil) (spv_isnum hy)) fun iy => ?_) fun H1 e => q H1 e
    cases x with
    | int i =>
      cases y with
      | int j =>
        exact ev_is (ev_chain3 ev_c (ev_var rfl) (ev_var rfl) (ev_cb (ea_cons (ev_var rfl) ea_nil) (rc_len hL.sq))) (by rw [List.length_map]; rfl)
      | _ => cases iy
    | _ => cases ix
theorem spv_are {a : Addr} {ns : List Int} {x y : V} {H : Hp} (hL : Ll H a ns) (hx : NumV K H x) (hy : NumV K H y) : SpV (sp_are_places K) [.ref a, x, y] H (.bl (arePl ns.length x y)) := fun H1 e _ q _ => ⟨a, ns, x, y, rfl, e _ _ hL, hx.mono e, hy.mono e, q⟩
def sp_let_down (K : PySem.W.Frag) (C : Addr) : Sp := fun vs H Q E => ∃ (a : Addr) (ns : List Int) (x y : V), vs = [.ref a, x, y] ∧ Ll H a ns ∧ IsP ns ∧ NumV K H x ∧ NumV K H y ∧
  (ldV ns x y = none → ∀ H', Ex H H' → E (.ref C) none H') ∧ ∀ r, ldV ns x y = some r → RetL (r.map V.int) H Q
theorem getLastD_cut {r : List Int} {n : Nat} (h : r.length = n + 1) : r[n]? = some (r.getLastD 1) := by
  have hne : r ≠ [] := fun z => by rw [z] at h; cases h
  rw [List.getLastD_eq_getLast?, List.getLast?_eq_getElem?, h, Nat.add_sub_cancel, List.getElem?_eq_getElem (by omega)]
  rfl
theorem ok_let_down (T : Tx K mg) : FnOk P w K mg base (L2.CX P w) 4 T.a_let_down T.d_let_down ["parting", "first", "second"] (sp_let_down K T.C_NoFit) := by
  refine T.F_let_down.okX sc_let_down (fun vs H Q E h => ?_) (fun cdv A outer s H vs Q E hr h => ?_)
  · obtain ⟨a, ns, x, y, rfl, _⟩ := h
    rfl
  · obtain ⟨a, ns, x, y, rfl, hL, hp, hx, hy, qn, qs⟩ := h
    refine ⟨_, (pss_cons (ps_expr (pe_call (ok_check_parting T) (hr.mono (by decide)) (by rfl) T.g_check_parting T.F_check_parting.kp T.b_check_parting .nil pass0 (pa_cons (pv 0) pa_nil)))
    (pss_cons (ps_if (pt_not (pt_val (pe_call (ok_are_places T) (hr.mono (by decide)) (by rfl) T.g_are_places T.F_are_places.kp T.b_are_places .nil pass0 (pa_cons (pv 0) (pa_cons (pv 1) (pa_cons (pv 2) pa_nil))))))
      (pss_one (ps_raise rfl (takes_of rfl rfl rfl rfl) (pmk_own PySem.F.excBase_ValueError T.x_NoFit T.g_NoFit T.k_NoFit (raises_own T.s_NoFit T.t_NoFit) rfl)))
      pss_nil)
    (pss_cons (ps_set (i := 3) sc_let_down.nd rfl (Or.inl rfl) (pe_lst (StX.pa_star (pv 0) (pa_cons pe_int pa_nil))))
    (pss_cons (ps_augL (K := K) rfl (pv 3) (pv 1) pe_int ip_sub)
    (pss_cons (ps_augL (K := K) rfl (pv 3) (pv 2) pe_int ip_add)
    (pss_cut (ps_if (pt_cmpR op_eq (pe_ix (ixlK (K := K) rfl) (pv 3) (pe_un un_neg pe_int) (fun _ _ => rfl)) pe_int (nomark _))
      (pss_one (ps_expr (pe_bm0 PySem.F.plainAttrs_list PySem.F.slot_list_pop PySem.F.type_list_pop mt_pop (pv 3))))
      pss_nil)
    (pss_cons (ps_if (pt_not (pt_val (pe_call (ok_is_parting T) (hr.mono (by decide)) (by rfl) T.g_is_parting T.F_is_parting.kp T.b_is_parting .nil pass0 (pa_cons (pv 3) pa_nil))))
      (pss_one (ps_raise rfl (takes_of rfl rfl rfl rfl) (pmk_own PySem.F.excBase_ValueError T.x_NoFit T.g_NoFit T.k_NoFit (raises_own T.s_NoFit T.t_NoFit) rfl)))
      pss_nil)
    (pss_one (ps_ret (pv 3)))))))))), ?_⟩
    have hl := hp.len
    refine q_drop (ev_call (ea_cons (ev_var rfl) ea_nil) (spv_check hL hp)) fun H1 e1 => ?_
    refine q_when (et_not (et_B (ev_call (ea_cons (ev_var rfl) (ea_cons (ev_var rfl) (ea_cons (ev_var rfl) ea_nil))) (spv_are (e1 _ _ hL) (hx.mono e1) (hy.mono e1))))) (fun hb H2 e2 => ?_) (fun hb H2 e2 => ?_)
    · show E (.ref T.C_NoFit) none H2
      exact qn (ldV_no (by simpa using hb)) H2 (e1.trans e2)
    · have e12 := e1.trans e2
      obtain ⟨i, j, rfl, rfl, hij, hj⟩ := arePl_iff.mp (show arePl ns.length x y = true by simpa using hb)
      rw [ldV_at ⟨hij, hj⟩] at qn qs
      -- parts = [*parting, 0]
      refine q_asgL (xs := (ns ++ [0]).map V.int) (el_is (el_lst (ea_star (ev_var rfl) (Ll.sq (e12 _ _ hL)) (ea_cons ev_c ea_nil)) (by rw [List.length_append, List.length_map]; show ns.length + 1 ≤ 100000; omega)) (by rw [List.map_append]; rfl)) fun p H3 np e3 hp3 => ?_
      have nH : H p = none := fresh_back e12 np
      have l1 : (ns ++ [0]).length = ns.length + 1 := by rw [List.length_append]; rfl
      have g1 : (ns ++ [0])[i]? = some ((ns ++ [0]).getD i 0) := get_getD (by omega)
      refine q_augL (ev_var rfl) (ev_var rfl) ev_c hp3 g1 fun H4 e4 => ?_
      have m4 : Ex H (upd H4 p (.lst (((ns ++ [0]).set i ((ns ++ [0]).getD i 0 - 1)).map V.int))) := ((e12.trans e3).trans e4).mut nH
      have g2 : ((ns ++ [0]).set i ((ns ++ [0]).getD i 0 - 1))[j]? = some (((ns ++ [0]).set i ((ns ++ [0]).getD i 0 - 1)).getD j 0) := get_getD (by rw [List.length_set]; omega)
      refine q_augL (ev_var rfl) (ev_var rfl) ev_c upd_same g2 fun H5 e5 => ?_
      generalize hr5 : ((ns ++ [0]).set i ((ns ++ [0]).getD i 0 - 1)).set j (((ns ++ [0]).set i ((ns ++ [0]).getD i 0 - 1)).getD j 0 + 1) = r
      have er : moved ns i j = r := hr5
      have lr : r.length = ns.length + 1 := by rw [← er]; exact moved_len ns i j
      rw [er] at qn qs
      have m5 : Ex H (upd H5 p (.lst (r.map V.int))) := (m4.trans e5).mut nH
      generalize hH6 : upd H5 p (.lst (r.map V.int)) = H6 at m5
      have hp6 : Ll H6 p r := by rw [← hH6]; exact upd_same
      have glast := getLastD_cut lr
      have gat : atI (r.map V.int) (-1) = some (.int (r.getLastD 1)) := by
        have hne : r ≠ [] := fun z => by rw [z] at lr; cases lr
        have e := List.dropLast_concat_getLast hne
        have e2 : r.getLastD 1 = r.getLast hne := by rw [List.getLastD_eq_getLast?, List.getLast?_eq_getLast hne]; rfl
        have key := at_back r.dropLast (r.getLast hne)
        rw [e] at key
        rw [e2]
        exact key
      refine q_cut (M := fun σ' H' => σ' = [some (.ref a), some (.int (i : Int)), some (.int (j : Int)), some (.ref p)] ∧ Ex H H' ∧ Ll H' p (cutz r)) (s_when (b := decide (V.int (r.getLastD 1) = V.int 0)) (et_test (ev_eq (ev_op (ev_var rfl) (ev_un ev_c ru_neg) (rv_ixL hp6.sq gat)) ev_c rfl)) (fun hz H7 e7 => ?_) (fun hz H7 e7 => ?_)) fun σ' H' hM => ?_
      · have hz0 : r.getLastD 1 = 0 := V.int.inj (of_decide_eq_true hz)
        refine s_pop (w := V.int 0) (ev_var rfl) (e7 _ _ hp6) (by rw [List.length_map, List.getElem?_map, lr, Nat.add_sub_cancel, glast, hz0]; rfl) fun H8 e8 => ⟨rfl, ((m5.trans e7).trans e8).mut nH, ?_⟩
        show upd H8 p _ p = _
        rw [upd_same, cutz, if_pos hz0, List.map_dropLast]
      · have hz0 : ¬ r.getLastD 1 = 0 := fun z => by rw [z] at hz; simp at hz
        refine ⟨rfl, m5.trans e7, ?_⟩
        show H7 p = _
        rw [cutz, if_neg hz0]
        exact e7 _ _ hp6
      · obtain ⟨rfl, m7, hp7⟩ := hM
        refine q_when (et_not (et_B (ev_call (ea_cons (ev_var rfl) ea_nil) (spv_is_parting hp7)))) (fun hb H8 e8 => ?_) (fun hb H8 e8 => ?_)
        · show E (.ref T.C_NoFit) none H8
          have hb' : isPart (cutz r) = false := by simpa using hb
          rw [hb'] at qn
          exact qn rfl H8 (m7.trans e8)
        · have hb' : isPart (cutz r) = true := by simpa using hb
          rw [hb'] at qs
          exact s_ret (ev_var rfl) fun H9 e9 => qs _ rfl p H9 nH ((m7.trans e8).trans e9) ((e8.trans e9) _ _ hp7)
end
/-! ### is_parting, check_parting of anything -/
def partV : Int → Int → List V → Bool
  | _, _, [] => true
  | ahead, whole, .int x :: r => if x < 1 ∨ ahead < x then false else if 200 < whole + x then false else partV x (whole + x) r
  | _, _, _ :: _ => false
theorem partV_no {a w : Int} {v : V} {r : List V} (h : isI v = false) : partV a w (v :: r) = false := by
  cases v <;> first | rfl | cases h
theorem partV_ints : ∀ (ns : List Int) (a w : Int), partV a w (ns.map V.int) = partB a w ns
  | [], _, _ => rfl
  | x :: r, a, w => by
    show (if x < 1 ∨ a < x then false else if 200 < w + x then false else partV x (w + x) (r.map V.int)) = (if x < 1 ∨ a < x then false else if 200 < w + x then false else partB x (w + x) r)
    rw [partV_ints r]
/-- no list -/
def NoL (K : PySem.W.Frag) (H : Hp) (x : V) : Prop := ∃ t, (∀ H1, Ex H H1 → TyX K H1 x t) ∧ PySem.W.kitOne K t (.type "list") = some false
/-- a value of which it is known whether it is a parting -/
def AnyV (K : PySem.W.Frag) (H : Hp) (x : V) (b : Bool) : Prop := (NoL K H x ∧ b = false) ∨ ∃ (a : Addr) (zs : List V), x = .ref a ∧ H a = some (.lst zs) ∧ (∀ z ∈ zs, NumV K H z) ∧ partV 200 0 zs = b
theorem AnyV.mono {K : PySem.W.Frag} {H H' : Hp} {x : V} {b : Bool} (e : Ex H H') (h : AnyV K H x b) : AnyV K H' x b := by
  rcases h with ⟨⟨t, ty, k⟩, hb⟩ | ⟨a, zs, hx, hL, hN, hb⟩
  · exact .inl ⟨⟨t, fun H1 e1 => ty H1 (e.trans e1), k⟩, hb⟩
  · exact .inr ⟨a, zs, hx, e _ _ hL, fun z hz => (hN z hz).mono e, hb⟩
theorem anyV_ints {K : PySem.W.Frag} {H : Hp} {a : Addr} {ns : List Int} (h : Ll H a ns) : AnyV K H (.ref a) (isPart ns) := .inr ⟨a, _, rfl, h, fun z hz => by
  obtain ⟨i, _, rfl⟩ := List.mem_map.mp hz
  exact numV_int, partV_ints ns 200 0⟩
def BadP (K : PySem.W.Frag) (H : Hp) (x : V) : Prop := AnyV K H x false
def GoodP (H : Hp) (x : V) : Prop := ∃ (a : Addr) (ns : List Int), x = .ref a ∧ Ll H a ns ∧ IsP ns
theorem BadP.mono {K : PySem.W.Frag} {H H' : Hp} {x : V} (e : Ex H H') (h : BadP K H x) : BadP K H' x := AnyV.mono e h
theorem GoodP.mono {H H' : Hp} {x : V} (e : Ex H H') (h : GoodP H x) : GoodP H' x := by
  obtain ⟨a, ns, hx, hL, hp⟩ := h
  exact ⟨a, ns, hx, e _ _ hL, hp⟩
/-- no number from 0 on; no whole -/
def BadN (K : PySem.W.Frag) (H : Hp) (x : V) : Prop := NumV K H x ∧ ∀ i, x = .int i → i < 0
def BadW (K : PySem.W.Frag) (H : Hp) (x : V) : Prop := BadN K H x ∨ ∃ i : Int, x = .int i ∧ 200 < i
theorem BadN.mono {K : PySem.W.Frag} {H H' : Hp} {x : V} (e : Ex H H') (h : BadN K H x) : BadN K H' x := ⟨h.1.mono e, h.2⟩
theorem BadW.mono {K : PySem.W.Frag} {H H' : Hp} {x : V} (e : Ex H H') (h : BadW K H x) : BadW K H' x := h.imp (·.mono e) id
section
variable {P : Program} {w : World} {K : PySem.W.Frag} {mg : Str → Option Value} {base : Heap}
def sp_is_partingA (K : PySem.W.Frag) : Sp := fun vs H Q _ => ∃ (x : V) (b : Bool), vs = [x] ∧ AnyV K H x b ∧ RetV (.bl b) H Q
theorem ok_is_partingA (T : Tx K mg) : FnOk P w K mg base CX0 2 T.a_is_parting T.d_is_parting ["thing"] (sp_is_partingA K) := by
  refine T.F_is_parting.ok sc_is_parting (fun vs H Q E h => ?_) (fun cdv A outer s H vs Q E hr h => ?_)
  · obtain ⟨x, b, rfl, _⟩ := h
    rfl
  · obtain ⟨x, b, rfl, hx, q⟩ := h
    refine ⟨_, (pss_cons (ps_if (pt_not (pt_val (pe_callB (isiK (K := K) rfl) (by rfl) T.n_isinstance (by decide +kernel) (pa_cons (pv 0) (pa_cons (pe_bltn (v := .ty "list") (u := .type "list") (by rfl) T.n_list (by decide +kernel) rfl) pa_nil)))))
      (pss_one (ps_ret pe_bl))
      pss_nil)
    (pss_cons (ps_set (i := 1) sc_is_parting.nd rfl (Or.inl rfl) pe_int)
    (pss_cons (ps_set (i := 2) sc_is_parting.nd rfl (Or.inl rfl) (pe_glob rfl T.c_GREATEST_WHOLE T.r_GREATEST_WHOLE))
    (pss_cons (ps_for PassesOwn.never rfl (pi_list (pv 0)) (pg_name (i := 3) sc_is_parting.nd rfl (Or.inl rfl))
      (pss_cons (ps_if (PW.pt (pw_or (pt_not (pt_val (pe_call (ok_is_number T) (hr.mono (by decide)) (by rfl) T.g_is_number T.F_is_number.kp T.b_is_number .nil pass0 (pa_cons (pv 3) pa_nil)))) (pw_or (pt_cmpR op_lt (pv 3) pe_int (nomark _)) (pw_or1 (pt_cmpR op_gt (pv 3) (pv 2) (nomark _))))))
        (pss_one (ps_ret pe_bl))
        pss_nil)
      (pss_cons (ps_set (i := 2) sc_is_parting.nd rfl (Or.inl rfl) (pv 3))
      (pss_cons (ps_aug (i := 1) sc_is_parting.nd rfl (Or.inl rfl) (pv 3) ip_add)
      (pss_one (ps_if (pt_cmpR op_gt (pv 1) (pe_glob rfl T.c_GREATEST_WHOLE T.r_GREATEST_WHOLE) (nomark _))
        (pss_one (ps_ret pe_bl))
        pss_nil))))))
    (pss_one (ps_ret pe_bl)))))), ?_⟩
    rcases hx with ⟨⟨t, ty, hk⟩, rfl⟩ | ⟨a, zs, rfl, hL, hN, rfl⟩
    · refine q_when (et_not (et_B (ev_cb (ea_cons (ev_var rfl) (ea_cons ev_c ea_nil)) (rc_isi (.ty _) ty hk)))) (fun _ H1 e1 => ?_) (fun hb => by cases hb)
      exact s_ret ev_c fun H2 e2 => q H2 (e1.trans e2)
    · refine q_when (et_not (et_B (ev_cb (ea_cons (ev_var rfl) (ea_cons ev_c ea_nil)) (rc_isiL hL)))) (fun hb => by cases hb) (fun _ H1 e1 => ?_)
      refine q_asg ev_c fun H2 e2 => ?_
      refine q_asg ev_c fun H3 e3 => ?_
      have e13 := (e1.trans e2).trans e3
      refine q_forLn (ev_var rfl) (sq_of (e13 _ _ hL)) (fun i σ' H' => ∃ (ah wh : Int) (y : Option V), σ' = [some (.ref a), some (.int wh), some (.int ah), y] ∧ Ex H H' ∧ partV 200 0 zs = partV ah wh (zs.drop i))
        (fun H4 e4 => ⟨200, 0, none, rfl, e13.trans e4, rfl⟩) (fun i σ' H' _ hP => ?_) (fun i x σ' H' hx hP => ?_) (fun σ' H' hP => ?_)
      · obtain ⟨ah, wh, y, rfl, eH, _⟩ := hP
        exact sq_of (eH _ _ hL)
      · obtain ⟨ah, wh, y, rfl, eH, hp⟩ := hP
        have hn : NumV K H' x := (hN x (List.mem_of_getElem? hx)).mono eH
        rw [drop_one hx] at hp
        cases hi : isI x with
        | false =>
          rw [partV_no hi] at hp
          refine q_when (b := true) (et_or (a := true) (b := true) (et_is (et_not (et_B (ev_call (ea_cons (ev_var rfl) ea_nil) (spv_isnum hn)))) (by rw [hi]; rfl)) fun z => by cases z) (fun _ H4 e4 => ?_) (fun hb => by cases hb)
          refine s_ret ev_c fun H5 e5 => ?_
          have := q H5 (eH.trans (e4.trans e5))
          rw [hp] at this
          exact this
        | true =>
          cases x with
          | int z =>
            have hp' : partV 200 0 zs = if z < 1 ∨ ah < z then false else if 200 < wh + z then false else partV z (wh + z) (zs.drop (i + 1)) := hp
            refine q_when (b := decide (z < 1) || decide (ah < z)) (et_is (et_or (et_not (et_B (ev_call (ea_cons (ev_var rfl) ea_nil) (spv_isnum hn)))) fun _ => et_or (et_test (ev_rI0 (ev_var rfl) ev_c)) fun _ => et_test (ev_rI0 (ev_var rfl) (ev_var rfl))) rfl) (fun hb H4 e4 => ?_) (fun hb H4 e4 => ?_)
            · refine s_ret ev_c fun H5 e5 => ?_
              rw [Bool.or_eq_true, decide_eq_true_eq, decide_eq_true_eq] at hb
              rw [if_pos hb] at hp'
              have := q H5 (eH.trans (e4.trans e5))
              rw [hp'] at this
              exact this
            · rw [Bool.or_eq_false_iff, decide_eq_false_iff_not, decide_eq_false_iff_not] at hb
              rw [if_neg (by omega)] at hp'
              refine q_asg (ev_var rfl) fun H5 e5 => ?_
              refine q_aug rfl (ev_var rfl) fun H6 e6 => ?_
              refine s_when (b := decide (200 < wh + z)) (et_test (ev_rI0 (ev_var rfl) ev_c)) (fun hb H7 e7 => ?_) (fun hb H7 e7 => ?_)
              · refine s_ret ev_c fun H8 e8 => ?_
                rw [if_pos (of_decide_eq_true hb)] at hp'
                have := q H8 (eH.trans ((((e4.trans e5).trans e6).trans e7).trans e8))
                rw [hp'] at this
                exact this
              · rw [if_neg (of_decide_eq_false hb)] at hp'
                exact ⟨z, wh + z, _, rfl, eH.trans (((e4.trans e5).trans e6).trans e7), hp'⟩
          | _ => cases hi
      · obtain ⟨ah, wh, y, rfl, eH, hp⟩ := hP
        have hp' : partV 200 0 zs = true := by
          rw [hp, List.drop_of_length_le (Nat.le_refl _)]
          rfl
        refine s_ret ev_c fun H5 e5 => ?_
        have := q H5 (eH.trans e5)
        rw [hp'] at this
        exact this
theorem spv_any {x : V} {b : Bool} {H : Hp} (h : AnyV K H x b) : SpV (sp_is_partingA K) [x] H (.bl b) := fun H1 e _ q _ => ⟨x, b, rfl, h.mono e, q⟩
/-- what a bad parting is answered by -/
def spB1 (K : PySem.W.Frag) (C : Addr) : Sp := fun vs H _ E => ∃ x, vs = [x] ∧ BadP K H x ∧ ∀ H', Ex H H' → E (.ref C) none H'
theorem spxB1 {C : Addr} {x : V} {H : Hp} {E : XK} (h : BadP K H x) (q : ∀ H', Ex H H' → E (.ref C) none H') : ∀ H1, Ex H H1 → ∀ Q : VK, spB1 K C ([x] ++ []) H1 Q E := fun _ e _ => ⟨x, rfl, h.mono e, fun H2 e2 => q H2 (e.trans e2)⟩
theorem ok_check_bad (T : Tx K mg) : FnOk P w K mg base (L2.CX P w) 3 T.a_check_parting T.d_check_parting ["thing"] (spB1 K T.C_NoParting) := by
  refine T.F_check_parting.okX sc_check_parting (fun vs H Q E h => ?_) (fun cdv A outer s H vs Q E hr h => ?_)
  · obtain ⟨x, rfl, _⟩ := h
    rfl
  · obtain ⟨x, rfl, hx, q⟩ := h
    refine ⟨_, (pss_one (ps_if (pt_not (pt_val (pe_call (ok_is_partingA T) (hr.mono (by decide)) (by rfl) T.g_is_parting T.F_is_parting.kp T.b_is_parting .nil pass0 (pa_cons (pv 0) pa_nil))))
      (pss_one (ps_raise rfl (takes_of rfl rfl rfl rfl) (pmk_own PySem.F.excBase_ValueError T.x_NoParting T.g_NoParting T.k_NoParting (raises_own T.s_NoParting T.t_NoParting) rfl)))
      pss_nil)), ?_⟩
    exact s_when (b := true) (et_not (et_B (ev_call (ea_cons (ev_var rfl) ea_nil) (spv_any hx)))) (fun _ H1 e1 => q H1 e1) (fun z => by cases z)
end
/-! ### the mathematics of the square -/
/-- the square's number -/
def sq (p : List Int) : Nat := ((List.range p.length).filter fun (i : Nat) => decide ((i : Int) < p.getD i 0)).length
theorem at_getD {p : List Int} {i : Nat} (h : i < p.length) : p[i]? = some (p.getD i 0) := by
  rw [List.getD, List.getElem?_eq_getElem h]
  rfl
theorem desc_le {p : List Int} (h : p.Pairwise fun a b => b ≤ a) {i j : Nat} (hij : i ≤ j) (hj : j < p.length) : p.getD j 0 ≤ p.getD i 0 := by
  rcases Nat.lt_or_ge i j with c | c
  · have := List.pairwise_iff_getElem.mp h i j (by omega) hj c
    simp only [List.getD, List.getElem?_eq_getElem hj, List.getElem?_eq_getElem (show i < p.length by omega), Option.getD_some]
    exact this
  · rw [show j = i by omega]
    exact Int.le_refl _
theorem sq_iff {p : List Int} (h : p.Pairwise fun a b => b ≤ a) (i : Nat) : i < sq p ↔ i < p.length ∧ (i : Int) < p.getD i 0 := by
  unfold sq
  rw [dc_count (fun (i : Nat) => decide ((i : Int) < p.getD i 0)) p.length (fun i j hij hj hb => ?_) i, decide_eq_true_eq]
  have := desc_le h hij hj
  rw [decide_eq_true_eq] at hb ⊢
  omega
theorem sq_le (p : List Int) : sq p ≤ p.length := by
  unfold sq
  have := List.length_filter_le (fun i : Nat => decide ((i : Int) < p.getD i 0)) (List.range p.length)
  rw [List.length_range] at this
  exact this
def besideOf (p : List Int) (k : Nat) : List Int := ((p.take k).filter fun z => decide ((k : Int) < z)).map fun z => z - (k : Int)
/-- what put_square tells: none, a refusal -/
def putV (xs ys : List Int) (n : Int) : Option (List Int) :=
  if n < xs.length ∨ n < mx ys then none else if 200 < n ∨ 200 < n * n + xs.sum + ys.sum then none else some ((xs ++ List.replicate (n - xs.length).toNat 0).map (fun z => n + z) ++ ys)
theorem sum_shift (k : Int) : ∀ l : List Int, (l.map fun z => k + z).sum = k * l.length + l.sum
  | [] => by simp
  | x :: r => by
    rw [List.map_cons, List.sum_cons, List.sum_cons, sum_shift k r, List.length_cons, Int.natCast_add, Int.mul_add]
    omega
theorem sum_zeros : ∀ n : Nat, (List.replicate n (0 : Int)).sum = 0
  | 0 => rfl
  | n + 1 => by rw [List.replicate_succ, List.sum_cons, sum_zeros n]; rfl
theorem filter_zeros {k : Int} : ∀ l : List Int, l.Pairwise (fun a b => b ≤ a) → (∀ x ∈ l, k ≤ x) → l.filter (fun z => decide (k < z)) ++ List.replicate (l.length - (l.filter fun z => decide (k < z)).length) k = l
  | [], _, _ => rfl
  | x :: r, h, hk => by
    have ih := filter_zeros r (List.pairwise_cons.mp h).2 fun y hy => hk y (List.mem_cons_of_mem _ hy)
    by_cases c : k < x
    · rw [List.filter_cons, if_pos (decide_eq_true c), List.length_cons, List.length_cons, Nat.add_sub_add_right, List.cons_append, ih]
    · have hx := hk x List.mem_cons_self
      have e : x = k := by omega
      have e0 : (x :: r).filter (fun z => decide (k < z)) = [] := List.filter_eq_nil_iff.mpr fun y hy => by
        rcases List.mem_cons.mp hy with e' | hy
        · rw [e']
          simpa using c
        · have := (List.pairwise_cons.mp h).1 y hy
          simp
          omega
      rw [e0, List.length_nil, Nat.sub_zero, List.nil_append]
      refine (List.eq_replicate_iff.mpr ⟨rfl, fun y hy => ?_⟩).symm
      have h1 := hk y hy
      rcases List.mem_cons.mp hy with e' | hy
      · omega
      · have := (List.pairwise_cons.mp h).1 y hy
        omega
/-- cut and put together again -/
theorem put_cut {p : List Int} (h : IsP p) : putV (besideOf p (sq p)) (p.drop (sq p)) (sq p : Int) = some p ∧ IsP (besideOf p (sq p)) ∧ IsP (p.drop (sq p)) := by
  have hk := sq_le p
  have hl := h.len
  generalize hkk : sq p = k at hk
  have big : ∀ x ∈ p.take k, (k : Int) ≤ x := fun x hx => by
    obtain ⟨i, hi, rfl⟩ := List.mem_iff_getElem.mp hx
    rw [List.length_take] at hi
    rw [List.getElem_take]
    have h1 := (sq_iff h.2.1 (k - 1)).mp (by omega)
    have h2 := desc_le h.2.1 (show i ≤ k - 1 by omega) (by omega)
    have e : p.getD i 0 = p[i]'(by omega) := by simp [List.getD, show i < p.length by omega]
    omega
  have small : ∀ x ∈ p.drop k, x ≤ (k : Int) := fun x hx => by
    obtain ⟨i, hi, rfl⟩ := List.mem_iff_getElem.mp hx
    rw [List.length_drop] at hi
    rw [List.getElem_drop]
    have h1 : ¬ k < sq p := by omega
    rw [sq_iff h.2.1 k] at h1
    have h2 := desc_le h.2.1 (show k ≤ k + i by omega) (by omega)
    have e : p.getD (k + i) 0 = p[k + i]'(by omega) := by simp [List.getD, show k + i < p.length by omega]
    omega
  have lt : (p.take k).length = k := by rw [List.length_take]; omega
  have key := filter_zeros (k := (k : Int)) (p.take k) (h.2.1.sublist (List.take_sublist _ _)) big
  have lb : (besideOf p k).length = ((p.take k).filter fun z => decide ((k : Int) < z)).length := by
    unfold besideOf
    rw [List.length_map]
  have lle := List.length_filter_le (fun z => decide ((k : Int) < z)) (p.take k)
  have e1 : (besideOf p k ++ List.replicate ((k : Int) - (besideOf p k).length).toNat 0).map (fun z => (k : Int) + z) = p.take k := by
    rw [List.map_append, List.map_replicate, Int.add_zero, show ((k : Int) - (besideOf p k).length).toNat = (p.take k).length - ((p.take k).filter fun z => decide ((k : Int) < z)).length by omega]
    unfold besideOf
    rw [List.map_map]
    have e2 : (fun z => (k : Int) + z) ∘ (fun z => z - (k : Int)) = id := by
      funext z
      show (k : Int) + (z - k) = z
      omega
    rw [e2, List.map_id]
    exact key
  have s1 : (k : Int) * k + (besideOf p k).sum = (p.take k).sum := by
    have := congrArg List.sum e1
    rw [sum_shift, sum_append, sum_zeros, List.length_append, List.length_replicate] at this
    have e3 : (((besideOf p k).length + ((k : Int) - (besideOf p k).length).toNat : Nat) : Int) = k := by omega
    rw [e3] at this
    omega
  have s2 : p.sum = (p.take k).sum + (p.drop k).sum := by
    conv => lhs; rw [← List.take_append_drop k p]
    exact sum_append _ _
  have hs := h.2.2
  have nb : ∀ x ∈ besideOf p k, 1 ≤ x := fun x hx => by
    unfold besideOf at hx
    obtain ⟨y, hy, rfl⟩ := List.mem_map.mp hx
    have := (List.mem_filter.mp hy).2
    simp at this
    omega
  have nd : ∀ x ∈ p.drop k, 1 ≤ x := fun x hx => h.1 x (List.mem_of_mem_drop hx)
  have sb := sum_nn (p := besideOf p k) fun x hx => by have := nb x hx; omega
  have sd := sum_nn (p := p.drop k) fun x hx => by have := nd x hx; omega
  have kk : 0 ≤ (k : Int) * k := Int.mul_nonneg (by omega) (by omega)
  have m1 : ¬ ((k : Int) < (besideOf p k).length ∨ (k : Int) < mx (p.drop k)) := by
    have := foldl_max_le (p.drop k) 0 k (by omega) small
    unfold mx
    omega
  refine ⟨?_, ⟨nb, ?_, by omega⟩, ⟨nd, h.2.1.sublist (List.drop_sublist _ _), by omega⟩⟩
  · unfold putV
    rw [if_neg m1, if_neg (by omega), e1, List.take_append_drop]
  · unfold besideOf
    rw [List.pairwise_map]
    refine ((h.2.1.sublist (List.take_sublist _ _)).sublist List.filter_sublist).imp fun hab => ?_
    omega
/-- put together and cut again -/
theorem cut_put {xs ys r : List Int} {n : Int} (h0 : 0 ≤ n) (hx : IsP xs) (hy : IsP ys) (h : putV xs ys n = some r) : IsP r ∧ (sq r : Int) = n ∧ besideOf r (sq r) = xs ∧ r.drop (sq r) = ys := by
  unfold putV at h
  split at h
  · cases h
  rename_i c1
  split at h
  · cases h
  rename_i c2
  obtain ⟨k, rfl⟩ := Int.eq_ofNat_of_zero_le h0
  have h := Option.some.inj h
  have c3 : xs.length ≤ k := by omega
  have hym : ∀ x ∈ ys, x ≤ (k : Int) := fun x hx => by
    have := mx_mem x hx
    omega
  generalize hf : (xs ++ List.replicate ((k : Int) - xs.length).toNat 0).map (fun z => (k : Int) + z) = f at h
  have lf : f.length = k := by
    rw [← hf, List.length_map, List.length_append, List.length_replicate]
    omega
  have ef : f = xs.map (fun z => (k : Int) + z) ++ List.replicate (k - xs.length) (k : Int) := by
    rw [← hf, List.map_append, List.map_replicate, Int.add_zero, show ((k : Int) - xs.length).toNat = k - xs.length by omega]
  have big : ∀ x ∈ f, (k : Int) ≤ x := fun x hx' => by
    rw [ef] at hx'
    rcases List.mem_append.mp hx' with m | m
    · obtain ⟨z, hz, rfl⟩ := List.mem_map.mp m
      have := hx.1 z hz
      omega
    · rw [(List.mem_replicate.mp m).2]
      omega
  have pf : f.Pairwise fun a b => b ≤ a := by
    rw [ef, List.pairwise_append]
    refine ⟨?_, ?_, fun a ha b hb => ?_⟩
    · rw [List.pairwise_map]
      exact hx.2.1.imp fun hab => by omega
    · rw [List.pairwise_replicate]
      exact .inr (Int.le_refl _)
    · rw [(List.mem_replicate.mp hb).2]
      obtain ⟨z, hz, rfl⟩ := List.mem_map.mp ha
      have := hx.1 z hz
      omega
  have sf : f.sum = (k : Int) * k + xs.sum := by
    rw [← hf, sum_shift, sum_append, sum_zeros, List.length_append, List.length_replicate, show ((xs.length + ((k : Int) - xs.length).toNat : Nat) : Int) = k by omega]
    omega
  have pr : r.Pairwise fun a b => b ≤ a := by
    rw [← h, List.pairwise_append]
    exact ⟨pf, hy.2.1, fun a ha b hb => by have := big a ha; have := hym b hb; omega⟩
  have ir : IsP r := by
    refine ⟨fun x hx' => ?_, pr, ?_⟩
    · rw [← h] at hx'
      rcases List.mem_append.mp hx' with m | m
      · have := big x m
        have : 0 < f.length := List.length_pos_iff.mpr fun z => by rw [z] at m; cases m
        omega
      · exact hy.1 x m
    · rw [← h, sum_append, sf]
      omega
  have er : sq r = k := by
    have g1 : ∀ i, i < k → i < sq r := fun i hi => by
      rw [sq_iff pr]
      have e : r.getD i 0 = f[i] := by
        rw [← h, List.getD, List.getElem?_append_left (by omega), List.getElem?_eq_getElem (by omega)]
        rfl
      have := big f[i] (List.getElem_mem _)
      rw [e, ← h, List.length_append]
      omega
    have g2 : ¬ k < sq r := fun hk => by
      rw [sq_iff pr] at hk
      have lk : k < r.length := hk.1
      rw [← h, List.length_append] at lk
      have e : r.getD k 0 = ys[k - f.length]'(by omega) := by
        rw [← h, List.getD, List.getElem?_append_right (by omega), List.getElem?_eq_getElem (by omega)]
        rfl
      have := hym ys[k - f.length] (List.getElem_mem _)
      omega
    have := g1 (k - 1)
    omega
  refine ⟨ir, by rw [er], ?_, ?_⟩
  · rw [er]
    unfold besideOf
    have e1 : r.take k = f := by rw [← h, List.take_append_of_le_length (by omega), ← lf, List.take_length]
    rw [e1, ef, List.filter_append, List.filter_map]
    have e2 : List.filter ((fun z => decide ((k : Int) < z)) ∘ fun z => (k : Int) + z) xs = xs := List.filter_eq_self.mpr fun z hz => by
      have := hx.1 z hz
      simp
      omega
    have e3 : (List.replicate (k - xs.length) (k : Int)).filter (fun z => decide ((k : Int) < z)) = [] := List.filter_eq_nil_iff.mpr fun z hz => by
      rw [(List.mem_replicate.mp hz).2]
      simp
    rw [e2, e3, List.append_nil, List.map_map]
    have e4 : (fun z => z - (k : Int)) ∘ (fun z => (k : Int) + z) = id := by
      funext z
      show (k : Int) + z - k = z
      omega
    rw [e4, List.map_id]
  · rw [er, ← h, List.drop_append_of_le_length (by omega), ← lf, List.drop_length, List.nil_append]
/-! ### the mathematics of turning -/
theorem cnt_nil (c : Int) : cnt [] c = 0 := rfl
theorem cnt_cons (x : Int) (r : List Int) (c : Int) : cnt (x :: r) c = (if c < x then 1 else 0) + cnt r c := by
  unfold cnt
  rw [List.filter_cons]
  by_cases h : c < x
  · rw [if_pos (decide_eq_true h), if_pos h, List.length_cons]
    omega
  · rw [if_neg (by simpa using h), if_neg h]
    omega
theorem cnt_nn (p : List Int) (c : Int) : 0 ≤ cnt p c := Int.natCast_nonneg _
theorem cnt_le (p : List Int) (c : Int) : cnt p c ≤ p.length := by
  unfold cnt
  have := List.length_filter_le (fun z => decide (c < z)) p
  omega
theorem cnt_zero {p : List Int} {c : Int} (h : ∀ x ∈ p, x ≤ c) : cnt p c = 0 := by
  unfold cnt
  rw [List.filter_eq_nil_iff.mpr fun x hx => by have := h x hx; simpa using this]
  rfl
theorem cnt_anti (p : List Int) {c d : Int} (h : c ≤ d) : cnt p d ≤ cnt p c := by
  induction p with
  | nil => exact Int.le_refl _
  | cons x r ih =>
    rw [cnt_cons, cnt_cons]
    by_cases h1 : d < x
    · rw [if_pos h1, if_pos (by omega)]
      omega
    · rw [if_neg h1]
      split <;> omega
theorem cnt_all {p : List Int} (h : ∀ x ∈ p, 1 ≤ x) : cnt p 0 = p.length := by
  induction p with
  | nil => rfl
  | cons x r ih =>
    have h1 := h x List.mem_cons_self
    rw [cnt_cons, if_pos (by omega), ih fun y hy => h y (List.mem_cons_of_mem _ hy), List.length_cons]
    omega
/-- the i-th row is longer than c just where more than i rows are -/
theorem cnt_iff : ∀ {p : List Int} {i : Nat} {x c : Int}, p.Pairwise (fun a b => b ≤ a) → p[i]? = some x → ((i : Int) < cnt p c ↔ c < x)
  | [], i, x, c, _, h => by simp at h
  | y :: r, 0, x, c, hp, h => by
    have e : y = x := Option.some.inj h
    subst e
    rw [cnt_cons]
    by_cases h1 : c < y
    · rw [if_pos h1]
      have := cnt_nn r c
      constructor <;> intro <;> omega
    · rw [if_neg h1, cnt_zero fun z hz => by have := (List.pairwise_cons.mp hp).1 z hz; omega]
      constructor <;> intro <;> omega
  | y :: r, i + 1, x, c, hp, h => by
    have h' : r[i]? = some x := h
    have ih := cnt_iff (c := c) (List.pairwise_cons.mp hp).2 h'
    rw [cnt_cons]
    by_cases h1 : c < y
    · rw [if_pos h1]
      constructor
      · intro h2
        exact ih.mp (by omega)
      · intro h2
        have := ih.mpr h2
        omega
    · have hx := (List.pairwise_cons.mp hp).1 x (List.mem_of_getElem? h')
      rw [if_neg h1, cnt_zero fun z hz => by have := (List.pairwise_cons.mp hp).1 z hz; omega]
      constructor <;> intro <;> omega
theorem count_below (n : Nat) : ∀ m : Int, 0 ≤ m → m ≤ n → (((List.range n).filter fun (j : Nat) => decide ((j : Int) < m)).length : Int) = m := by
  induction n with
  | zero =>
    intro m h0 h1
    simp
    omega
  | succ n ih =>
    intro m h0 h1
    rw [List.range_succ, List.filter_append, List.length_append]
    by_cases h : m ≤ n
    · have e : List.filter (fun (j : Nat) => decide ((j : Int) < m)) [n] = [] := by
        rw [List.filter_cons, if_neg (by simpa using h)]
        rfl
      rw [e]
      have := ih m h0 h
      simp only [List.length_nil, Nat.add_zero]
      exact this
    · have hm : m = (n : Int) + 1 := by omega
      have e : List.filter (fun (j : Nat) => decide ((j : Int) < m)) [n] = [n] := by
        rw [List.filter_cons, if_pos (by simp; omega)]
        rfl
      have e2 : (List.range n).filter (fun (j : Nat) => decide ((j : Int) < m)) = List.range n := List.filter_eq_self.mpr fun j hj => by
        have := List.mem_range.mp hj
        simp
        omega
      rw [e, e2, List.length_range]
      simp only [List.length_cons, List.length_nil]
      omega
theorem sum_map_add (n : Nat) (f g : Nat → Int) : ((List.range n).map fun j => f j + g j).sum = ((List.range n).map f).sum + ((List.range n).map g).sum := by
  induction n with
  | zero => rfl
  | succ n ih =>
    rw [List.range_succ, List.map_append, List.map_append, List.map_append, sum_append, sum_append, sum_append, ih]
    simp only [List.map_cons, List.map_nil, List.sum_cons, List.sum_nil]
    omega
theorem sum_ind (n : Nat) : ∀ m : Int, 0 ≤ m → m ≤ n → ((List.range n).map fun (j : Nat) => (if (j : Int) < m then (1 : Int) else 0)).sum = m := by
  induction n with
  | zero =>
    intro m h0 h1
    show (0 : Int) = m
    omega
  | succ n ih =>
    intro m h0 h1
    rw [List.range_succ, List.map_append, sum_append]
    simp only [List.map_cons, List.map_nil, List.sum_cons, List.sum_nil]
    by_cases h : m ≤ n
    · rw [ih m h0 h, if_neg (by omega)]
      omega
    · have hm : m = (n : Int) + 1 := by omega
      have e : ((List.range n).map fun (j : Nat) => (if (j : Int) < m then (1 : Int) else 0)) = (List.range n).map fun (j : Nat) => (if (j : Int) < (n : Int) then (1 : Int) else 0) := List.map_congr_left fun j hj => by
        have := List.mem_range.mp hj
        rw [if_pos (by omega), if_pos (by omega)]
      rw [e, ih n (by omega) (by omega), if_pos (by omega)]
      omega
theorem sum_cnt (n : Nat) : ∀ p : List Int, (∀ x ∈ p, 0 ≤ x ∧ x ≤ n) → ((List.range n).map fun (j : Nat) => cnt p (j : Int)).sum = p.sum
  | [], _ => by
    have e : ((List.range n).map fun (j : Nat) => cnt [] (j : Int)) = (List.range n).map fun (j : Nat) => (if (j : Int) < 0 then (1 : Int) else 0) := List.map_congr_left fun j _ => by
      rw [cnt_nil, if_neg (by omega)]
    rw [e, sum_ind n 0 (by omega) (by omega)]
    rfl
  | x :: r, h => by
    have e : ((List.range n).map fun (j : Nat) => cnt (x :: r) (j : Int)) = (List.range n).map fun (j : Nat) => ((if (j : Int) < x then (1 : Int) else 0) + cnt r (j : Int)) := List.map_congr_left fun j _ => cnt_cons x r j
    have hx := h x List.mem_cons_self
    rw [e, sum_map_add, sum_ind n x hx.1 hx.2, sum_cnt n r fun y hy => h y (List.mem_cons_of_mem _ hy), List.sum_cons]
theorem Tn_sum {p : List Int} (h : IsP p) : (Tn p).sum = p.sum := by
  unfold Tn
  refine sum_cnt _ p fun x hx => ⟨by have := h.1 x hx; omega, ?_⟩
  have := mx_mem x hx
  have := mx_nn p
  omega
theorem mx_of : ∀ (p : List Int), mx p = 0 ∨ mx p ∈ p := fun p => by
  have key : ∀ (l : List Int) (d : Int), l.foldl max d = d ∨ l.foldl max d ∈ l := by
    intro l
    induction l with
    | nil => exact fun d => .inl rfl
    | cons x r ih =>
      intro d
      rw [List.foldl_cons]
      rcases ih (max d x) with e | e
      · by_cases h : x ≤ d
        · left
          rw [e]
          omega
        · right
          rw [e, show max d x = x by omega]
          exact List.mem_cons_self
      · exact .inr (List.mem_cons_of_mem _ e)
  exact key p 0
theorem Tn_get {p : List Int} {i : Nat} {x : Int} (h : (Tn p)[i]? = some x) : x = cnt p (i : Int) ∧ (i : Int) < mx p := by
  unfold Tn at h
  rw [List.getElem?_map] at h
  by_cases hi : i < (mx p).toNat
  · rw [List.getElem?_range hi] at h
    cases h
    exact ⟨rfl, by omega⟩
  · rw [List.getElem?_eq_none (by rw [List.length_range]; omega)] at h
    cases h
theorem Tn_len (p : List Int) : (Tn p).length = (mx p).toNat := by
  unfold Tn
  rw [List.length_map, List.length_range]
theorem Tn_is {p : List Int} (h : IsP p) : IsP (Tn p) := by
  refine ⟨fun x hx => ?_, ?_, by rw [Tn_sum h]; exact h.2.2⟩
  · obtain ⟨j, hj, rfl⟩ := List.mem_map.mp hx
    have hj := List.mem_range.mp hj
    rcases mx_of p with e | e
    · omega
    · show 1 ≤ cnt p (j : Int)
      have : cnt p (j : Int) ≠ 0 := by
        unfold cnt
        intro z
        have z' : (p.filter fun z => decide ((j : Int) < z)) = [] := List.length_eq_zero_iff.mp (by omega)
        have := List.filter_eq_nil_iff.mp z' _ e
        simp at this
        omega
      have := cnt_nn p (j : Int)
      omega
  · rw [List.pairwise_iff_getElem]
    intro i j hi hj hij
    have e1 := (Tn_get (List.getElem?_eq_getElem hi)).1
    have e2 := (Tn_get (List.getElem?_eq_getElem hj)).1
    rw [e1, e2]
    exact cnt_anti p (by omega)
theorem cnt_Tn {p : List Int} (h : IsP p) {i : Nat} {x : Int} (hx : p[i]? = some x) : cnt (Tn p) (i : Int) = x := by
  have h1 := h.1 x (List.mem_of_getElem? hx)
  have h2 := mx_mem x (List.mem_of_getElem? hx)
  unfold cnt Tn
  rw [List.filter_map, List.length_map]
  have e : (List.range (mx p).toNat).filter ((fun z => decide ((i : Int) < z)) ∘ fun (j : Nat) => cnt p (j : Int)) = (List.range (mx p).toNat).filter fun (j : Nat) => decide ((j : Int) < x) := List.filter_congr fun j _ => by
    show decide ((i : Int) < cnt p (j : Int)) = decide ((j : Int) < x)
    rw [decide_eq_decide]
    exact cnt_iff h.2.1 hx
  rw [e]
  have h3 : x ≤ ((mx p).toNat : Int) := by omega
  exact count_below _ x (by omega) h3
theorem mx_Tn {p : List Int} (h : IsP p) : mx (Tn p) = p.length := by
  cases hp : p with
  | nil => rfl
  | cons y r =>
    rw [← hp]
    have hy : y ∈ p := by rw [hp]; exact List.mem_cons_self
    have h1 := h.1 y hy
    have h2 := mx_mem y hy
    have e0 := cnt_all h.1
    refine (mx_eq (by omega) ?_ fun z hz => ?_).symm
    · rw [← e0]
      exact List.mem_map.mpr ⟨0, List.mem_range.mpr (by omega), rfl⟩
    · obtain ⟨j, _, rfl⟩ := List.mem_map.mp hz
      exact cnt_le _ _
/-- turned twice it is itself -/
theorem Tn_Tn {p : List Int} (h : IsP p) : Tn (Tn p) = p := by
  refine List.ext_getElem? fun i => ?_
  by_cases hi : i < p.length
  · have hx : p[i]? = some p[i] := List.getElem?_eq_getElem hi
    have e := cnt_Tn h hx
    have : (Tn (Tn p))[i]? = some (cnt (Tn p) (i : Int)) := by
      show ((List.range (mx (Tn p)).toNat).map fun (j : Nat) => cnt (Tn p) (j : Int))[i]? = _
      rw [List.getElem?_map, List.getElem?_range (by rw [mx_Tn h]; omega)]
      rfl
    rw [this, e, hx]
  · rw [List.getElem?_eq_none (by rw [Tn_len, mx_Tn h]; omega), List.getElem?_eq_none (by omega)]
/-! ### the mathematics of bends -/
def oddB (ns : List Int) : Bool := ns.all fun z => decide (z % 2 = 1)
theorem oddB_iff {ns : List Int} : oddB ns = true ↔ ∀ z ∈ ns, z % 2 = 1 := by
  unfold oddB
  rw [List.all_eq_true]
  exact ⟨fun h z hz => of_decide_eq_true (h z hz), fun h z hz => decide_eq_true (h z hz)⟩
/-- unlike odd numbers, falling -/
structure UO (ns : List Int) : Prop where
  odd : ∀ z ∈ ns, z % 2 = 1
  pos : ∀ z ∈ ns, 1 ≤ z
  fall : ns.Pairwise fun a b => b < a
theorem UO.tail {x : Int} {r : List Int} (h : UO (x :: r)) : UO r := ⟨fun z hz => h.odd z (List.mem_cons_of_mem _ hz), fun z hz => h.pos z (List.mem_cons_of_mem _ hz), (List.pairwise_cons.mp h.fall).2⟩
theorem UO.of {ns : List Int} (h : IsP ns) (ho : oddB ns = true) (hn : ns.Nodup) : UO ns :=
  ⟨oddB_iff.mp ho, h.1, (h.2.1.and hn).imp fun hab => by
    obtain ⟨h1, h2⟩ := hab
    have : _ ≠ _ := h2
    omega⟩
theorem UO.nodup {ns : List Int} (h : UO ns) : ns.Nodup := h.fall.imp fun hab => by
  intro z
  omega
/-- the first rows, from place k on -/
def rwf : Int → List Int → List Int
  | _, [] => []
  | k, b :: r => (k + (b + 1) / 2) :: rwf (k + 1) r
theorem rwf_len : ∀ (k : Int) (ns : List Int), (rwf k ns).length = ns.length
  | _, [] => rfl
  | k, _ :: r => congrArg (· + 1) (rwf_len (k + 1) r)
theorem rwf_get : ∀ (k : Int) (ns : List Int) (i : Nat), i < ns.length → (rwf k ns).getD i 0 = k + i + (ns.getD i 0 + 1) / 2
  | k, b :: r, 0, _ => by
    show k + (b + 1) / 2 = k + ((0 : Nat) : Int) + (b + 1) / 2
    omega
  | k, b :: r, i + 1, h => by
    have := rwf_get (k + 1) r i (by simpa using h)
    show (rwf (k + 1) r).getD i 0 = k + ((i + 1 : Nat) : Int) + (r.getD i 0 + 1) / 2
    rw [this]
    omega
def rows (ns : List Int) : List Int := rwf 0 ns
theorem UO.first : ∀ {b : Int} {r : List Int}, UO (b :: r) → 2 * (r.length : Int) + 1 ≤ b
  | b, [], h => by
    have := h.pos b List.mem_cons_self
    show 2 * 0 + 1 ≤ b
    omega
  | b, c :: r, h => by
    have ih := UO.first h.tail
    have h1 := (List.pairwise_cons.mp h.fall).1 c List.mem_cons_self
    have h2 := h.odd b List.mem_cons_self
    have h3 := h.odd c (List.mem_cons_of_mem _ List.mem_cons_self)
    rw [List.length_cons]
    omega
theorem UO.sq : ∀ {ns : List Int}, UO ns → (ns.length : Int) * ns.length ≤ ns.sum
  | [], _ => by simp
  | b :: r, h => by
    have ih := UO.sq h.tail
    have h1 := UO.first h
    rw [List.sum_cons, List.length_cons]
    have e : ((r.length + 1 : Nat) : Int) * ((r.length + 1 : Nat) : Int) = (r.length : Int) * r.length + 2 * r.length + 1 := by
      rw [Int.natCast_add, Int.add_mul, Int.mul_add, Int.mul_add]
      omega
    rw [e]
    omega
theorem rwf_sum : ∀ {ns : List Int} (k : Int), UO ns → 2 * (rwf k ns).sum = 2 * (k * ns.length) + (ns.length : Int) * ns.length + ns.sum
  | [], k, _ => by simp [rwf]
  | b :: r, k, h => by
    have ih := rwf_sum (k + 1) h.tail
    have h2 := h.odd b List.mem_cons_self
    rw [List.sum_cons, List.length_cons]
    show 2 * ((k + (b + 1) / 2) :: rwf (k + 1) r).sum = _
    rw [List.sum_cons]
    have e : ((r.length + 1 : Nat) : Int) * ((r.length + 1 : Nat) : Int) = (r.length : Int) * r.length + 2 * r.length + 1 := by
      rw [Int.natCast_add, Int.add_mul, Int.mul_add, Int.mul_add]
      omega
    have e2 : k * ((r.length + 1 : Nat) : Int) = k * r.length + k := by
      rw [Int.natCast_add, Int.mul_add]
      omega
    have e3 : (k + 1) * (r.length : Int) = k * r.length + r.length := by
      rw [Int.add_mul]
      omega
    rw [e3] at ih
    rw [e, e2]
    omega
theorem rwf_ge : ∀ {ns : List Int} (k : Int), UO ns → ∀ x ∈ rwf k ns, k + ns.length ≤ x
  | [], _, _, x, hx => by cases hx
  | b :: r, k, h, x, hx => by
    have h1 := UO.first h
    have hx' : x ∈ (k + (b + 1) / 2) :: rwf (k + 1) r := hx
    rw [List.length_cons]
    rcases List.mem_cons.mp hx' with e | m
    · omega
    · have := rwf_ge (k + 1) h.tail x m
      omega
theorem rwf_desc : ∀ {ns : List Int} (k : Int), UO ns → (rwf k ns).Pairwise fun a b => b ≤ a
  | [], _, _ => .nil
  | b :: r, k, h => by
    refine List.pairwise_cons.mpr ⟨fun x hx => ?_, rwf_desc (k + 1) h.tail⟩
    have key : ∀ {ns : List Int} (k c : Int), UO ns → (∀ z ∈ ns, z ≤ c) → c % 2 = 1 → ∀ x ∈ rwf k ns, x ≤ k + (c + 1) / 2 := by
      intro ns
      induction ns with
      | nil => intro k c _ _ _ x hx; cases hx
      | cons d r ih =>
        intro k c h hc ho x hx
        have hx' : x ∈ (k + (d + 1) / 2) :: rwf (k + 1) r := hx
        have h3 := hc d List.mem_cons_self
        rcases List.mem_cons.mp hx' with e | m
        · omega
        · have hd := h.odd d List.mem_cons_self
          have := ih (k + 1) (d - 2) h.tail (fun z hz => by
            have h4 := (List.pairwise_cons.mp h.fall).1 z hz
            have h5 := h.odd z (List.mem_cons_of_mem _ hz)
            omega) (by omega) x m
          omega
    have hb := h.odd b List.mem_cons_self
    have := key (k + 1) (b - 2) h.tail (fun z hz => by
      have h4 := (List.pairwise_cons.mp h.fall).1 z hz
      have h5 := h.odd z (List.mem_cons_of_mem _ hz)
      omega) (by omega) x hx
    omega
theorem rows_is {ns : List Int} (h : UO ns) (hs : ns.sum ≤ 200) : IsP (rows ns) := by
  have h1 := rwf_sum 0 h
  have h2 := h.sq
  refine ⟨fun x hx => ?_, rwf_desc 0 h, ?_⟩
  · have := rwf_ge 0 h x hx
    have l : 0 < (rwf 0 ns).length := List.length_pos_iff.mpr fun z => by
      have hx' : x ∈ rwf 0 ns := hx
      rw [z] at hx'
      cases hx'
    rw [rwf_len] at l
    omega
  · show (rwf 0 ns).sum ≤ 200
    simp only [Int.zero_mul, Int.mul_zero] at h1
    omega
/-- the parting that is its own turn, of these bends -/
def unb (ns : List Int) : List Int := rows ns ++ (Tn (rows ns)).drop ns.length
theorem cnt_append (a b : List Int) (c : Int) : cnt (a ++ b) c = cnt a c + cnt b c := by
  unfold cnt
  rw [List.filter_append, List.length_append]
  omega
theorem cnt_full {p : List Int} {c : Int} (h : ∀ x ∈ p, c < x) : cnt p c = p.length := by
  unfold cnt
  rw [List.filter_eq_self.mpr fun x hx => decide_eq_true (h x hx)]
theorem Tn_getD {p : List Int} {i : Nat} (h : (i : Int) < mx p) : (Tn p).getD i 0 = cnt p (i : Int) := by
  unfold Tn
  rw [List.getD, List.getElem?_map, List.getElem?_range (by omega)]
  rfl
theorem rows_mx {ns : List Int} (h : UO ns) : (ns.length : Int) ≤ mx (rows ns) := by
  cases ns with
  | nil => exact mx_nn _
  | cons b r =>
    have := rwf_ge 0 h ((0 : Int) + (b + 1) / 2) List.mem_cons_self
    have := mx_mem (ns := rows (b :: r)) ((0 : Int) + (b + 1) / 2) List.mem_cons_self
    omega
/-- what stands behind the first rows -/
theorem tail_le {ns : List Int} (x : Int) (hx : x ∈ (Tn (rows ns)).drop ns.length) : x ≤ (ns.length : Int) := by
  obtain ⟨j, _, rfl⟩ := List.mem_map.mp (List.mem_of_mem_drop hx)
  have := cnt_le (rows ns) (j : Int)
  have e : (rows ns).length = ns.length := rwf_len 0 ns
  omega
theorem head_eq {ns : List Int} (h : UO ns) (x : Int) (hx : x ∈ (Tn (rows ns)).take ns.length) : x = (ns.length : Int) := by
  obtain ⟨j, hj, rfl⟩ := List.mem_iff_getElem.mp hx
  rw [List.length_take] at hj
  rw [List.getElem_take]
  have e1 := (Tn_get (List.getElem?_eq_getElem (show j < (Tn (rows ns)).length by omega))).1
  rw [e1, cnt_full fun x hx => by
    have := rwf_ge 0 h x hx
    omega]
  have e : (rows ns).length = ns.length := rwf_len 0 ns
  omega
theorem unb_sum {ns : List Int} (h : UO ns) (hs : ns.sum ≤ 200) : (unb ns).sum = ns.sum := by
  have ir := rows_is h hs
  have e1 := Tn_sum ir
  have hm := rows_mx h
  have lt := Tn_len (rows ns)
  have e2 : (Tn (rows ns)).sum = ((Tn (rows ns)).take ns.length).sum + ((Tn (rows ns)).drop ns.length).sum := by
    conv => lhs; rw [← List.take_append_drop ns.length (Tn (rows ns))]
    exact sum_append _ _
  have e3 : (Tn (rows ns)).take ns.length = List.replicate ns.length (ns.length : Int) := List.eq_replicate_iff.mpr ⟨by rw [List.length_take]; omega, head_eq h⟩
  have e4 : ∀ (n : Nat) (c : Int), (List.replicate n c).sum = (n : Int) * c := fun n c => by
    induction n with
    | zero => simp
    | succ n ih =>
      rw [List.replicate_succ, List.sum_cons, ih, Int.natCast_add, Int.add_mul]
      omega
  rw [e3, e4] at e2
  have e5 := rwf_sum 0 h
  simp only [Int.zero_mul, Int.mul_zero] at e5
  have e6 : (unb ns).sum = (rows ns).sum + ((Tn (rows ns)).drop ns.length).sum := sum_append _ _
  have e7 : (rows ns).sum = (rwf 0 ns).sum := rfl
  omega
theorem unb_is {ns : List Int} (h : UO ns) (hs : ns.sum ≤ 200) : IsP (unb ns) := by
  have ir := rows_is h hs
  have it := Tn_is ir
  refine ⟨fun x hx => ?_, ?_, by rw [unb_sum h hs]; exact hs⟩
  · rcases List.mem_append.mp hx with m | m
    · exact ir.1 x m
    · exact it.1 x (List.mem_of_mem_drop m)
  · show (rows ns ++ _).Pairwise _
    rw [List.pairwise_append]
    refine ⟨ir.2.1, it.2.1.sublist (List.drop_sublist _ _), fun a ha b hb => ?_⟩
    have := rwf_ge 0 h a ha
    have := tail_le b hb
    omega
theorem unb_mx {ns : List Int} (h : UO ns) : mx (unb ns) = mx (rows ns) := by
  have h0 := mx_nn (rows ns)
  have hm := rows_mx h
  rcases mx_of (rows ns) with e | e
  · have hl : ns.length = 0 := by omega
    have : ns = [] := List.length_eq_zero_iff.mp hl
    subst this
    rfl
  · refine (mx_eq h0 (List.mem_append_left _ e) fun y hy => ?_).symm
    rcases List.mem_append.mp hy with m | m
    · exact mx_mem y m
    · have := tail_le y m
      omega
theorem unb_get {ns : List Int} (h : UO ns) {i : Nat} (hi : (i : Int) < mx (rows ns)) : (unb ns).getD i 0 = if i < ns.length then (rows ns).getD i 0 else cnt (rows ns) (i : Int) := by
  have e : (rows ns).length = ns.length := rwf_len 0 ns
  unfold unb
  by_cases c : i < ns.length
  · rw [if_pos c, List.getD, List.getElem?_append_left (by omega)]
    rfl
  · rw [if_neg c, List.getD, List.getElem?_append_right (by omega), List.getElem?_drop, e, show ns.length + (i - ns.length) = i by omega]
    exact Tn_getD hi
theorem unb_len {ns : List Int} (h : UO ns) : ((unb ns).length : Int) = mx (rows ns) := by
  have e : (rows ns).length = ns.length := rwf_len 0 ns
  have h0 := mx_nn (rows ns)
  have hm := rows_mx h
  unfold unb
  rw [List.length_append, List.length_drop, Tn_len]
  omega
/-- turned it is itself -/
theorem unb_Tn {ns : List Int} (h : UO ns) (hs : ns.sum ≤ 200) : Tn (unb ns) = unb ns := by
  have ir := rows_is h hs
  have e : (rows ns).length = ns.length := rwf_len 0 ns
  have h0 := mx_nn (rows ns)
  have hm := rows_mx h
  have lu := unb_len h
  refine List.ext_getElem? fun i => ?_
  by_cases hi : (i : Int) < mx (rows ns)
  · have l1 : i < (Tn (unb ns)).length := by rw [Tn_len, unb_mx h]; omega
    have l2 : i < (unb ns).length := by omega
    have g1 : (Tn (unb ns))[i]? = some ((Tn (unb ns)).getD i 0) := by simp [List.getD, l1]
    have g2 : (unb ns)[i]? = some ((unb ns).getD i 0) := by simp [List.getD, l2]
    rw [g1, g2, Tn_getD (by rw [unb_mx h]; exact hi), unb_get h hi]
    congr 1
    show cnt (rows ns ++ _) _ = _
    rw [cnt_append]
    by_cases c : i < ns.length
    · rw [if_pos c, cnt_full (p := rows ns) fun x hx => by
        have := rwf_ge 0 h x hx
        omega]
      have k1 := cnt_Tn ir (at_getD (show i < (rows ns).length by omega))
      have k2 : cnt (Tn (rows ns)) (i : Int) = cnt ((Tn (rows ns)).take ns.length) (i : Int) + cnt ((Tn (rows ns)).drop ns.length) (i : Int) := by
        conv => lhs; rw [← List.take_append_drop ns.length (Tn (rows ns))]
        exact cnt_append _ _ _
      rw [cnt_full (p := (Tn (rows ns)).take ns.length) fun x hx => by
        have := head_eq h x hx
        omega, List.length_take, Tn_len] at k2
      omega
    · rw [if_neg c, cnt_zero (p := (Tn (rows ns)).drop ns.length) fun x hx => by
        have := tail_le x hx
        omega]
      omega
  · rw [List.getElem?_eq_none (by rw [Tn_len, unb_mx h]; omega), List.getElem?_eq_none (by omega)]
/-- what bends_of tells -/
def bndL (ns : List Int) : List Int := ((List.range ns.length).filter fun (i : Nat) => decide ((i : Int) < ns.getD i 0)).map fun (i : Nat) => 2 * (ns.getD i 0 - (i : Int)) - 1
theorem bnd_unb {ns : List Int} (h : UO ns) (hs : ns.sum ≤ 200) : bndL (unb ns) = ns := by
  have e : (rows ns).length = ns.length := rwf_len 0 ns
  have h0 := mx_nn (rows ns)
  have hm := rows_mx h
  have lu := unb_len h
  have e1 : ((List.range (unb ns).length).filter fun (i : Nat) => decide ((i : Int) < (unb ns).getD i 0)) = List.range ns.length := by
    have f1 : ((List.range (unb ns).length).filter fun (i : Nat) => decide ((i : Int) < (unb ns).getD i 0)) = (List.range (unb ns).length).filter fun (i : Nat) => decide (i < ns.length) := List.filter_congr fun i hi => by
      have hi := List.mem_range.mp hi
      rw [unb_get h (by omega), decide_eq_decide]
      by_cases c : i < ns.length
      · rw [if_pos c]
        have := rwf_ge 0 h ((rows ns).getD i 0) (by
          rw [List.getD, List.getElem?_eq_getElem (by omega)]
          exact List.getElem_mem _)
        constructor <;> intro <;> omega
      · rw [if_neg c]
        have := cnt_le (rows ns) (i : Int)
        constructor <;> intro <;> omega
    rw [f1]
    have f2 : ∀ n m : Nat, m ≤ n → (List.range n).filter (fun i => decide (i < m)) = List.range m := by
      intro n
      induction n with
      | zero =>
        intro m hm
        have : m = 0 := by omega
        subst this
        rfl
      | succ n ih =>
        intro m hm
        rw [List.range_succ, List.filter_append]
        by_cases c : m ≤ n
        · rw [ih m c, List.filter_cons, if_neg (by simpa using c)]
          simp
        · have : m = n + 1 := by omega
          subst this
          rw [List.filter_eq_self.mpr fun i hi => by have := List.mem_range.mp hi; simp; omega, List.filter_cons, if_pos (by simp), List.range_succ]
          rfl
    exact f2 _ _ (by omega)
  unfold bndL
  rw [e1]
  refine List.ext_getElem? fun i => ?_
  by_cases hi : i < ns.length
  · rw [List.getElem?_map, List.getElem?_range hi]
    show some (2 * ((unb ns).getD i 0 - (i : Int)) - 1) = _
    rw [unb_get h (by omega), if_pos hi, at_getD hi]
    congr 1
    have r := rwf_get 0 ns i hi
    have r' : (rows ns).getD i 0 = (rwf 0 ns).getD i 0 := rfl
    have ho := h.odd (ns.getD i 0) (by
      rw [List.getD, List.getElem?_eq_getElem hi]
      exact List.getElem_mem _)
    omega
  · rw [List.getElem?_eq_none (by rw [List.length_map, List.length_range]; omega), List.getElem?_eq_none (by omega)]
/-! ### stairparts.kinds: _check_odd, _check_unlike -/
theorem any_even (ns : List Int) : (ns.map fun z => decide (V.int (z % 2) = V.int 0)).any id = !oddB ns := by
  unfold oddB
  induction ns with
  | nil => rfl
  | cons x r ih =>
    rw [List.map_cons, List.any_cons, ih, List.all_cons, Bool.not_and]
    congr 1
    show decide (V.int (x % 2) = V.int 0) = !decide (x % 2 = 1)
    rw [Bool.eq_iff_iff]
    simp
    omega
section
variable {P : Program} {w : World} {K : PySem.W.Frag} {mg : Str → Option Value} {base : Heap}
def sp_check_odd (C : Addr) : Sp := fun vs H Q E => ∃ (a : Addr) (ns : List Int), vs = [.ref a] ∧ Ll H a ns ∧ ns.length ≤ 4000 ∧ (oddB ns = false → ∀ H', Ex H H' → E (.ref C) none H') ∧ (oddB ns = true → RetV .non H Q)
theorem ok_check_odd (T : Tx K mg) : FnOk P w K mg base (L2.CX P w) 1 T.a_check_odd T.d_check_odd ["parting"] (sp_check_odd T.C_NoFit) := by
  refine T.F_check_odd.okX sc_check_odd (fun vs H Q E h => ?_) (fun cdv A outer s H vs Q E hr h => ?_)
  · obtain ⟨a, ns, rfl, _⟩ := h
    rfl
  · obtain ⟨a, ns, rfl, hL, hl, qn, qs⟩ := h
    refine ⟨_, (pss_one (ps_if (pt_val (pe_callB (anyK (K := K) rfl rfl) (by rfl) T.n_any (by decide +kernel) (pa_cons (pe_lc (own := [("part", 1)]) (g := gName 1) (by rfl) sc_check_odd.nd (pi_list (pv 0)) (blkOk_by (own := [("part", 1)]) (N := ["parting", "part"]) (sc := defScope s_check_odd) (by decide +kernel)) (fun _ _ _ _ _ => (pg_name (i := 1) sc_check_odd.nd rfl (Or.inl rfl))) (fun _ _ _ _ _ => pts_nil) (fun _ _ _ _ _ => (pe_cmpR op_eq (pe_op op_mod (pv 1) pe_int) pe_int (nomark _)))) pa_nil)))
      (pss_one (ps_raise rfl (takes_of rfl rfl rfl rfl) (pmk_own PySem.F.excBase_ValueError T.x_NoFit T.g_NoFit T.k_NoFit (raises_own T.s_NoFit T.t_NoFit) rfl)))
      pss_nil)), ?_⟩
    refine s_when (b := !oddB ns) (et_is (et_B (ev_cbL (el_is (el_lcIA (fun z => V.bl (decide (V.int (z % 2) = V.int 0))) (ev_var rfl) hL.sq (by omega) (fun _ => rfl) fun z H2 _ _ => ev_eq (ev_rI (ev_var rfl) ev_c (by decide)) ev_c rfl) (show ns.map (fun z => V.bl (decide (V.int (z % 2) = V.int 0))) = (ns.map fun z => decide (V.int (z % 2) = V.int 0)).map V.bl from (List.map_map).symm)) fun p H2 _ hp => rc_any (sq_of hp))) (any_even ns)) (fun hb H1 e1 => ?_) (fun hb H1 e1 => qs (by simpa using hb) H1 e1)
    show E (.ref T.C_NoFit) none H1
    exact qn (by simpa using hb) H1 e1
def sp_check_unlike (C : Addr) : Sp := fun vs H Q E => ∃ (a : Addr) (ns : List Int), vs = [.ref a] ∧ Ll H a ns ∧ ns.length ≤ 4000 ∧ (¬ ns.Nodup → ∀ H', Ex H H' → E (.ref C) none H') ∧ (ns.Nodup → RetV .non H Q)
theorem ok_check_unlike (T : Tx K mg) : FnOk P w K mg base (L2.CX P w) 1 T.a_check_unlike T.d_check_unlike ["parting"] (sp_check_unlike T.C_NoFit) := by
  refine T.F_check_unlike.okX sc_check_unlike (fun vs H Q E h => ?_) (fun cdv A outer s H vs Q E hr h => ?_)
  · obtain ⟨a, ns, rfl, _⟩ := h
    rfl
  · obtain ⟨a, ns, rfl, hL, hl, qn, qs⟩ := h
    refine ⟨_, (pss_one (ps_if (pt_cmpR op_lt (pe_lenSetG (K := K) rfl rfl (by rfl) T.n_len (by rfl) T.n_set (pv 0)) (pe_callB (lenK (K := K) rfl) (by rfl) T.n_len PySem.boot_len (pa_cons (pv 0) pa_nil)) (nomark _))
      (pss_one (ps_raise rfl (takes_of rfl rfl rfl rfl) (pmk_own PySem.F.excBase_ValueError T.x_NoFit T.g_NoFit T.k_NoFit (raises_own T.s_NoFit T.t_NoFit) rfl)))
      pss_nil)), ?_⟩
    have h1 := dst_le ns
    have h2 := dst_iff ns
    refine s_when (b := decide (((dst ns : Nat) : Int) < ns.length)) (et_is (et_test (ev_rI0 (ev_lenSet (ev_var rfl) hL.sq hl) (ev_cb (ea_cons (ev_var rfl) ea_nil) (rc_len hL.sq)))) (by rw [List.length_map])) (fun hb H1 e1 => ?_) (fun hb H1 e1 => qs (h2.mp ?_) H1 e1)
    · show E (.ref T.C_NoFit) none H1
      refine qn (fun hn => ?_) H1 e1
      have := of_decide_eq_true hb
      have := h2.mpr hn
      omega
    · have := of_decide_eq_false hb
      omega
theorem spv_odd {a C : Addr} {ns : List Int} {H : Hp} (hL : Ll H a ns) (hl : ns.length ≤ 4000) (h : oddB ns = true) : SpV (sp_check_odd C) [.ref a] H .non := fun H1 e _ q _ => ⟨a, ns, rfl, e _ _ hL, hl, (fun z => by rw [h] at z; cases z), fun _ => q⟩
theorem spv_unlike {a C : Addr} {ns : List Int} {H : Hp} (hL : Ll H a ns) (hl : ns.length ≤ 4000) (h : ns.Nodup) : SpV (sp_check_unlike C) [.ref a] H .non := fun H1 e _ q _ => ⟨a, ns, rfl, e _ _ hL, hl, (fun z => absurd h z), fun _ => q⟩
end
/-! ### stairparts.kinds: bends_of, unbent -/
/-- what unbent tells; what bends_of tells: none, a refusal -/
def unbV (ns : List Int) : Option (List Int) := if oddB ns = true ∧ ns.Nodup then some (unb ns) else none
def bndV (ns : List Int) : Option (List Int) := if Tn ns = ns then some (bndL ns) else none
theorem rows_range (ns : List Int) : (List.range ns.length).map (fun (i : Nat) => (i : Int) + (ns.getD i 0 + 1) / 2) = rows ns := by
  refine List.ext_getElem? fun i => ?_
  have e : (rows ns).length = ns.length := rwf_len 0 ns
  by_cases hi : i < ns.length
  · rw [List.getElem?_map, List.getElem?_range hi, at_getD (show i < (rows ns).length by omega)]
    show some ((i : Int) + (ns.getD i 0 + 1) / 2) = some ((rwf 0 ns).getD i 0)
    rw [rwf_get 0 ns i hi]
    congr 1
    omega
  · rw [List.getElem?_eq_none (by rw [List.length_map, List.length_range]; omega), List.getElem?_eq_none (by omega)]
section
variable {P : Program} {w : World} {K : PySem.W.Frag} {mg : Str → Option Value} {base : Heap}
theorem spl_turned {a : Addr} {ns : List Int} {H : Hp} (hL : Ll H a ns) (hp : IsP ns) : SpL sp_turned [.ref a] H ((Tn ns).map V.int) := fun H1 e _ q _ => ⟨a, ns, rfl, e _ _ hL, hp, q⟩
def sp_bends_of (C : Addr) : Sp := fun vs H Q E => ∃ (a : Addr) (ns : List Int), vs = [.ref a] ∧ Ll H a ns ∧ IsP ns ∧ (bndV ns = none → ∀ H', Ex H H' → E (.ref C) none H') ∧ ∀ r, bndV ns = some r → RetL (r.map V.int) H Q
theorem ok_bends_of (T : Tx K mg) : FnOk P w K mg base (L2.CX P w) 5 T.a_bends_of T.d_bends_of ["parting"] (sp_bends_of T.C_NoFit) := by
  refine T.F_bends_of.okX sc_bends_of (fun vs H Q E h => ?_) (fun cdv A outer s H vs Q E hr h => ?_)
  · obtain ⟨a, ns, rfl, _⟩ := h
    rfl
  · obtain ⟨a, ns, rfl, hL, hp, qn, qs⟩ := h
    refine ⟨_, (pss_cons (ps_expr (pe_call (ok_check_parting T) (hr.mono (by decide)) (by rfl) T.g_check_parting T.F_check_parting.kp T.b_check_parting .nil pass0 (pa_cons (pv 0) pa_nil)))
    (pss_cons (ps_if (pt_cmpR (neK (K := K) rfl hr.units) (pe_call (ok_turned T) (hr.mono (by decide)) (by rfl) T.g_turned T.F_turned.kp T.b_turned .nil pass0 (pa_cons (pv 0) pa_nil)) (pv 0) (nomark _))
      (pss_one (ps_raise rfl (takes_of rfl rfl rfl rfl) (pmk_own PySem.F.excBase_ValueError T.x_NoFit T.g_NoFit T.k_NoFit (raises_own T.s_NoFit T.t_NoFit) rfl)))
      pss_nil)
    (pss_one (ps_ret (pe_lc (own := [("place", 1), ("part", 2)]) (g := g2n K 1 2) (by rfl) sc_bends_of.nd (pi_enum (by rfl) T.n_enumerate (pa_cons (pv 0) pa_nil)) (blkOk_by (own := [("place", 1), ("part", 2)]) (N := ["parting", "place", "part"]) (sc := defScope s_bends_of) (by decide +kernel)) (fun _ _ _ _ _ => (pg_tup rfl (pgs_cons (pg_name (i := 1) sc_bends_of.nd rfl (Or.inl rfl)) (pgs_cons (pg_name (i := 2) sc_bends_of.nd rfl (Or.inl rfl)) pgs_nil)))) (fun _ _ _ _ _ => pts_one (pt_cmpR op_gt (pv 2) (pv 1) (nomark _))) (fun _ _ _ _ _ => (pe_op op_sub (pe_op op_mul pe_int (pe_op op_sub (pv 2) (pv 1))) pe_int))))))), ?_⟩
    have hl := hp.len
    refine q_drop (ev_call (ea_cons (ev_var rfl) ea_nil) (spv_check hL hp)) fun H1 e1 => ?_
    refine q_when (b := !decide (Tn ns = ns)) (et_test (ev_opL1 (el_call (ea_cons (ev_var rfl) ea_nil) (spl_turned (e1 _ _ hL) hp)) (fun _ _ => ev_var rfl) fun p H2 hp2 e2 => rv_neL (sq_of hp2) (Ll.sq (e2 _ _ (e1 _ _ hL))))) (fun hb H2 e2 => ?_) (fun hb H2 e2 => ?_)
    · show E (.ref T.C_NoFit) none H2
      refine qn ?_ H2 (e1.trans e2)
      unfold bndV
      rw [if_neg (by simpa using hb)]
    · have e12 := e1.trans e2
      refine s_retL (el_lcE (fun i => decide ((i : Int) < ns.getD i 0)) (fun i => V.int (2 * (ns.getD i 0 - (i : Int)) - 1)) (ea_cons (ev_var rfl) ea_nil) (ex_l e12 hL.sq) (by rw [List.length_map]; omega) (fun _ _ => rfl) (fun i z H2 hz e2 => ?_) (fun i z H2 hz e2 _ => ?_)) fun p H3 np e3 h3 => ?_
      · obtain ⟨y, e, rfl⟩ := get_int hz
        rw [show ns.getD i 0 = y by simp [List.getD, e]]
        exact et_test (ev_rI0 (ev_var rfl) (ev_var rfl))
      · obtain ⟨y, e, rfl⟩ := get_int hz
        rw [show ns.getD i 0 = y by simp [List.getD, e]]
        exact ev_rI0 (ev_rI ev_c (ev_rI0 (ev_var rfl) (ev_var rfl)) (.inl (by decide))) ev_c
      · refine qs (bndL ns) ?_ p H3 (fresh_back e12 np) (e12.trans e3) ?_
        · unfold bndV
          rw [if_pos (by simpa using hb)]
        · rw [h3, List.length_map]
          unfold given bndL
          rw [List.map_map]
          rfl
def sp_unbent (C : Addr) : Sp := fun vs H Q E => ∃ (a : Addr) (ns : List Int), vs = [.ref a] ∧ Ll H a ns ∧ IsP ns ∧ (unbV ns = none → ∀ H', Ex H H' → E (.ref C) none H') ∧ ∀ r, unbV ns = some r → RetL (r.map V.int) H Q
theorem ok_unbent (T : Tx K mg) : FnOk P w K mg base (L2.CX P w) 5 T.a_unbent T.d_unbent ["parting"] (sp_unbent T.C_NoFit) := by
  refine T.F_unbent.okX sc_unbent (fun vs H Q E h => ?_) (fun cdv A outer s H vs Q E hr h => ?_)
  · obtain ⟨a, ns, rfl, _⟩ := h
    rfl
  · obtain ⟨a, ns, rfl, hL, hp, qn, qs⟩ := h
    refine ⟨_, (pss_cons (ps_expr (pe_call (ok_check_parting T) (hr.mono (by decide)) (by rfl) T.g_check_parting T.F_check_parting.kp T.b_check_parting .nil pass0 (pa_cons (pv 0) pa_nil)))
    (pss_cons (ps_expr (pe_call (ok_check_odd T) (hr.mono (by decide)) (by rfl) T.g_check_odd T.F_check_odd.kp T.b_check_odd .nil (E := E) (passes_call (takes_of rfl rfl rfl rfl) fun _ _ _ _ h => h) (pa_cons (pv 0) pa_nil)))
    (pss_cons (ps_expr (pe_call (ok_check_unlike T) (hr.mono (by decide)) (by rfl) T.g_check_unlike T.F_check_unlike.kp T.b_check_unlike .nil (E := E) (passes_call (takes_of rfl rfl rfl rfl) fun _ _ _ _ h => h) (pa_cons (pv 0) pa_nil)))
    (pss_cons (ps_setLc (i := 1) (own := [("place", 2), ("bend", 3)]) (g := g2n K 2 3) (by rfl) sc_unbent.nd rfl rfl (sw_true rfl rfl rfl (by decide +kernel)) (pi_enum (by rfl) T.n_enumerate (pa_cons (pv 0) pa_nil)) (blkOk_by (own := [("place", 2), ("bend", 3)]) (N := ["parting", "rows", "place", "bend"]) (sc := defScope s_unbent) (by decide +kernel)) (fun _ _ _ _ _ => (pg_tup rfl (pgs_cons (pg_name (i := 2) sc_unbent.nd rfl (Or.inl rfl)) (pgs_cons (pg_name (i := 3) sc_unbent.nd rfl (Or.inl rfl)) pgs_nil)))) (fun _ _ _ _ _ => pts_nil) (fun _ _ _ _ _ => (pe_op op_add (pv 2) (pe_op op_fdiv (pe_op op_add (pv 3) pe_int) pe_int))))
    (pss_one (ps_ret (pe_op op_cat (pv 1) (pe_slice (sllK (K := K) rfl) (pe_call (ok_turned T) (hr.mono (by decide)) (by rfl) T.g_turned T.F_turned.kp T.b_turned .nil pass0 (pa_cons (pv 1) pa_nil)) (po_some (pe_callB (lenK (K := K) rfl) (by rfl) T.n_len PySem.boot_len (pa_cons (pv 1) pa_nil))) po_none)))))))), ?_⟩
    have hl := hp.len
    refine q_drop (ev_call (ea_cons (ev_var rfl) ea_nil) (spv_check hL hp)) fun H1 e1 => ?_
    cases ho : oddB ns with
    | false => exact ⟨.ref a, rfl, a, ns, rfl, e1 _ _ hL, by omega, fun _ H' e' => qn (by unfold unbV; rw [ho, if_neg (by simp)]) H' (e1.trans e'), fun z => by rw [ho] at z; cases z⟩
    | true =>
      refine q_drop (ev_call (ea_cons (ev_var rfl) ea_nil) (spv_odd (e1 _ _ hL) (by omega) ho)) fun H2 e2 => ?_
      have e12 := e1.trans e2
      by_cases hn : ns.Nodup
      · refine q_drop (ev_call (ea_cons (ev_var rfl) ea_nil) (spv_unlike (e12 _ _ hL) (by omega) hn)) fun H3 e3 => ?_
        have e13 := e12.trans e3
        have u := UO.of hp ho hn
        have ir := rows_is u hp.2.2
        have it := Tn_is ir
        have lr : (rows ns).length = ns.length := rwf_len 0 ns
        have lt := it.len
        refine q_asgL (xs := (rows ns).map V.int) (el_is (el_lcE (fun _ => true) (fun i => V.int ((i : Int) + (ns.getD i 0 + 1) / 2)) (ea_cons (ev_var rfl) ea_nil) (ex_l e13 hL.sq) (by rw [List.length_map]; omega) (fun _ _ => rfl) (fun i z H2 hz e2 => et_yes) (fun i z H2 hz e2 _ => ?_)) ?_) fun p H4 np e4 hp4 => ?_
        · obtain ⟨y, e, rfl⟩ := get_int hz
          rw [show ns.getD i 0 = y by simp [List.getD, e]]
          exact ev_rI0 (ev_var rfl) (ev_rI (ev_rI0 (ev_var rfl) ev_c) ev_c ⟨by decide, by decide⟩)
        · rw [given_all, List.length_map, ← rows_range, List.map_map]
          rfl
        · have elr : (((rows ns).map V.int).length : Int) = (ns.length : Int) := by rw [List.length_map, lr]
          refine s_retL (el_is (el_catR (zs := (rows ns).map V.int) (ws := ((Tn (rows ns)).drop ns.length).map V.int) (ev_var rfl) (el_is (el_slN (el_call (ea_cons (ev_var rfl) ea_nil) (spl_turned hp4 ir)) (fun H5 e5 => eo_some (ev_is (ev_cb (ea_cons (ev_var rfl) ea_nil) (rc_len (sq_of (e5 _ _ hp4)))) (by rw [elr]))) fun _ _ => eo_none) (by rw [cut_from, ← List.map_drop])) hp4 (by rw [List.length_map, List.length_map, List.length_drop]; omega)) rfl) fun o H5 no e5 h5 => ?_
          refine qs (unb ns) (by unfold unbV; rw [if_pos ⟨ho, hn⟩]) o H5 (fresh_back (e13.trans e4) no) ((e13.trans e4).trans e5) ?_
          rw [h5]
          unfold unb
          rw [List.map_append]
      · exact ⟨.ref a, rfl, a, ns, rfl, e12 _ _ hL, by omega, fun _ H' e' => qn (by unfold unbV; rw [if_neg fun z => hn z.2]) H' (e12.trans e'), fun z => absurd z hn⟩
end
/-! ### the mathematics of odd and unlike partings -/
/-- the exponents of the unlike powers of two that come to n, j and more -/
def bts : Nat → Nat → List Nat
  | 0, _ => []
  | n + 1, j => (if (n + 1) % 2 = 1 then [j] else []) ++ bts ((n + 1) / 2) (j + 1)
termination_by n => n
theorem bts_zero (j : Nat) : bts 0 j = [] := by rw [bts]
theorem bts_pos {n : Nat} (h : 0 < n) (j : Nat) : bts n j = (if n % 2 = 1 then [j] else []) ++ bts (n / 2) (j + 1) := by
  obtain ⟨m, rfl⟩ : ∃ m, n = m + 1 := ⟨n - 1, by omega⟩
  rw [bts]
theorem bts_mem : ∀ (n j i : Nat), i ∈ bts n j ↔ ∃ d, i = j + d ∧ n.testBit d = true := by
  intro n
  induction n using Nat.strongRecOn with
  | _ n ih =>
    intro j i
    by_cases h : 0 < n
    · rw [bts_pos h, List.mem_append, ih (n / 2) (by omega)]
      constructor
      · rintro (h1 | ⟨d, rfl, h1⟩)
        · split at h1
          · rename_i c
            exact ⟨0, by simpa using h1, by rw [Nat.testBit_eq_decide_div_mod_eq]; simpa using c⟩
          · cases h1
        · exact ⟨d + 1, by omega, by rw [Nat.testBit_succ]; exact h1⟩
      · rintro ⟨d, rfl, h1⟩
        cases d with
        | zero =>
          rw [Nat.testBit_eq_decide_div_mod_eq] at h1
          exact .inl (by rw [if_pos (by simpa using h1)]; simp)
        | succ d => exact .inr ⟨d, by omega, by rw [Nat.testBit_succ] at h1; exact h1⟩
    · obtain rfl : n = 0 := by omega
      rw [bts_zero]
      simp
theorem bts_up : ∀ (n j : Nat), (bts n j).Pairwise (· < ·) := by
  intro n
  induction n using Nat.strongRecOn with
  | _ n ih =>
    intro j
    by_cases h : 0 < n
    · rw [bts_pos h, List.pairwise_append]
      refine ⟨by split <;> simp, ih (n / 2) (by omega) _, fun a ha b hb => ?_⟩
      obtain ⟨d, rfl, _⟩ := (bts_mem _ _ _).mp hb
      split at ha
      · rw [List.mem_singleton.mp ha]
        omega
      · cases ha
    · obtain rfl : n = 0 := by omega
      rw [bts_zero]
      exact .nil
theorem bts_sum : ∀ (n j : Nat), ((bts n j).map fun i => 2 ^ i).sum = n * 2 ^ j := by
  intro n
  induction n using Nat.strongRecOn with
  | _ n ih =>
    intro j
    by_cases h : 0 < n
    · rw [bts_pos h, List.map_append, List.sum_append_nat, ih (n / 2) (by omega), Nat.pow_succ, ← Nat.mul_assoc]
      by_cases c : n % 2 = 1
      · rw [if_pos c]
        simp only [List.map_cons, List.map_nil, List.sum_cons, List.sum_nil]
        have : n = n / 2 * 2 + 1 := by omega
        conv => rhs; rw [this]
        rw [Nat.add_mul, Nat.mul_right_comm]
        omega
      · rw [if_neg c]
        simp only [List.map_nil, List.sum_nil]
        have : n = n / 2 * 2 := by omega
        conv => rhs; rw [this]
        rw [Nat.mul_right_comm]
        omega
    · obtain rfl : n = 0 := by omega
      rw [bts_zero]
      simp
/-- n = opn n * 2 ^ tpe n -/
def tpe : Nat → Nat
  | 0 => 0
  | n + 1 => if (n + 1) % 2 = 0 then tpe ((n + 1) / 2) + 1 else 0
termination_by n => n
def opn : Nat → Nat
  | 0 => 0
  | n + 1 => if (n + 1) % 2 = 0 then opn ((n + 1) / 2) else n + 1
termination_by n => n
theorem tpe_even {n : Nat} (h : 0 < n) (c : n % 2 = 0) : tpe n = tpe (n / 2) + 1 := by
  obtain ⟨m, rfl⟩ : ∃ m, n = m + 1 := ⟨n - 1, by omega⟩
  rw [tpe, if_pos c]
theorem tpe_odd {n : Nat} (c : n % 2 = 1) : tpe n = 0 := by
  obtain ⟨m, rfl⟩ : ∃ m, n = m + 1 := ⟨n - 1, by omega⟩
  rw [tpe, if_neg (by omega)]
theorem opn_even {n : Nat} (h : 0 < n) (c : n % 2 = 0) : opn n = opn (n / 2) := by
  obtain ⟨m, rfl⟩ : ∃ m, n = m + 1 := ⟨n - 1, by omega⟩
  rw [opn, if_pos c]
theorem opn_odd {n : Nat} (c : n % 2 = 1) : opn n = n := by
  obtain ⟨m, rfl⟩ : ∃ m, n = m + 1 := ⟨n - 1, by omega⟩
  rw [opn, if_neg (by omega)]
theorem opn_tpe : ∀ n : Nat, 0 < n → n = opn n * 2 ^ tpe n ∧ opn n % 2 = 1 := by
  intro n
  induction n using Nat.strongRecOn with
  | _ n ih =>
    intro h
    by_cases c : n % 2 = 0
    · obtain ⟨h1, h2⟩ := ih (n / 2) (by omega) (by omega)
      rw [tpe_even h c, opn_even h c]
      refine ⟨?_, h2⟩
      rw [Nat.pow_succ, ← Nat.mul_assoc, ← h1]
      omega
    · rw [tpe_odd (by omega), opn_odd (by omega)]
      omega
theorem opn_at (a : Nat) (h : a % 2 = 1) : ∀ j, opn (a * 2 ^ j) = a ∧ tpe (a * 2 ^ j) = j
  | 0 => by
    rw [Nat.pow_zero, Nat.mul_one]
    exact ⟨opn_odd h, tpe_odd h⟩
  | j + 1 => by
    obtain ⟨h1, h2⟩ := opn_at a h j
    have hp : 0 < 2 ^ j := Nat.two_pow_pos j
    have hpos : 0 < a * 2 ^ j := Nat.mul_pos (by omega) hp
    have e : a * 2 ^ (j + 1) = a * 2 ^ j * 2 := by rw [Nat.pow_succ, Nat.mul_assoc]
    rw [e, opn_even (by omega) (by omega), tpe_even (by omega) (by omega), Nat.mul_div_cancel _ (by decide)]
    exact ⟨h1, by rw [h2]⟩
/-- the odd numbers to 199 -/
def oddsL : List Int := (List.range 100).map fun (i : Nat) => 1 + (i : Int) * 2
theorem odds_mem {z : Int} : z ∈ oddsL ↔ 1 ≤ z ∧ z ≤ 199 ∧ z % 2 = 1 := by
  unfold oddsL
  rw [List.mem_map]
  constructor
  · rintro ⟨i, hi, rfl⟩
    have := List.mem_range.mp hi
    omega
  · rintro ⟨h1, h2, h3⟩
    exact ⟨(z / 2).toNat, List.mem_range.mpr (by omega), by omega⟩
theorem odds_up : oddsL.Pairwise (· < ·) := by
  unfold oddsL
  rw [List.pairwise_map]
  exact List.pairwise_lt_range.imp fun h => by omega
theorem odds_nodup : oddsL.Nodup := odds_up.imp fun h => by
  intro z
  omega
/-- the parts that are made of each odd one -/
def made (ns : List Int) (a : Int) : List Int := (bts (ns.count a) 0).map fun j => a * ((2 ^ j : Nat) : Int)
def unlR (ns : List Int) : List Int := oddsL.flatMap (made ns)
def rep (x : Int) : List Int := List.replicate (2 ^ tpe x.toNat) ((opn x.toNat : Nat) : Int)
def odsR (ns : List Int) : List Int := ns.flatMap rep
def unl (ns : List Int) : List Int := dsc (unlR ns)
def odl (ns : List Int) : List Int := dsc (odsR ns)
theorem rep_at {a : Int} (h0 : 0 ≤ a) (h : a % 2 = 1) (j : Nat) : rep (a * ((2 ^ j : Nat) : Int)) = List.replicate (2 ^ j) a := by
  obtain ⟨n, rfl⟩ := Int.eq_ofNat_of_zero_le h0
  unfold rep
  rw [← Int.natCast_mul, Int.toNat_natCast]
  obtain ⟨h1, h2⟩ := opn_at n (by omega) j
  rw [h1, h2]
theorem rep_sum {x : Int} (h : 1 ≤ x) : (rep x).sum = x := by
  obtain ⟨n, rfl⟩ := Int.eq_ofNat_of_zero_le (show 0 ≤ x by omega)
  unfold rep
  rw [Int.toNat_natCast]
  have h1 := (opn_tpe n (by omega)).1
  have e4 : ∀ (n : Nat) (c : Int), (List.replicate n c).sum = (n : Int) * c := fun n c => by
    induction n with
    | zero => simp
    | succ n ih =>
      rw [List.replicate_succ, List.sum_cons, ih, Int.natCast_add, Int.add_mul]
      omega
  rw [e4, ← Int.natCast_mul, Nat.mul_comm, ← h1]
theorem ods_sum : ∀ {ns : List Int}, (∀ x ∈ ns, 1 ≤ x) → (odsR ns).sum = ns.sum
  | [], _ => rfl
  | x :: r, h => by
    have ih := ods_sum (ns := r) fun y hy => h y (List.mem_cons_of_mem _ hy)
    show (rep x ++ odsR r).sum = _
    rw [sum_append, rep_sum (h x List.mem_cons_self), ih, List.sum_cons]
theorem ods_odd {ns : List Int} (h : ∀ x ∈ ns, 1 ≤ x) : ∀ z ∈ odsR ns, 1 ≤ z ∧ z % 2 = 1 := fun z hz => by
  obtain ⟨x, hx, hz⟩ := List.mem_flatMap.mp hz
  have h1 := (opn_tpe x.toNat (by have := h x hx; omega)).2
  rw [(List.mem_replicate.mp hz).2]
  omega
theorem made_odd {ns : List Int} {a z : Int} (ha : 1 ≤ a) (hz : z ∈ made ns a) : 1 ≤ z := by
  obtain ⟨j, _, rfl⟩ := List.mem_map.mp hz
  have h1 : 0 < 2 ^ j := Nat.two_pow_pos j
  have : (1 : Int) * 1 ≤ a * ((2 ^ j : Nat) : Int) := Int.mul_le_mul ha (by omega) (by decide) (by omega)
  omega
theorem sum_pick (h : Int → Nat) (b : Int) : ∀ {l : List Int}, l.Nodup → (l.map fun a => if (a == b) = true then h a else 0).sum = if b ∈ l then h b else 0
  | [], _ => by simp
  | x :: r, hn => by
    obtain ⟨n1, n2⟩ := List.nodup_cons.mp hn
    rw [List.map_cons, List.sum_cons, sum_pick h b n2]
    by_cases c : x = b
    · subst c
      rw [if_neg n1, if_pos (by simp), if_pos List.mem_cons_self]
      omega
    · rw [if_neg (by simpa using c)]
      by_cases d : b ∈ r
      · rw [if_pos d, if_pos (List.mem_cons_of_mem _ d)]
        omega
      · rw [if_neg d, if_neg fun z => (List.mem_cons.mp z).elim (fun e => c e.symm) d]
theorem rep_made {ns : List Int} {a : Int} (h0 : 0 ≤ a) (h : a % 2 = 1) : (made ns a).flatMap rep = List.replicate (ns.count a) a := by
  unfold made
  rw [List.flatMap_map]
  have e : ∀ l : List Nat, (l.flatMap fun j => rep (a * ((2 ^ j : Nat) : Int))) = List.replicate ((l.map fun i => 2 ^ i).sum) a := by
    intro l
    induction l with
    | nil => rfl
    | cons j r ih =>
      rw [List.flatMap_cons, ih, rep_at h0 h, List.map_cons, List.sum_cons, List.replicate_append_replicate]
  rw [e, bts_sum, Nat.pow_zero, Nat.mul_one]
theorem back_perm {ns : List Int} (hp : IsP ns) (ho : ∀ z ∈ ns, z % 2 = 1) : (odsR (unlR ns)).Perm ns := by
  have e : odsR (unlR ns) = oddsL.flatMap fun a => List.replicate (ns.count a) a := by
    unfold odsR unlR
    rw [List.flatMap_assoc]
    have : ∀ l : List Int, (∀ a ∈ l, 0 ≤ a ∧ a % 2 = 1) → l.flatMap (fun a => (made ns a).flatMap rep) = l.flatMap fun a => List.replicate (ns.count a) a := by
      intro l
      induction l with
      | nil => intro _; rfl
      | cons a r ih =>
        intro h
        have ha := h a List.mem_cons_self
        rw [List.flatMap_cons, List.flatMap_cons, rep_made ha.1 ha.2, ih fun b hb => h b (List.mem_cons_of_mem _ hb)]
    exact this _ fun a ha => by
      have := odds_mem.mp ha
      omega
  rw [e, List.perm_iff_count]
  intro b
  rw [List.count_flatMap]
  have e2 : (List.map (List.count b ∘ fun a => List.replicate (ns.count a) a) oddsL) = oddsL.map fun a => if (a == b) = true then ns.count a else 0 := List.map_congr_left fun a _ => by
    show List.count b (List.replicate (ns.count a) a) = _
    rw [List.count_replicate]
  rw [e2, sum_pick (fun a => ns.count a) b odds_nodup]
  by_cases c : b ∈ oddsL
  · rw [if_pos c]
  · rw [if_neg c]
    refine (List.count_eq_zero.mpr fun hb => c (odds_mem.mpr ⟨hp.1 b hb, ?_, ho b hb⟩)).symm
    have h1 := le_sum (fun y hy => (by have := hp.1 y hy; omega)) b hb
    have h2 := hp.2.2
    have h3 := ho b hb
    omega
theorem unlR_mem {ns : List Int} {y : Int} : y ∈ unlR ns ↔ ∃ a ∈ oddsL, ∃ j : Nat, (ns.count a).testBit j = true ∧ y = a * ((2 ^ j : Nat) : Int) := by
  unfold unlR made
  rw [List.mem_flatMap]
  constructor
  · rintro ⟨a, ha, hy⟩
    obtain ⟨j, hj, rfl⟩ := List.mem_map.mp hy
    obtain ⟨d, e, h⟩ := (bts_mem _ _ _).mp hj
    exact ⟨a, ha, j, by rw [e, Nat.zero_add]; exact h, rfl⟩
  · rintro ⟨a, ha, j, h, rfl⟩
    exact ⟨a, ha, List.mem_map.mpr ⟨j, (bts_mem _ _ _).mpr ⟨j, by omega, h⟩, rfl⟩⟩
theorem same_at {a b : Int} {i j : Nat} (ha : 0 ≤ a) (hb : 0 ≤ b) (oa : a % 2 = 1) (ob : b % 2 = 1) (h : a * ((2 ^ i : Nat) : Int) = b * ((2 ^ j : Nat) : Int)) : a = b ∧ i = j := by
  obtain ⟨n, rfl⟩ := Int.eq_ofNat_of_zero_le ha
  obtain ⟨m, rfl⟩ := Int.eq_ofNat_of_zero_le hb
  rw [← Int.natCast_mul, ← Int.natCast_mul] at h
  have h' : n * 2 ^ i = m * 2 ^ j := Int.ofNat.inj h
  obtain ⟨k1, k2⟩ := opn_at n (by omega) i
  obtain ⟨k3, k4⟩ := opn_at m (by omega) j
  rw [h'] at k1 k2
  exact ⟨by rw [← k1, k3], k2.symm.trans k4⟩
theorem unlR_nodup (ns : List Int) : (unlR ns).Nodup := by
  unfold unlR
  show List.Pairwise _ _
  rw [List.pairwise_flatMap]
  refine ⟨fun a ha => ?_, odds_up.imp_of_mem fun {a b} ha hb hab x hx y hy => ?_⟩
  · have h := odds_mem.mp ha
    unfold made
    rw [List.pairwise_map]
    refine (bts_up _ _).imp fun {i j} hij => ?_
    intro z
    have := (same_at (by omega) (by omega) h.2.2 h.2.2 z).2
    omega
  · have h1 := odds_mem.mp ha
    have h2 := odds_mem.mp hb
    obtain ⟨i, _, rfl⟩ := List.mem_map.mp hx
    obtain ⟨j, _, rfl⟩ := List.mem_map.mp hy
    intro z
    have := (same_at (by omega) (by omega) h1.2.2 h2.2.2 z).1
    omega
/-- a bit that is not there is put there -/
theorem bit_add {c i : Nat} (h : c.testBit i = false) (j : Nat) : (2 ^ i + c).testBit j = (decide (j = i) || c.testBit j) := by
  have hs : c % 2 ^ i < 2 ^ i := Nat.mod_lt _ (Nat.two_pow_pos i)
  have e0 : c = 2 ^ i * (c / 2 ^ i) + c % 2 ^ i := (Nat.div_add_mod c (2 ^ i)).symm
  have hm : c / 2 ^ i % 2 = 0 := by
    rw [Nat.testBit_eq_decide_div_mod_eq] at h
    have := of_decide_eq_false h
    omega
  generalize c / 2 ^ i = m at e0 hm
  generalize c % 2 ^ i = s at e0 hs
  subst e0
  have e1 : 2 ^ i + (2 ^ i * m + s) = 2 ^ i * (m + 1) + s := by rw [Nat.mul_add, Nat.mul_one]; omega
  rw [e1, Nat.testBit_two_pow_mul_add _ hs, Nat.testBit_two_pow_mul_add _ hs]
  by_cases c1 : j < i
  · rw [if_pos c1, if_pos c1, decide_eq_false (by omega), Bool.false_or]
  · rw [if_neg c1, if_neg c1]
    by_cases c2 : j = i
    · subst c2
      rw [decide_eq_true rfl, Bool.true_or, Nat.sub_self, Nat.testBit_eq_decide_div_mod_eq]
      simp
      omega
    · obtain ⟨d, hd⟩ : ∃ d, j - i = d + 1 := ⟨j - i - 1, by omega⟩
      rw [hd, decide_eq_false c2, Bool.false_or, Nat.testBit_succ, Nat.testBit_succ, show (m + 1) / 2 = m / 2 by omega]
theorem ods_bit {a : Int} (h0 : 1 ≤ a) (ho : a % 2 = 1) : ∀ {ns : List Int}, ns.Nodup → (∀ x ∈ ns, 1 ≤ x) → ∀ j : Nat, ((odsR ns).count a).testBit j = true ↔ a * ((2 ^ j : Nat) : Int) ∈ ns
  | [], _, _, j => by simp [odsR]
  | y :: r, hn, h, j => by
    obtain ⟨n1, n2⟩ := List.nodup_cons.mp hn
    have ih := ods_bit h0 ho n2 fun x hx => h x (List.mem_cons_of_mem _ hx)
    have hy := h y List.mem_cons_self
    obtain ⟨n, rfl⟩ := Int.eq_ofNat_of_zero_le (show 0 ≤ y by omega)
    obtain ⟨e1, e2⟩ := opn_tpe n (by omega)
    have ey : (n : Int) = ((opn n : Nat) : Int) * ((2 ^ tpe n : Nat) : Int) := by rw [← Int.natCast_mul, ← e1]
    have ec : (odsR ((n : Int) :: r)).count a = (if ((opn n : Nat) : Int) = a then 2 ^ tpe n else 0) + (odsR r).count a := by
      show (rep (n : Int) ++ odsR r).count a = _
      rw [List.count_append]
      unfold rep
      rw [Int.toNat_natCast, List.count_replicate]
      congr 1
      by_cases c : ((opn n : Nat) : Int) = a
      · rw [if_pos c, if_pos (by simpa using c)]
      · rw [if_neg c, if_neg (by simpa using c)]
    rw [ec, List.mem_cons]
    by_cases c : ((opn n : Nat) : Int) = a
    · rw [if_pos c]
      have nb : ((odsR r).count a).testBit (tpe n) = false := by
        cases hb : ((odsR r).count a).testBit (tpe n) with
        | false => rfl
        | true =>
          have := (ih (tpe n)).mp hb
          rw [← c, ← ey] at this
          exact absurd this n1
      rw [bit_add nb, Bool.or_eq_true, ih j, decide_eq_true_eq]
      refine or_congr ⟨fun z => by rw [z, ey, c], fun z => ?_⟩ Iff.rfl
      rw [ey] at z
      exact (same_at (by omega) (by omega) ho (by omega) z).2
    · rw [if_neg c, Nat.zero_add, ih j]
      refine ⟨.inr, fun z => z.elim (fun e => ?_) id⟩
      rw [ey] at e
      exact absurd (same_at (by omega) (by omega) ho (by omega) e).1.symm c
theorem forth_perm {ns : List Int} (hp : IsP ns) (hn : ns.Nodup) : (unlR (odl ns)).Perm ns := by
  rw [List.perm_ext_iff_of_nodup (unlR_nodup _) hn]
  intro y
  rw [unlR_mem]
  have ec : ∀ a, (odl ns).count a = (odsR ns).count a := fun a => (List.perm_iff_count.mp (dsc_perm (odsR ns))) a
  constructor
  · rintro ⟨a, ha, j, hj, rfl⟩
    have h := odds_mem.mp ha
    rw [ec] at hj
    exact (ods_bit h.1 h.2.2 hn hp.1 j).mp hj
  · intro hy
    have h1 := hp.1 y hy
    have h2 := le_sum (fun z hz => (by have := hp.1 z hz; omega)) y hy
    have h3 := hp.2.2
    obtain ⟨n, rfl⟩ := Int.eq_ofNat_of_zero_le (show 0 ≤ y by omega)
    obtain ⟨e1, e2⟩ := opn_tpe n (by omega)
    have ey : (n : Int) = ((opn n : Nat) : Int) * ((2 ^ tpe n : Nat) : Int) := by rw [← Int.natCast_mul, ← e1]
    have hle : opn n ≤ n := by
      conv => rhs; rw [e1]
      exact Nat.le_mul_of_pos_right _ (Nat.two_pow_pos _)
    have ho : ((opn n : Nat) : Int) ∈ oddsL := odds_mem.mpr ⟨by omega, by omega, by omega⟩
    refine ⟨_, ho, tpe n, ?_, ey⟩
    rw [ec, ods_bit (by omega) (by omega) hn hp.1, ← ey]
    exact hy
theorem unl_pos {ns : List Int} : ∀ x ∈ unlR ns, 1 ≤ x := fun x hx => by
  obtain ⟨a, ha, hx⟩ := List.mem_flatMap.mp hx
  exact made_odd (odds_mem.mp ha).1 hx
theorem unl_sum {ns : List Int} (hp : IsP ns) (ho : ∀ z ∈ ns, z % 2 = 1) : (unl ns).sum = ns.sum := by
  rw [show (unl ns).sum = (unlR ns).sum from sum_perm (dsc_perm _), ← ods_sum (ns := unlR ns) unl_pos, sum_perm (back_perm hp ho)]
theorem unl_is {ns : List Int} (hp : IsP ns) (ho : ∀ z ∈ ns, z % 2 = 1) : IsP (unl ns) ∧ (unl ns).Nodup := by
  refine ⟨⟨fun x hx => unl_pos x ((dsc_perm _).mem_iff.mp hx), dsc_desc _, ?_⟩, (dsc_perm _).symm.nodup (unlR_nodup ns)⟩
  rw [unl_sum hp ho]
  exact hp.2.2
theorem odl_sum {ns : List Int} (hp : IsP ns) : (odl ns).sum = ns.sum := by
  rw [show (odl ns).sum = (odsR ns).sum from sum_perm (dsc_perm _), ods_sum hp.1]
theorem odl_is {ns : List Int} (hp : IsP ns) : IsP (odl ns) ∧ ∀ z ∈ odl ns, z % 2 = 1 := by
  refine ⟨⟨fun x hx => (ods_odd hp.1 x ((dsc_perm _).mem_iff.mp hx)).1, dsc_desc _, ?_⟩, fun x hx => (ods_odd hp.1 x ((dsc_perm _).mem_iff.mp hx)).2⟩
  rw [odl_sum hp]
  exact hp.2.2
theorem odl_unl {ns : List Int} (hp : IsP ns) (ho : ∀ z ∈ ns, z % 2 = 1) : odl (unl ns) = ns :=
  (dsc_eq ((back_perm hp ho).symm.trans ((dsc_perm (unlR ns)).symm.flatMap_right rep)) hp.2.1).symm
theorem unl_odl {ns : List Int} (hp : IsP ns) (hn : ns.Nodup) : unl (odl ns) = ns := (dsc_eq (forth_perm hp hn).symm hp.2.1).symm
/-! ### stairparts.kinds: unlike_of, odd_of -/
/-- what unlike_of and odd_of tell: none, a refusal -/
def unlV (ns : List Int) : Option (List Int) := if oddB ns = true then some (unl ns) else none
def odlV (ns : List Int) : Option (List Int) := if ns.Nodup then some (odl ns) else none
def pow2 (j : Nat) : Int := ((2 ^ j : Nat) : Int)
theorem pow2_succ (j : Nat) : pow2 (j + 1) = pow2 j * 2 := by
  unfold pow2
  rw [Nat.pow_succ, Int.natCast_mul]
  rfl
theorem pow2_pos (j : Nat) : 1 ≤ pow2 j := by
  have := Nat.two_pow_pos j
  unfold pow2
  omega
theorem made_eq (ns : List Int) (a : Int) : made ns a = ((bts (ns.count a) 0).map pow2).map fun y => a * y := by
  unfold made
  rw [List.map_map]
  rfl
theorem made_none {ns : List Int} {a : Int} (h : a ∉ ns) : made ns a = [] := by
  unfold made
  rw [List.count_eq_zero.mpr h, bts_zero]
  rfl
/-- only those that stand make something -/
theorem made_few (ns : List Int) : ∀ l : List Int, (l.filter fun a => decide (a ∈ ns)).flatMap (made ns) = l.flatMap (made ns)
  | [] => rfl
  | a :: r => by
    have ih := made_few ns r
    by_cases c : a ∈ ns
    · rw [List.filter_cons, if_pos (decide_eq_true c), List.flatMap_cons, List.flatMap_cons, ih]
    · rw [List.filter_cons, if_neg (by simpa using c), List.flatMap_cons, ih, made_none c, List.nil_append]
theorem made_len {ns : List Int} {a : Int} (h : 1 ≤ a) : ((made ns a).length : Int) ≤ (made ns a).sum := len_le_sum fun x hx => made_odd h hx
section
variable {P : Program} {w : World} {K : PySem.W.Frag} {mg : Str → Option Value} {base : Heap}
def sp_powers_in : Sp := fun vs H Q _ => ∃ n : Nat, vs = [.int (n : Int)] ∧ n ≤ 4000 ∧ RetL (((bts n 0).map pow2).map V.int) H Q
theorem bts_len : ∀ (n j : Nat), (bts n j).length ≤ n := by
  intro n
  induction n using Nat.strongRecOn with
  | _ n ih =>
    intro j
    by_cases h : 0 < n
    · rw [bts_pos h, List.length_append]
      have := ih (n / 2) (by omega) (j + 1)
      split
      · simp only [List.length_cons, List.length_nil]
        omega
      · simp only [List.length_nil]
        omega
    · obtain rfl : n = 0 := by omega
      rw [bts_zero]
      simp
theorem ok_powers_in (T : Tx K mg) : FnOk P w K mg base CX0 1 T.a_powers_in T.d_powers_in ["many"] sp_powers_in := by
  refine T.F_powers_in.ok sc_powers_in (fun vs H Q E h => ?_) (fun cdv A outer s H vs Q E hr h => ?_)
  · obtain ⟨n, rfl, _⟩ := h
    rfl
  · obtain ⟨n, rfl, hn, q⟩ := h
    refine ⟨_, (pss_cons (ps_set (i := 1) sc_powers_in.nd rfl (Or.inl rfl) (pe_lst pa_nil))
    (pss_cons (ps_set (i := 2) sc_powers_in.nd rfl (Or.inl rfl) pe_int)
    (pss_cons (ps_set (i := 3) sc_powers_in.nd rfl (Or.inl rfl) (pv 0))
    (pss_cons (ps_while PassesOwn.never (pt_cmpR op_gt (pv 3) pe_int (nomark _))
      (pss_cut (ps_if (pt_cmpR op_eq (pe_op op_mod (pv 3) pe_int) pe_int (nomark _))
        (pss_one (ps_expr (pe_bm PySem.F.plainAttrs_list PySem.F.slot_list_append PySem.F.type_list_append mt_append (pv 1) (pa_cons (pv 2) pa_nil))))
        pss_nil)
      (pss_cons (ps_set (i := 3) sc_powers_in.nd rfl (Or.inl rfl) (pe_op op_fdiv (pv 3) pe_int))
      (pss_one (ps_set (i := 2) sc_powers_in.nd rfl (Or.inl rfl) (pe_op op_mul (pv 2) pe_int))))))
    (pss_one (ps_ret (pv 1))))))), ?_⟩
    have hbl := bts_len n 0
    refine q_asgL (xs := []) (el_lst ea_nil (by decide)) fun p H1 np e1 hp => ?_
    refine q_asg ev_c fun H2 e2 => ?_
    refine q_asg (ev_var rfl) fun H3 e3 => ?_
    have e13 := (e1.trans e2).trans e3
    refine q_while (fun m σ' H' => ∃ (r j : Nat) (acc : List Int), m = r ∧ σ' = [some (.int (n : Int)), some (.ref p), some (.int (pow2 j)), some (.int (r : Int))] ∧ Ex H H' ∧ Ll H' p acc ∧ acc ++ (bts r j).map pow2 = (bts n 0).map pow2) n ⟨n, 0, [], rfl, rfl, e13, (e2.trans e3) _ _ hp, rfl⟩ fun m σ' H' hW => ?_
    obtain ⟨r, j, acc, rfl, rfl, eH, ha, hacc⟩ := hW
    refine ⟨decide ((m : Int) > 0), et_test (ev_rI0 (ev_var rfl) ev_c), fun hb H4 e4 => ?_, fun hb H4 e4 => ?_⟩
    · have hm : 0 < m := by have := of_decide_eq_true hb; omega
      rw [bts_pos hm, List.map_append, ← List.append_assoc] at hacc
      have hal : acc.length ≤ 4000 := by
        have := congrArg List.length hacc
        rw [List.length_append, List.length_append, List.length_map, List.length_map, List.length_map] at this
        omega
      refine ⟨fun σ2 H2 => ∃ m', m' < m ∧ ∃ (r j : Nat) (acc : List Int), m' = r ∧ σ2 = [some (.int (n : Int)), some (.ref p), some (.int (pow2 j)), some (.int (r : Int))] ∧ Ex H H2 ∧ Ll H2 p acc ∧ acc ++ (bts r j).map pow2 = (bts n 0).map pow2, fun σ2 H2 h => h, ?_⟩
      refine q_cut (M := fun σ2 H2 => σ2 = [some (.int (n : Int)), some (.ref p), some (.int (pow2 j)), some (.int (m : Int))] ∧ Ex H H2 ∧ Ll H2 p (acc ++ (if m % 2 = 1 then [j] else []).map pow2)) (s_when (b := decide (m % 2 = 1)) (et_is (et_test (ev_eq (ev_rI (ev_var rfl) ev_c (by decide)) ev_c rfl)) ?_) (fun hc H5 e5 => ?_) (fun hc H5 e5 => ?_)) fun σ2 H2 hM => ?_
      · rw [decide_eq_decide]
        exact ⟨fun z => by have := V.int.inj z; omega, fun z => congrArg V.int (by omega)⟩
      · refine s_app ((e4.trans e5) _ _ ha) (ev_var rfl) (ev_var rfl) (by rw [List.length_map]; omega) fun H6 e6 => ⟨rfl, ((eH.trans (e4.trans e5)).trans e6).mut np, ?_⟩
        show upd H6 p _ p = _
        rw [upd_same, if_pos (of_decide_eq_true hc), List.map_append]
        rfl
      · refine ⟨rfl, eH.trans (e4.trans e5), ?_⟩
        rw [if_neg (of_decide_eq_false hc), List.map_nil, List.append_nil]
        exact (e4.trans e5) _ _ ha
      · obtain ⟨rfl, eH2, ha2⟩ := hM
        refine q_asg (ev_rI (ev_var rfl) ev_c ⟨by decide, by decide⟩) fun H6 e6 => ?_
        refine s_asg (ev_rI (ev_var rfl) ev_c (.inr (by decide))) fun H7 e7 => ?_
        refine ⟨m / 2, by omega, m / 2, j + 1, _, rfl, ?_, eH2.trans (e6.trans e7), (e6.trans e7) _ _ ha2, hacc⟩
        rw [pow2_succ]
        rfl
    · have hm : m = 0 := by have := of_decide_eq_false hb; omega
      subst hm
      rw [bts_zero, List.map_nil, List.append_nil] at hacc
      subst hacc
      exact s_ret (ev_var rfl) fun H5 e5 => q p H5 np (eH.trans (e4.trans e5)) ((e4.trans e5) _ _ ha)
theorem spl_powers {n : Nat} {H : Hp} (h : n ≤ 4000) : SpL sp_powers_in [.int (n : Int)] H (((bts n 0).map pow2).map V.int) := fun _ _ _ q _ => ⟨n, rfl, h, q⟩
def sp_greatest_power_within : Sp := fun vs H Q _ => ∃ n : Nat, vs = [.int (n : Int)] ∧ 0 < n ∧ n ≤ 4000 ∧ RetV (.int (pow2 (tpe n))) H Q
theorem tpe_div : ∀ (j n : Nat), 0 < n → n % 2 ^ j = 0 → tpe n = j + tpe (n / 2 ^ j) ∧ 0 < n / 2 ^ j
  | 0, n, h, _ => by
    rw [Nat.pow_zero, Nat.div_one]
    exact ⟨by omega, h⟩
  | j + 1, n, h, hd => by
    have hp := Nat.two_pow_pos j
    have hdvd : 2 ^ (j + 1) ∣ n := Nat.dvd_of_mod_eq_zero hd
    obtain ⟨q, rfl⟩ := hdvd
    have e : 2 ^ (j + 1) * q = 2 ^ j * (2 * q) := by rw [Nat.pow_succ, Nat.mul_assoc]
    have hq : 0 < q := by
      rcases Nat.eq_zero_or_pos q with z | z
      · rw [z] at h
        omega
      · exact z
    obtain ⟨h1, h2⟩ := tpe_div j (2 ^ (j + 1) * q) h (by rw [e]; exact Nat.mul_mod_right _ _)
    have e2 : 2 ^ (j + 1) * q / 2 ^ j = 2 * q := by rw [e]; exact Nat.mul_div_cancel_left _ hp
    rw [e2] at h1 h2
    have e3 : 2 ^ (j + 1) * q / 2 ^ (j + 1) = q := Nat.mul_div_cancel_left _ (Nat.two_pow_pos _)
    rw [e3]
    refine ⟨?_, hq⟩
    rw [h1, tpe_even (by omega) (by omega), show 2 * q / 2 = q by omega]
    omega
theorem ok_greatest_power_within (T : Tx K mg) : FnOk P w K mg base CX0 1 T.a_greatest_power_within T.d_greatest_power_within ["part"] sp_greatest_power_within := by
  refine T.F_greatest_power_within.ok sc_greatest_power_within (fun vs H Q E h => ?_) (fun cdv A outer s H vs Q E hr h => ?_)
  · obtain ⟨n, rfl, _⟩ := h
    rfl
  · obtain ⟨n, rfl, h0, hn, q⟩ := h
    refine ⟨_, (pss_cons (ps_set (i := 1) sc_greatest_power_within.nd rfl (Or.inl rfl) pe_int)
    (pss_cons (ps_while PassesOwn.never (pt_cmpR op_eq (pe_op op_mod (pv 0) (pe_op op_mul (pv 1) pe_int)) pe_int (nomark _))
      (pss_one (ps_set (i := 1) sc_greatest_power_within.nd rfl (Or.inl rfl) (pe_op op_mul (pv 1) pe_int))))
    (pss_one (ps_ret (pv 1))))), ?_⟩
    refine q_asg ev_c fun H1 e1 => ?_
    refine q_while (fun m σ' H' => ∃ j : Nat, m + 2 ^ j = n ∧ σ' = [some (.int (n : Int)), some (.int (pow2 j))] ∧ Ex H H' ∧ n % 2 ^ j = 0) (n - 1) ⟨0, by rw [Nat.pow_zero]; omega, rfl, e1, by rw [Nat.pow_zero, Nat.mod_one]⟩ fun m σ' H' hW => ?_
    obtain ⟨j, hm, rfl, eH, hd⟩ := hW
    have hp := Nat.two_pow_pos j
    have p1 := pow2_pos j
    have ep : pow2 j * 2 = ((2 ^ j * 2 : Nat) : Int) := by
      unfold pow2
      rw [Int.natCast_mul]
      rfl
    refine ⟨decide (n % (2 ^ j * 2) = 0), et_is (et_test (ev_eq (ev_rI (ev_var rfl) (ev_rI (ev_var rfl) ev_c (.inr (by decide))) (by omega)) ev_c rfl)) ?_, fun hb H4 e4 => ?_, fun hb H4 e4 => ?_⟩
    · rw [decide_eq_decide, ep, ← Int.natCast_emod]
      exact ⟨fun z => by have := V.int.inj z; omega, fun z => congrArg V.int (by omega)⟩
    · have hc := of_decide_eq_true hb
      rw [← Nat.pow_succ] at hc
      refine ⟨fun σ2 H2 => ∃ m', m' < m ∧ ∃ j : Nat, m' + 2 ^ j = n ∧ σ2 = [some (.int (n : Int)), some (.int (pow2 j))] ∧ Ex H H2 ∧ n % 2 ^ j = 0, fun σ2 H2 h => h, ?_⟩
      refine s_asg (ev_rI (ev_var rfl) ev_c (.inr (by decide))) fun H5 e5 => ?_
      have hle : 2 ^ (j + 1) ≤ n := Nat.le_of_dvd h0 (Nat.dvd_of_mod_eq_zero hc)
      have e2 : 2 ^ (j + 1) = 2 ^ j * 2 := Nat.pow_succ _ _
      refine ⟨n - 2 ^ (j + 1), by omega, j + 1, by omega, ?_, eH.trans (e4.trans e5), hc⟩
      rw [pow2_succ]
      rfl
    · have hc := of_decide_eq_false hb
      obtain ⟨t1, t2⟩ := tpe_div j n h0 hd
      have ho : n / 2 ^ j % 2 = 1 := by
        obtain ⟨k, hk⟩ := Nat.dvd_of_mod_eq_zero hd
        have e2 : n / 2 ^ j = k := by
          rw [hk]
          exact Nat.mul_div_cancel_left _ hp
        rw [e2]
        by_cases c : k % 2 = 1
        · exact c
        · exfalso
          refine hc ?_
          have e3 : k = 2 * (k / 2) := by omega
          rw [hk]
          conv => lhs; rw [e3]
          rw [← Nat.mul_assoc]
          exact Nat.mul_mod_right _ _
      have et : tpe n = j := by rw [t1, tpe_odd ho]; rfl
      exact s_ret (ev_var rfl) fun H5 e5 => by
        have := q H5 (eH.trans (e4.trans e5))
        rw [et] at this
        exact this
theorem spv_gpw {n : Nat} {H : Hp} (h0 : 0 < n) (h : n ≤ 4000) : SpV sp_greatest_power_within [.int (n : Int)] H (.int (pow2 (tpe n))) := fun _ _ _ q _ => ⟨n, rfl, h0, h, q⟩
def sp_unlike_of (C : Addr) : Sp := fun vs H Q E => ∃ (a : Addr) (ns : List Int), vs = [.ref a] ∧ Ll H a ns ∧ IsP ns ∧ (unlV ns = none → ∀ H', Ex H H' → E (.ref C) none H') ∧ ∀ r, unlV ns = some r → RetL (r.map V.int) H Q
theorem ok_unlike_of (T : Tx K mg) : FnOk P w K mg base (L2.CX P w) 4 T.a_unlike_of T.d_unlike_of ["parting"] (sp_unlike_of T.C_NoFit) := by
  refine T.F_unlike_of.okX sc_unlike_of (fun vs H Q E h => ?_) (fun cdv A outer s H vs Q E hr h => ?_)
  · obtain ⟨a, ns, rfl, _⟩ := h
    rfl
  · obtain ⟨a, ns, rfl, hL, hp, qn, qs⟩ := h
    refine ⟨_, (pss_cons (ps_expr (pe_call (ok_check_parting T) (hr.mono (by decide)) (by rfl) T.g_check_parting T.F_check_parting.kp T.b_check_parting .nil pass0 (pa_cons (pv 0) pa_nil)))
    (pss_cons (ps_expr (pe_call (ok_check_odd T) (hr.mono (by decide)) (by rfl) T.g_check_odd T.F_check_odd.kp T.b_check_odd .nil (E := E) (passes_call (takes_of rfl rfl rfl rfl) fun _ _ _ _ h => h) (pa_cons (pv 0) pa_nil)))
    (pss_cons (ps_setLc2 (i := 1) (own := [("part", 2), ("power", 3)]) (vs1 := [3]) (g := gName 2) (g1 := gName 3) (by rfl) sc_unlike_of.nd rfl rfl (sw_true rfl rfl rfl (by decide +kernel)) (pi_list (pe_sortSet (K := K) rfl rfl (by rfl) T.n_sorted (by rfl) T.n_set (pv 0))) (blkOk_by (own := [("part", 2), ("power", 3)]) (N := ["parting", "parts", "part", "power"]) (sc := defScope s_unlike_of) (by decide +kernel)) (by decide) (fun _ _ _ _ _ => (pg_name (i := 2) sc_unlike_of.nd rfl (Or.inl rfl))) (fun _ _ _ _ _ => pts_nil) (fun _ _ _ _ _ => (pi_listK (K := K) rfl (pe_call (ok_powers_in T) (hr.mono (by decide)) (by rfl) T.g_powers_in T.F_powers_in.kp T.b_powers_in .nil pass0 (pa_cons (castBM (K := K) rfl (pe_bm PySem.F.plainAttrs_list PySem.F.slot_list_count PySem.F.type_list_count (lcountK (K := K) rfl) (pv 0) (pa_cons (pv 2) pa_nil))) pa_nil)))) (fun _ _ _ _ _ => (pg_name (i := 3) sc_unlike_of.nd rfl (Or.inl rfl))) (fun _ _ _ _ _ => pts_nil) (fun _ _ _ _ _ => (pe_op op_mul (pv 2) (pv 3))))
    (pss_one (ps_ret (pe_callBK (sortedRK (K := K) (b := true) rfl) (by rfl) T.n_sorted (by decide +kernel) (pa_cons (pv 1) pa_nil) (pk_cons pe_bl pk_nil))))))), ?_⟩
    have hl := hp.len
    refine q_drop (ev_call (ea_cons (ev_var rfl) ea_nil) (spv_check hL hp)) fun H1 e1 => ?_
    cases ho : oddB ns with
    | false => exact ⟨.ref a, rfl, a, ns, rfl, e1 _ _ hL, by omega, fun _ H' e' => qn (by unfold unlV; rw [ho, if_neg (by simp)]) H' (e1.trans e'), fun z => by rw [ho] at z; cases z⟩
    | true =>
      have hodd := oddB_iff.mp ho
      refine q_drop (ev_call (ea_cons (ev_var rfl) ea_nil) (spv_odd (e1 _ _ hL) (by omega) ho)) fun H2 e2 => ?_
      have e12 := e1.trans e2
      have hS : ∀ z ∈ ns, z ∈ oddsL := fun z hz => by
        have h1 := hp.1 z hz
        have h2 := le_sum (fun y hy => (by have := hp.1 y hy; omega)) z hz
        have h3 := hp.2.2
        have h4 := hodd z hz
        exact odds_mem.mpr ⟨h1, by omega, h4⟩
      have pos : ∀ x ∈ unlR ns, 1 ≤ x := unl_pos
      have hR : ((unlR ns).length : Int) ≤ 200 := by
        have h1 := len_le_sum pos
        have h2 := unl_sum hp hodd
        have h3 : (unl ns).sum = (unlR ns).sum := sum_perm (dsc_perm _)
        have h4 := hp.2.2
        omega
      have fl : ((oddsL.filter fun a => decide (a ∈ ns)).flatMap fun z => ((bts (ns.count z) 0).map pow2).map fun y => z * y) = unlR ns := by
        have : (fun z => ((bts (ns.count z) 0).map pow2).map fun y => z * y) = made ns := funext fun z => (made_eq ns z).symm
        rw [this]
        exact made_few ns oddsL
      refine q_asgL (xs := (unlR ns).map V.int) (el_is (el_lc2I (ns := oddsL.filter fun a => decide (a ∈ ns)) (fun z => (bts (ns.count z) 0).map pow2) (fun z y => z * y) (el_sortSet (ev_var rfl) (ex_l e12 hL.sq) (by omega) (few_of hp.1 hp.2.2) (odds_up.sublist List.filter_sublist) fun k => ?_) (by rw [fl]; omega) (fun _ => rfl) (fun _ _ => rfl) (fun z H3 e3 hz => ?_) (fun z y H3 e3 hz hy => ?_)) (by rw [fl])) fun p H3 np e3 hp3 => ?_
      · rw [List.mem_filter, decide_eq_true_eq]
        exact ⟨fun h => h.2, fun h => ⟨hS k h, h⟩⟩
      · have := List.count_le_length (a := z) (l := ns)
        exact el_call (ea_cons (ev_cntI (ev_var rfl) ((e12.trans e3) _ _ hL) (ea_cons (ev_var rfl) ea_nil)) ea_nil) (spl_powers (by omega))
      · have hz2 := odds_mem.mp (List.mem_filter.mp hz).1
        exact ev_rI (ev_var rfl) (ev_var rfl) (.inl (by omega))
      · refine s_retL (el_sortR (ea_cons (ev_var rfl) ea_nil) (sq_of hp3)) fun o H4 no e4 h4 => ?_
        exact qs (unl ns) (by unfold unlV; rw [if_pos ho]) o H4 (fresh_back (e12.trans e3) no) ((e12.trans e3).trans e4) h4
theorem ok_odd_of_body {x : Int} (h : 1 ≤ x) : rep x = List.replicate (pow2 (tpe x.toNat)).toNat (x / pow2 (tpe x.toNat)) ∧ 1 ≤ x / pow2 (tpe x.toNat) := by
  obtain ⟨n, rfl⟩ := Int.eq_ofNat_of_zero_le (show 0 ≤ x by omega)
  obtain ⟨e1, e2⟩ := opn_tpe n (by omega)
  have e3 : (n : Int) / pow2 (tpe n) = ((opn n : Nat) : Int) := by
    unfold pow2
    rw [← Int.natCast_ediv]
    congr 1
    conv => lhs; lhs; rw [e1]
    exact Nat.mul_div_cancel _ (Nat.two_pow_pos _)
  unfold rep
  rw [Int.toNat_natCast, e3]
  refine ⟨?_, by omega⟩
  unfold pow2
  rw [Int.toNat_natCast]
theorem rep_len {x : Int} (h : 1 ≤ x) : ((rep x).length : Int) ≤ x := by
  have h1 := rep_sum h
  have h2 := len_le_sum (p := rep x) fun y hy => by
    rw [(ok_odd_of_body h).1] at hy
    rw [(List.mem_replicate.mp hy).2]
    exact (ok_odd_of_body h).2
  omega
theorem ods_len {ns : List Int} (h : ∀ x ∈ ns, 1 ≤ x) : ((odsR ns).length : Int) ≤ ns.sum := by
  have h1 := ods_sum h
  have h2 := len_le_sum (p := odsR ns) fun y hy => (ods_odd h y hy).1
  omega
theorem ods_snoc (l : List Int) (x : Int) : odsR (l ++ [x]) = odsR l ++ rep x := by
  unfold odsR
  rw [List.flatMap_append]
  simp
def sp_odd_of (C : Addr) : Sp := fun vs H Q E => ∃ (a : Addr) (ns : List Int), vs = [.ref a] ∧ Ll H a ns ∧ IsP ns ∧ (odlV ns = none → ∀ H', Ex H H' → E (.ref C) none H') ∧ ∀ r, odlV ns = some r → RetL (r.map V.int) H Q
theorem ok_odd_of (T : Tx K mg) : FnOk P w K mg base (L2.CX P w) 4 T.a_odd_of T.d_odd_of ["parting"] (sp_odd_of T.C_NoFit) := by
  refine T.F_odd_of.okX sc_odd_of (fun vs H Q E h => ?_) (fun cdv A outer s H vs Q E hr h => ?_)
  · obtain ⟨a, ns, rfl, _⟩ := h
    rfl
  · obtain ⟨a, ns, rfl, hL, hp, qn, qs⟩ := h
    refine ⟨_, (pss_cons (ps_expr (pe_call (ok_check_parting T) (hr.mono (by decide)) (by rfl) T.g_check_parting T.F_check_parting.kp T.b_check_parting .nil pass0 (pa_cons (pv 0) pa_nil)))
    (pss_cons (ps_expr (pe_call (ok_check_unlike T) (hr.mono (by decide)) (by rfl) T.g_check_unlike T.F_check_unlike.kp T.b_check_unlike .nil (E := E) (passes_call (takes_of rfl rfl rfl rfl) fun _ _ _ _ h => h) (pa_cons (pv 0) pa_nil)))
    (pss_cons (ps_set (i := 1) sc_odd_of.nd rfl (Or.inl rfl) (pe_lst pa_nil))
    (pss_cons (ps_for (passes_of rfl) rfl (pi_list (pv 0)) (pg_name (i := 2) sc_odd_of.nd rfl (Or.inl rfl))
      (pss_cons (ps_set (i := 3) sc_odd_of.nd rfl (Or.inl rfl) (pe_call (ok_greatest_power_within T) (hr.mono (by decide)) (by rfl) T.g_greatest_power_within T.F_greatest_power_within.kp T.b_greatest_power_within .nil pass0 (pa_cons (pv 2) pa_nil)))
      (pss_one (ps_expr (pe_bm PySem.F.plainAttrs_list PySem.F.slot_list_extend PySem.F.type_list_extend mt_extend (pv 1) (pa_cons (pe_op op_rep (pe_lst (pa_cons (pe_op op_fdiv (pv 2) (pv 3)) pa_nil)) (pv 3)) pa_nil))))))
    (pss_one (ps_ret (pe_callBK (sortedRK (K := K) (b := true) rfl) (by rfl) T.n_sorted (by decide +kernel) (pa_cons (pv 1) pa_nil) (pk_cons pe_bl pk_nil)))))))), ?_⟩
    have hl := hp.len
    refine q_drop (ev_call (ea_cons (ev_var rfl) ea_nil) (spv_check hL hp)) fun H1 e1 => ?_
    by_cases hn : ns.Nodup
    · refine q_drop (ev_call (ea_cons (ev_var rfl) ea_nil) (spv_unlike (e1 _ _ hL) (by omega) hn)) fun H2 e2 => ?_
      have e12 := e1.trans e2
      refine q_asgL (xs := []) (el_lst ea_nil (by decide)) fun p H3 np e3 hp3 => ?_
      have e13 := e12.trans e3
      have nH : H p = none := fresh_back e12 np
      refine q_forLn (ev_var rfl) (ex_l e13 hL.sq) (fun i σ' H' => ∃ y z : Option V, σ' = [some (.ref a), some (.ref p), y, z] ∧ Ex H H' ∧ Ll H' p (odsR (ns.take i)))
        (fun H4 e4 => ⟨none, none, rfl, e13.trans e4, e4 _ _ hp3⟩) (fun i σ' H' _ hP => ?_) (fun i x σ' H' hx hP => ?_) (fun σ' H' hP => ?_)
      · obtain ⟨y, z, rfl, eH, _⟩ := hP
        exact ex_l eH hL.sq
      · obtain ⟨y, z, rfl, eH, hP⟩ := hP
        obtain ⟨x', hx', rfl⟩ := get_int hx
        have hxm := List.mem_of_getElem? hx'
        have x1 := hp.1 x' hxm
        have x2 := le_sum (fun y hy => (by have := hp.1 y hy; omega)) x' hxm
        have x3 := hp.2.2
        obtain ⟨b1, b2⟩ := ok_odd_of_body x1
        have p1 := pow2_pos (tpe x'.toNat)
        have rl := rep_len x1
        have tl : ((odsR (ns.take i)).length : Int) ≤ 200 := by
          have h1 := ods_len (ns := ns.take i) fun y hy => hp.1 y (List.mem_of_mem_take hy)
          have e : ns.sum = (ns.take i).sum + (ns.drop i).sum := by
            conv => lhs; rw [← List.take_append_drop i ns]
            exact sum_append _ _
          have := sum_nn (p := ns.drop i) fun y hy => by have := hp.1 y (List.mem_of_mem_drop hy); omega
          omega
        have pl : pow2 (tpe x'.toNat) ≤ 200 := by
          rw [b1, List.length_replicate] at rl
          omega
        have ex' : ((x'.toNat : Nat) : Int) = x' := by omega
        refine q_asg (v := .int (pow2 (tpe x'.toNat))) (ev_call (ea_cons (ev_is (ev_var rfl) (by rw [ex'])) ea_nil) (spv_gpw (n := x'.toNat) (by omega) (by omega))) fun H4 e4 => ?_
        refine s_ext (ev_var rfl) (e4 _ _ hP) (el_is (el_rep (zs := [V.int (x' / pow2 (tpe x'.toNat))]) (k := pow2 (tpe x'.toNat)) (el_lst (ea_cons (ev_rI (ev_var rfl) (ev_var rfl) ⟨by omega, by omega⟩) ea_nil) (by show 1 ≤ 100000; decide)) (ev_var rfl) ⟨by omega, by omega⟩ (by show 1 * _ ≤ 100000; omega)) (show _ = (rep x').map V.int from ?_)) (by rw [List.length_map, List.length_map]; omega) fun H5 e5 => ?_
        · rw [b1, List.map_replicate]
          generalize (pow2 (tpe x'.toNat)).toNat = m
          induction m with
          | zero => rfl
          | succ m ih =>
            rw [List.replicate_succ, List.replicate_succ, List.flatten_cons, ih]
            rfl
        · refine ⟨_, _, rfl, ((eH.trans e4).trans e5).mut nH, ?_⟩
          show upd H5 p _ p = _
          rw [upd_same, take_one hx', ods_snoc, List.map_append]
      · obtain ⟨y, z, rfl, eH, hP⟩ := hP
        rw [List.take_of_length_le (by rw [List.length_map]; exact Nat.le_refl _)] at hP
        refine s_retL (el_sortR (ea_cons (ev_var rfl) ea_nil) (sq_of hP)) fun o H4 no e4 h4 => ?_
        exact qs (odl ns) (by unfold odlV; rw [if_pos hn]) o H4 (fresh_back eH no) (eH.trans e4) h4
    · exact ⟨.ref a, rfl, a, ns, rfl, e1 _ _ hL, by omega, fun _ H' e' => qn (by unfold odlV; rw [if_neg hn]) H' (e1.trans e'), fun z => absurd z hn⟩
end
/-! ### stairparts.squares -/
section
variable {P : Program} {w : World} {K : PySem.W.Frag} {mg : Str → Option Value} {base : Heap}
def sp_square_of : Sp := fun vs H Q _ => ∃ (a : Addr) (ns : List Int), vs = [.ref a] ∧ Ll H a ns ∧ IsP ns ∧ RetV (.int (sq ns : Int)) H Q
theorem ok_square_of (T : Tx K mg) : FnOk P w K mg base CX0 4 T.a_square_of T.d_square_of ["parting"] sp_square_of := by
  refine T.F_square_of.ok sc_square_of (fun vs H Q E h => ?_) (fun cdv A outer s H vs Q E hr h => ?_)
  · obtain ⟨a, ns, rfl, _⟩ := h
    rfl
  · obtain ⟨a, ns, rfl, hL, hp, q⟩ := h
    refine ⟨_, (pss_cons (ps_expr (pe_call (ok_check_parting T) (hr.mono (by decide)) (by rfl) T.g_check_parting T.F_check_parting.kp T.b_check_parting .nil pass0 (pa_cons (pv 0) pa_nil)))
    (pss_one (ps_ret (pe_callB (lenK (K := K) rfl) (by rfl) T.n_len PySem.boot_len (pa_cons (pe_lc (own := [("place", 1), ("part", 2)]) (g := g2n K 1 2) (by rfl) sc_square_of.nd (pi_enum (by rfl) T.n_enumerate (pa_cons (pv 0) pa_nil)) (blkOk_by (own := [("place", 1), ("part", 2)]) (N := ["parting", "place", "part"]) (sc := defScope s_square_of) (by decide +kernel)) (fun _ _ _ _ _ => (pg_tup rfl (pgs_cons (pg_name (i := 1) sc_square_of.nd rfl (Or.inl rfl)) (pgs_cons (pg_name (i := 2) sc_square_of.nd rfl (Or.inl rfl)) pgs_nil)))) (fun _ _ _ _ _ => pts_one (pt_cmpR op_gt (pv 2) (pv 1) (nomark _))) (fun _ _ _ _ _ => (pv 2))) pa_nil))))), ?_⟩
    refine q_drop (ev_call (ea_cons (ev_var rfl) ea_nil) (spv_check hL hp)) fun H1 e1 => ?_
    have hl := hp.len
    refine s_ret (ev_is (ev_cbL (el_lcE (fun i => decide ((i : Int) < ns.getD i 0)) (fun i => V.int (ns.getD i 0)) (ea_cons (ev_var rfl) ea_nil) (ex_l e1 hL.sq) (by rw [List.length_map]; omega) (fun _ _ => rfl) (fun i z H2 hz e2 => ?_) (fun i z H2 hz e2 _ => ?_)) fun p H2 _ hp => rc_len (sq_of hp)) (by rw [given_length, List.length_map]; rfl)) fun H2 e2 => q H2 (e1.trans e2)
    · obtain ⟨y, e, rfl⟩ := get_int hz
      rw [show ns.getD i 0 = y by simp [List.getD, e]]
      exact et_test (ev_rI0 (ev_var rfl) (ev_var rfl))
    · obtain ⟨y, e, rfl⟩ := get_int hz
      rw [show ns.getD i 0 = y by simp [List.getD, e]]
      exact ev_var rfl
theorem spv_square {a : Addr} {ns : List Int} {H : Hp} (hL : Ll H a ns) (hp : IsP ns) : SpV sp_square_of [.ref a] H (.int (sq ns : Int)) := fun H1 e _ q _ => ⟨a, ns, rfl, e _ _ hL, hp, q⟩
/-- a number and two lists, new -/
def RetC (n : Int) (xs ys : List Int) (H : Hp) (Q : VK) : Prop := ∀ (t p q : Addr) (H2 : Hp), H t = none → H p = none → H q = none → p ≠ q → Ex H H2 → H2 t = some (.tup [.int n, .ref p, .ref q]) → Ll H2 p xs → Ll H2 q ys → Q (.ref t) H2
def sp_cut_square : Sp := fun vs H Q _ => ∃ (a : Addr) (ns : List Int), vs = [.ref a] ∧ Ll H a ns ∧ IsP ns ∧ RetC (sq ns : Int) (besideOf ns (sq ns)) (ns.drop (sq ns)) H Q
theorem ne_fresh {H H1 : Hp} {p q : Addr} {o : HO} (h : H p = some o) (e : Ex H H1) (hq : H1 q = none) : p ≠ q := fun z => by
  have := e _ _ h
  rw [z, hq] at this
  cases this
theorem ne_fresh0 {H : Hp} {p q : Addr} {o : HO} (h : H p = some o) (hq : H q = none) : p ≠ q := ne_fresh h (Ex.refl H) hq
theorem ok_cut_square (T : Tx K mg) : FnOk P w K mg base CX0 5 T.a_cut_square T.d_cut_square ["parting"] sp_cut_square := by
  refine T.F_cut_square.ok sc_cut_square (fun vs H Q E h => ?_) (fun cdv A outer s H vs Q E hr h => ?_)
  · obtain ⟨a, ns, rfl, _⟩ := h
    rfl
  · obtain ⟨a, ns, rfl, hL, hp, q⟩ := h
    refine ⟨_, (pss_cons (ps_set (i := 1) sc_cut_square.nd rfl (Or.inr rfl) (pe_call (ok_square_of T) (hr.mono (by decide)) (by rfl) T.g_square_of T.F_square_of.kp T.b_square_of .nil pass0 (pa_cons (pv 0) pa_nil)))
    (pss_cons (ps_setLc (i := 2) (own := [("part", 4)]) (g := gName 4) (by rfl) sc_cut_square.nd rfl rfl (sw_true rfl rfl rfl (by decide +kernel)) (pi_list (pe_slice (sllK (K := K) rfl) (pv 0) po_none (po_some (pv 1)))) (blkOk_by (own := [("part", 4)]) (N := ["parting", "number", "beside", "beneath", "part"]) (sc := defScope s_cut_square) (by decide +kernel)) (fun _ _ _ _ _ => (pg_name (i := 4) sc_cut_square.nd rfl (Or.inl rfl))) (fun _ _ _ _ _ => pts_one (pt_cmpR op_gt (pv 4) (pv 1) (nomark _))) (fun _ _ _ _ _ => (pe_op op_sub (pv 4) (pv 1))))
    (pss_cons (ps_set (i := 3) sc_cut_square.nd rfl (Or.inl rfl) (pe_slice (sllK (K := K) rfl) (pv 0) (po_some (pv 1)) po_none))
    (pss_one (ps_ret (pe_tup (pa_cons (pv 1) (pa_cons (pv 2) (pa_cons (pv 3) pa_nil))))))))), ?_⟩
    have hl := hp.len
    refine q_asg (ev_call (ea_cons (ev_var rfl) ea_nil) (spv_square hL hp)) fun H1 e1 => ?_
    refine q_asgL (xs := (besideOf ns (sq ns)).map V.int) (el_is (el_lcIN (ns := ns.take (sq ns)) (fun z => decide ((sq ns : Int) < z)) (fun z => V.int (z - (sq ns : Int))) (el_is (el_sl (ev_var rfl) eo_none (eo_some (ev_var rfl)) (ex_l e1 hL.sq)) (by rw [cut_upto, ← List.map_take])) (by rw [List.length_take]; omega) (fun _ => rfl)
      (fun z H2 _ _ => et_test (ev_rI0 (ev_var rfl) (ev_var rfl))) fun z H2 _ _ _ => ev_rI0 (ev_var rfl) (ev_var rfl)) (by unfold besideOf; rw [List.map_map]; rfl)) fun p H2 np e2 hp2 => ?_
    refine q_asgL (xs := (ns.drop (sq ns)).map V.int) (el_is (el_sl (ev_var rfl) (eo_some (ev_var rfl)) eo_none (ex_l (e1.trans e2) hL.sq)) (by rw [cut_from, ← List.map_drop])) fun b H3 nb e3 hb3 => ?_
    refine s_retU (eu_tup (ea_cons (ev_var rfl) (ea_cons (ev_var rfl) (ea_cons (ev_var rfl) ea_nil))) (by show 3 ≤ 100000; decide)) fun t H4 nt e4 ht => ?_
    exact q t p b H4 (fresh_back ((e1.trans e2).trans e3) nt) (fresh_back e1 np) (fresh_back (e1.trans e2) nb) (ne_fresh0 hp2 nb) (((e1.trans e2).trans e3).trans e4) ht ((e3.trans e4) _ _ hp2) (e4 _ _ hb3)
def sp_put_square (C : Addr) : Sp := fun vs H Q E => ∃ (a b : Addr) (xs ys : List Int) (n : Int), vs = [.ref a, .ref b, .int n] ∧ Ll H a xs ∧ Ll H b ys ∧ IsP xs ∧ IsP ys ∧ 0 ≤ n ∧
  (putV xs ys n = none → ∀ H', Ex H H' → E (.ref C) none H') ∧ ∀ r, putV xs ys n = some r → RetL (r.map V.int) H Q
theorem ok_put_square (T : Tx K mg) : FnOk P w K mg base (L2.CX P w) 4 T.a_put_square T.d_put_square ["beside", "beneath", "number"] (sp_put_square T.C_NoFit) := by
  refine T.F_put_square.okX sc_put_square (fun vs H Q E h => ?_) (fun cdv A outer s H vs Q E hr h => ?_)
  · obtain ⟨a, b, xs, ys, n, rfl, _⟩ := h
    rfl
  · obtain ⟨a, b, xs, ys, n, rfl, hX, hY, px, py, h0, qn, qs⟩ := h
    refine ⟨_, (pss_cons (ps_expr (pe_call (ok_check_parting T) (hr.mono (by decide)) (by rfl) T.g_check_parting T.F_check_parting.kp T.b_check_parting .nil pass0 (pa_cons (pv 0) pa_nil)))
    (pss_cons (ps_expr (pe_call (ok_check_parting T) (hr.mono (by decide)) (by rfl) T.g_check_parting T.F_check_parting.kp T.b_check_parting .nil pass0 (pa_cons (pv 1) pa_nil)))
    (pss_cons (ps_expr (pe_call (ok_check_number T) (hr.mono (by decide)) (by rfl) T.g_check_number T.F_check_number.kp T.b_check_number .nil pass0 (pa_cons (pv 2) pa_nil)))
    (pss_cons (ps_if (PW.pt (pw_or (pt_cmpR op_gt (pe_callB (lenK (K := K) rfl) (by rfl) T.n_len PySem.boot_len (pa_cons (pv 0) pa_nil)) (pv 2) (nomark _)) (pw_or1 (pt_cmpR op_gt (pe_callBK (maxDK (K := K) rfl rfl hr.two) (by rfl) T.n_max (by decide +kernel) (pa_cons (pv 1) pa_nil) (pk_cons pe_int pk_nil)) (pv 2) (nomark _)))))
      (pss_one (ps_raise rfl (takes_of rfl rfl rfl rfl) (pmk_own PySem.F.excBase_ValueError T.x_NoFit T.g_NoFit T.k_NoFit (raises_own T.s_NoFit T.t_NoFit) rfl)))
      pss_nil)
    (pss_cons (ps_if (PW.pt (pw_or (pt_cmpR op_gt (pv 2) (pe_glob rfl T.c_GREATEST_WHOLE T.r_GREATEST_WHOLE) (nomark _)) (pw_or1 (pt_cmpR op_gt (pe_op op_add (pe_op op_add (pe_op op_mul (pv 2) (pv 2)) (pe_callB (sumK (K := K) rfl rfl) (by rfl) T.n_sum (by decide +kernel) (pa_cons (pv 0) pa_nil))) (pe_callB (sumK (K := K) rfl rfl) (by rfl) T.n_sum (by decide +kernel) (pa_cons (pv 1) pa_nil))) (pe_glob rfl T.c_GREATEST_WHOLE T.r_GREATEST_WHOLE) (nomark _)))))
      (pss_one (ps_raise rfl (takes_of rfl rfl rfl rfl) (pmk_own PySem.F.excBase_ValueError T.x_NoFit T.g_NoFit T.k_NoFit (raises_own T.s_NoFit T.t_NoFit) rfl)))
      pss_nil)
    (pss_cons (ps_set (i := 3) sc_put_square.nd rfl (Or.inl rfl) (pe_op op_rep (pe_lst (pa_cons pe_int pa_nil)) (pe_op op_sub (pv 2) (pe_callB (lenK (K := K) rfl) (by rfl) T.n_len PySem.boot_len (pa_cons (pv 0) pa_nil)))))
    (pss_one (ps_ret (pe_op op_cat (pe_lc (own := [("part", 4)]) (g := gName 4) (by rfl) sc_put_square.nd (pi_list (pe_op op_cat (pv 0) (pv 3))) (blkOk_by (own := [("part", 4)]) (N := ["beside", "beneath", "number", "noughts", "part"]) (sc := defScope s_put_square) (by decide +kernel)) (fun _ _ _ _ _ => (pg_name (i := 4) sc_put_square.nd rfl (Or.inl rfl))) (fun _ _ _ _ _ => pts_nil) (fun _ _ _ _ _ => (pe_op op_add (pv 2) (pv 4)))) (pv 1)))))))))), ?_⟩
    have lx := px.len
    have ly := py.len
    refine q_drop (ev_call (ea_cons (ev_var rfl) ea_nil) (spv_check hX px)) fun H1 e1 => ?_
    refine q_drop (ev_call (ea_cons (ev_var rfl) ea_nil) (spv_check (e1 _ _ hY) py)) fun H2 e2 => ?_
    refine q_drop (ev_call (ea_cons (ev_var rfl) ea_nil) (spv_checkn h0)) fun H3 e3 => ?_
    have e13 := (e1.trans e2).trans e3
    refine q_when (b := decide (n < xs.length) || decide (n < mx ys)) (et_is (et_or (et_test (ev_rI0 (ev_cb (ea_cons (ev_var rfl) ea_nil) (rc_len (ex_l e13 hX.sq))) (ev_var rfl))) fun _ => et_test (ev_rI0 (ev_maxD (m := mx ys) (ea_cons (ev_var rfl) ea_nil) (ea_cons ev_c ea_nil) (ex_l e13 hY.sq) (fun z => ?_) (fun k k1 k2 => ?_)) (ev_var rfl))) (by rw [List.length_map])) (fun hb H4 e4 => ?_) (fun hb H4 e4 => ?_)
    · rw [z]
      rfl
    · exact mx_eq (by have := py.1 k k1; omega) k1 k2
    · show E (.ref T.C_NoFit) none H4
      refine qn ?_ H4 (e13.trans e4)
      simp at hb
      unfold putV
      rw [if_pos (by omega)]
    · have c1 : ¬ (n < xs.length ∨ n < mx ys) := by
        simp at hb
        omega
      unfold putV at qn qs
      rw [if_neg c1] at qn qs
      refine q_when (b := decide (200 < n) || decide (200 < n * n + xs.sum + ys.sum)) (et_or (et_test (ev_rI0 (ev_var rfl) ev_c)) fun hn => et_test (ev_rI0 (ev_rI0 (ev_rI0 (ev_rI (ev_var rfl) (ev_var rfl) (.inl (by simp at hn; omega))) (ev_cb (ea_cons (ev_var rfl) ea_nil) (rc_sum (ex_l (e13.trans e4) hX.sq)))) (ev_cb (ea_cons (ev_var rfl) ea_nil) (rc_sum (ex_l (e13.trans e4) hY.sq)))) ev_c)) (fun hb H5 e5 => ?_) (fun hb H5 e5 => ?_)
      · show E (.ref T.C_NoFit) none H5
        refine qn ?_ H5 ((e13.trans e4).trans e5)
        simp at hb
        rw [if_pos (by omega)]
      · have c2 : ¬ (200 < n ∨ 200 < n * n + xs.sum + ys.sum) := by
          simp at hb
          omega
        rw [if_neg c2] at qs
        have e15 := (e13.trans e4).trans e5
        have elx : ((xs.map V.int).length : Int) = (xs.length : Int) := by rw [List.length_map]
        refine q_asgL (xs := (List.replicate (n - xs.length).toNat (0 : Int)).map V.int) (el_is (el_rep (zs := [V.int 0]) (k := n - xs.length) (el_lst (ea_cons ev_c ea_nil) (by show 1 ≤ 100000; decide)) (ev_rI0 (ev_var rfl) (ev_is (ev_cb (ea_cons (ev_var rfl) ea_nil) (rc_len (ex_l e15 hX.sq))) (by rw [elx]))) ⟨by omega, by omega⟩ (by show 1 * _ ≤ 100000; omega)) ?_) fun p H6 np e6 hp6 => ?_
        · rw [List.map_replicate]
          generalize (n - xs.length).toNat = m
          induction m with
          | zero => rfl
          | succ m ih =>
            rw [List.replicate_succ, List.replicate_succ, List.flatten_cons, ih]
            rfl
        · have e16 := e15.trans e6
          refine s_retL (el_is (el_catN (zs := ((xs ++ List.replicate (n - xs.length).toNat 0).map fun z => V.int (n + z))) (ws := ys.map V.int) (el_lcINA (ns := xs ++ List.replicate (n - xs.length).toNat 0) (fun z => V.int (n + z)) (el_is (el_cat (ev_var rfl) (ev_var rfl) (e16 _ _ hX) hp6 (by rw [List.length_map, List.length_map, List.length_replicate]; omega)) (by rw [List.map_append])) (by rw [List.length_append, List.length_replicate]; omega) (fun _ => rfl) fun z H7 _ _ => ev_rI0 (ev_var rfl) (ev_var rfl)) (ev_var rfl) (e16 _ _ hY) (by rw [List.length_map, List.length_map, List.length_append, List.length_replicate]; omega)) rfl) fun r H7 nr e7 hr => ?_
          refine qs _ rfl r H7 (fresh_back e16 nr) (e16.trans e7) ?_
          rw [hr]
          show some (HO.lst (_ ++ _)) = some (HO.lst (List.map V.int (_ ++ _)))
          rw [List.map_append (l₁ := List.map _ _), List.map_map (l := xs ++ _)]
          rfl
end
/-! ### how many partings there are -/
def ptA (f : Nat → Nat) (k : Nat) : Nat → Nat → Nat
  | 0, n => f n
  | c + 1, n => f n + if k ≤ n then ptA f k c (n - k) else 0
/-- how many of n with no part greater than m -/
def pt : Nat → Nat → Nat
  | 0, n => if n = 0 then 1 else 0
  | m + 1, n => ptA (pt m) (m + 1) n n
theorem ptA_fuel (f : Nat → Nat) {k : Nat} (hk : 0 < k) : ∀ (a b n : Nat), n ≤ a → n ≤ b → ptA f k a n = ptA f k b n
  | 0, 0, n, _, _ => rfl
  | 0, b + 1, n, ha, _ => by
    have : n = 0 := by omega
    subst this
    show f 0 = f 0 + if k ≤ 0 then _ else 0
    rw [if_neg (by omega)]
    omega
  | a + 1, 0, n, _, hb => by
    have : n = 0 := by omega
    subst this
    show f 0 + (if k ≤ 0 then _ else 0) = f 0
    rw [if_neg (by omega)]
    omega
  | a + 1, b + 1, n, ha, hb => by
    show f n + (if k ≤ n then ptA f k a (n - k) else 0) = f n + if k ≤ n then ptA f k b (n - k) else 0
    by_cases c : k ≤ n
    · rw [if_pos c, if_pos c, ptA_fuel f hk a b (n - k) (by omega) (by omega)]
    · rw [if_neg c, if_neg c]
theorem pt_zero (n : Nat) : pt 0 n = if n = 0 then 1 else 0 := rfl
theorem pt_succ (m n : Nat) : pt (m + 1) n = pt m n + if m + 1 ≤ n then pt (m + 1) (n - (m + 1)) else 0 := by
  show ptA (pt m) (m + 1) n n = _
  cases n with
  | zero =>
    rw [if_neg (by omega)]
    rfl
  | succ n =>
    show pt m (n + 1) + (if m + 1 ≤ n + 1 then ptA (pt m) (m + 1) n (n + 1 - (m + 1)) else 0) = _
    by_cases c : m + 1 ≤ n + 1
    · rw [if_pos c, if_pos c]
      show _ + ptA (pt m) (m + 1) n _ = _ + ptA (pt m) (m + 1) _ _
      rw [ptA_fuel (pt m) (by omega) n (n + 1 - (m + 1)) (n + 1 - (m + 1)) (by omega) (Nat.le_refl _)]
    · rw [if_neg c, if_neg c]
theorem pt_lt {m n : Nat} (h : n < m + 1) : pt (m + 1) n = pt m n := by
  rw [pt_succ, if_neg (by omega)]
  omega
theorem pt_ge {m n : Nat} (h : m + 1 ≤ n) : pt (m + 1) n = pt m n + pt (m + 1) (n - (m + 1)) := by
  rw [pt_succ, if_pos h]
theorem pt_mono {m n : Nat} : ∀ {k : Nat}, m ≤ k → pt m n ≤ pt k n
  | 0, h => by
    have : m = 0 := by omega
    rw [this]
    exact Nat.le_refl _
  | k + 1, h => by
    by_cases c : m = k + 1
    · rw [c]
      exact Nat.le_refl _
    · have := pt_mono (n := n) (show m ≤ k by omega)
      rw [pt_succ]
      omega
theorem pt_top {m n : Nat} (h : n ≤ m) : pt m n = pt n n := by
  obtain ⟨d, rfl⟩ : ∃ d, m = n + d := ⟨m - n, by omega⟩
  induction d with
  | zero => rfl
  | succ d ih =>
    show pt (n + d + 1) n = _
    rw [pt_lt (by omega), ih (by omega)]
theorem pt_min (m n : Nat) : pt (min m n) n = pt m n := by
  by_cases h : m ≤ n
  · rw [Nat.min_eq_left h]
  · rw [Nat.min_eq_right (by omega)]
    exact (pt_top (by omega)).symm
theorem pt_z0 {n : Nat} (h : 0 < n) : pt 0 n = 0 := if_neg (by omega)
theorem pt_at0 : ∀ m, pt m 0 = 1
  | 0 => rfl
  | m + 1 => by rw [pt_lt (by omega), pt_at0 m]
theorem pt_pos : ∀ (n : Nat), 0 < pt n n := by
  intro n
  rcases Nat.eq_zero_or_pos n with z | z
  · rw [z]
    decide
  · obtain ⟨m, rfl⟩ : ∃ m, n = m + 1 := ⟨n - 1, by omega⟩
    rw [pt_ge (Nat.le_refl _), Nat.sub_self, pt_at0]
    omega
def rowL (W m : Nat) : List Int := (List.range (W + 1)).map fun n => ((pt m n : Nat) : Int)
def rowsL (W G : Nat) : List (List Int) := (List.range (G + 1)).map (rowL W)
theorem rowL_len (W m : Nat) : (rowL W m).length = W + 1 := by
  unfold rowL
  rw [List.length_map, List.length_range]
theorem rowL_get {W m n : Nat} (h : n ≤ W) : (rowL W m)[n]? = some ((pt m n : Nat) : Int) := by
  unfold rowL
  rw [List.getElem?_map, List.getElem?_range (by omega)]
  rfl
theorem rowL_getD {W m n : Nat} (h : n ≤ W) : (rowL W m).getD n 0 = ((pt m n : Nat) : Int) := by
  rw [List.getD, rowL_get h]
  rfl
theorem rowsL_get {W G m : Nat} (h : m ≤ G) : (rowsL W G)[m]? = some (rowL W m) := by
  unfold rowsL
  rw [List.getElem?_map, List.getElem?_range (by omega)]
  rfl
theorem rowsL_succ (W G : Nat) : rowsL W (G + 1) = rowsL W G ++ [rowL W (G + 1)] := by
  unfold rowsL
  rw [List.range_succ, List.map_append]
  rfl
theorem row_zero (W : Nat) : rowL W 0 = 1 :: List.replicate W 0 := by
  unfold rowL
  rw [List.range_succ_eq_map, List.map_cons, List.map_map]
  have : (List.range W).map ((fun n => ((pt 0 n : Nat) : Int)) ∘ Nat.succ) = List.replicate W 0 := List.eq_replicate_iff.mpr ⟨by rw [List.length_map, List.length_range], fun x hx => by
    obtain ⟨n, _, rfl⟩ := List.mem_map.mp hx
    show ((pt 0 (n + 1) : Nat) : Int) = 0
    rw [pt_z0 (by omega)]
    rfl⟩
  rw [this]
  rfl
/-- a row that is being made: to t behind m + 1 it stands for m + 1 -/
def halfR (W m t : Nat) : List Int := (List.range (W + 1)).map fun n => if n < m + 1 + t then ((pt (m + 1) n : Nat) : Int) else ((pt m n : Nat) : Int)
theorem halfR_len (W m t : Nat) : (halfR W m t).length = W + 1 := by
  unfold halfR
  rw [List.length_map, List.length_range]
theorem halfR_get {W m t n : Nat} (h : n ≤ W) : (halfR W m t)[n]? = some (if n < m + 1 + t then ((pt (m + 1) n : Nat) : Int) else ((pt m n : Nat) : Int)) := by
  unfold halfR
  rw [List.getElem?_map, List.getElem?_range (by omega)]
  rfl
theorem halfR_zero (W m : Nat) : halfR W m 0 = rowL W m := by
  unfold halfR rowL
  refine List.map_congr_left fun n hn => ?_
  by_cases c : n < m + 1 + 0
  · rw [if_pos c, pt_lt (by omega)]
  · rw [if_neg c]
theorem halfR_full {W m t : Nat} (h : W < m + 1 + t) : halfR W m t = rowL W (m + 1) := by
  unfold halfR rowL
  refine List.map_congr_left fun n hn => ?_
  have := List.mem_range.mp hn
  rw [if_pos (by omega)]
theorem halfR_step {W m t : Nat} (h : m + 1 + t ≤ W) : (halfR W m t).set (m + 1 + t) ((halfR W m t).getD (m + 1 + t) 0 + (halfR W m t).getD t 0) = halfR W m (t + 1) := by
  have l1 := halfR_len W m t
  have l2 := halfR_len W m (t + 1)
  have g1 : (halfR W m t).getD (m + 1 + t) 0 = ((pt m (m + 1 + t) : Nat) : Int) := by
    rw [List.getD, halfR_get h, if_neg (by omega)]
    rfl
  have g2 : (halfR W m t).getD t 0 = ((pt (m + 1) t : Nat) : Int) := by
    rw [List.getD, halfR_get (by omega), if_pos (by omega)]
    rfl
  rw [g1, g2]
  refine List.ext_getElem? fun n => ?_
  by_cases hn : n ≤ W
  · rw [List.getElem?_set, l1, halfR_get hn, halfR_get hn]
    by_cases c : m + 1 + t = n
    · subst c
      rw [if_pos rfl, if_pos (by omega), if_pos (by omega), pt_ge (show m + 1 ≤ m + 1 + t by omega), show m + 1 + t - (m + 1) = t by omega]
      rfl
    · rw [if_neg c]
      by_cases d : n < m + 1 + t
      · rw [if_pos d, if_pos (by omega)]
      · rw [if_neg d, if_neg (by omega)]
  · rw [List.getElem?_eq_none (by rw [List.length_set]; omega), List.getElem?_eq_none (by omega)]
/-! ### stairparts.counting: _check_whole, _count_rows, how_many, where nothing is refused -/
section
variable {P : Program} {w : World} {K : PySem.W.Frag} {mg : Str → Option Value} {base : Heap}
def sp_check_whole : Sp := fun vs H Q _ => ∃ i : Int, vs = [.int i] ∧ 0 ≤ i ∧ i ≤ 200 ∧ RetV .non H Q
theorem ok_check_whole (T : Tx K mg) : FnOk P w K mg base CX0 4 T.a_check_whole T.d_check_whole ["thing"] sp_check_whole := by
  refine T.F_check_whole.ok sc_check_whole (fun vs H Q E h => ?_) (fun cdv A outer s H vs Q E hr h => ?_)
  · obtain ⟨i, rfl, _⟩ := h
    rfl
  · obtain ⟨i, rfl, h0, h1, q⟩ := h
    refine ⟨_, (pss_cons (ps_expr (pe_call (ok_check_number T) (hr.mono (by decide)) (by rfl) T.g_check_number T.F_check_number.kp T.b_check_number .nil pass0 (pa_cons (pv 0) pa_nil)))
    (pss_one (ps_if (pt_cmpR op_gt (pv 0) (pe_glob rfl T.c_GREATEST_WHOLE T.r_GREATEST_WHOLE) (nomark _))
      (pss_one ps_never)
      pss_nil))), ?_⟩
    refine q_drop (ev_call (ea_cons (ev_var rfl) ea_nil) (spv_checkn h0)) fun H1 e1 => ?_
    refine s_when (et_test (ev_rI0 (ev_var rfl) ev_c)) (fun hb => ?_) (fun _ H2 e2 => q H2 (e1.trans e2))
    have := of_decide_eq_true hb
    omega
theorem spv_whole {i : Int} {H : Hp} (h0 : 0 ≤ i) (h1 : i ≤ 200) : SpV sp_check_whole [.int i] H .non := fun _ _ _ q _ => ⟨i, rfl, h0, h1, q⟩
def sp_count_rows : Sp := fun vs H Q _ => ∃ W G : Nat, vs = [.int (W : Int), .int (G : Int)] ∧ W ≤ 200 ∧ G ≤ 200 ∧ RetLL (rowsL W G) H Q
theorem ok_count_rows (T : Tx K mg) : FnOk P w K mg base CX0 1 T.a_count_rows T.d_count_rows ["whole", "greatest"] sp_count_rows := by
  refine T.F_count_rows.ok sc_count_rows (fun vs H Q E h => ?_) (fun cdv A outer s H vs Q E hr h => ?_)
  · obtain ⟨W, G, rfl, _⟩ := h
    rfl
  · obtain ⟨W, G, rfl, hW, hG, q⟩ := h
    refine ⟨_, (pss_cons (ps_set (i := 2) sc_count_rows.nd rfl (Or.inl rfl) (pe_lst (pa_cons (pe_op op_cat (pe_lst (pa_cons pe_int pa_nil)) (pe_op op_rep (pe_lst (pa_cons pe_int pa_nil)) (pv 0))) pa_nil)))
    (pss_cons (ps_for PassesOwn.never rfl (pi_range2 (by rfl) T.n_range (pa_cons pe_int (pa_cons (pe_op op_add (pv 1) pe_int) pa_nil))) (pg_name (i := 3) sc_count_rows.nd rfl (Or.inl rfl))
      (pss_cons (ps_set (i := 4) sc_count_rows.nd rfl (Or.inl rfl) (pe_callTy (listK (K := K) rfl) (by rfl) T.n_list (by decide +kernel) (pa_cons (pe_ix (ixlK (K := K) rfl) (pv 2) (pe_op op_sub (pv 3) pe_int) (fun _ _ => rfl)) pa_nil)))
      (pss_cons (ps_for PassesOwn.never rfl (pi_range2 (by rfl) T.n_range (pa_cons (pv 3) (pa_cons (pe_op op_add (pv 0) pe_int) pa_nil))) (pg_name (i := 5) sc_count_rows.nd rfl (Or.inl rfl))
        (pss_one (ps_augL (K := K) rfl (pv 4) (pv 5) (pe_ix (ixlK (K := K) rfl) (pv 4) (pe_op op_sub (pv 5) (pv 3)) (fun _ _ => rfl)) ip_add)))
      (pss_one (ps_expr (pe_bm PySem.F.plainAttrs_list PySem.F.slot_list_append PySem.F.type_list_append mt_append (pv 2) (pa_cons (pv 4) pa_nil)))))))
    (pss_one (ps_ret (pv 2))))), ?_⟩
    refine q_asgP (ep_lst (eap_consL (zs := (rowL W 0).map V.int) (el_is (el_catNN (zs := [V.int 1]) (ws := (List.replicate W (0 : Int)).map V.int) (el_lst (ea_cons ev_c ea_nil) (by show 1 ≤ 100000; decide)) (el_is (el_repZ (k := (W : Int)) (el_lst (ea_cons ev_c ea_nil) (by show 1 ≤ 100000; decide)) (ev_var rfl) ⟨by omega, by omega⟩) (by rw [Int.toNat_natCast])) (by rw [List.length_map, List.length_replicate]; show 1 + W ≤ 100000; omega)) (by rw [row_zero]; rfl)) eap_nil) (mono_consL mono_nil) (fun vs H1 hv => by
      obtain ⟨_, _, rfl, _, _, rfl⟩ := hv
      show 1 ≤ 100000
      decide)) fun v H1 e1 hv => ?_
    obtain ⟨p, vs, rfl, np, hp, r, _, rfl, nr, hr0, rfl⟩ := hv
    refine q_forR2 (lo := 1) (n := (G : Int) + 1) (ea_cons ev_c (ea_cons (ev_rI0 (ev_var rfl) ev_c) ea_nil)) ⟨by decide, by decide, by omega, by omega⟩
      (fun i σ' H' => ∃ (zs : List V) (y3 y4 y5 : Option V), σ' = [some (.int (W : Int)), some (.int (G : Int)), some (.ref p), y3, y4, y5] ∧ Ex H H' ∧ H' p = some (.lst zs) ∧ Lls H' zs (rowsL W i) ∧ ∀ z ∈ zs, z ≠ .ref p)
      (fun H2 e2 => ⟨_, none, none, none, rfl, e1.trans e2, e2 _ _ hp, .cons (e2 _ _ hr0) .nil, fun z hz => by
        rw [List.mem_singleton.mp hz]
        intro e
        cases e
        have h1 : H1 p = _ := hr0
        rw [hp, row_zero] at h1
        cases h1⟩) (fun i σ' H' hi hP => ?_) (fun σ' H' hP => ?_)
    · obtain ⟨zs, y3, y4, y5, rfl, eH, hp', hL, hne⟩ := hP
      have ll := hL.len
      have lr : (rowsL W i).length = i + 1 := by unfold rowsL; rw [List.length_map, List.length_range]
      obtain ⟨qa, g1, g2⟩ := hL.get (rowsL_get (W := W) (Nat.le_refl i))
      refine q_asgL (xs := (rowL W i).map V.int) (el_callB1 (evP_row (L := rowsL W i) (i := i) (evP_LL rfl hp' hL) (fun H2 e2 => ev_is (ev_rI0 (ev_var rfl) ev_c) (by congr 1; omega)) (rowsL_get (Nat.le_refl i)))) fun o H2 no e2 ho => ?_
      have noH : H o = none := fresh_back eH no
      have nop : p ≠ o := ne_fresh0' hp' no
      refine q_forR2 (lo := 1 + (i : Int)) (n := (W : Int) + 1) (ea_cons (ev_var rfl) (ea_cons (ev_rI0 (ev_var rfl) ev_c) ea_nil)) ⟨by omega, by omega, by omega, by omega⟩
        (fun t σ' H' => ∃ y5 : Option V, σ' = [some (V.int (W : Int)), some (.int (G : Int)), some (.ref p), some (.int (1 + (i : Int))), some (.ref o), y5] ∧ Ex H H' ∧ H' p = some (.lst zs) ∧ Lls H' zs (rowsL W i) ∧ (∀ z ∈ zs, z ≠ .ref o) ∧ Ll H' o (halfR W i t))
        (fun H3 e3 => ⟨_, rfl, (eH.trans e2).trans e3, (e2.trans e3) _ _ hp', hL.mono (e2.trans e3), hL.ne no, by rw [halfR_zero]; exact e3 _ _ ho⟩) (fun t σ' H3 ht hP => ?_) (fun σ' H3 hP => ?_)
      · obtain ⟨y5, rfl, eH3, hp3, hL3, hno, ho3⟩ := hP
        have ix : (1 + (i : Int) + (t : Int)) = ((i + 1 + t : Nat) : Int) := by omega
        have lh := halfR_len W i t
        refine s_augL' (k := i + 1 + t) (a := (halfR W i t).getD (i + 1 + t) 0) (b := (halfR W i t).getD t 0) (ev_var rfl) (ev_is (ev_var rfl) (by rw [ix])) (ev_is (ev_ixJ (j := t) (ev_var rfl) (ev_is (ev_rI0 (ev_var rfl) (ev_var rfl)) (by congr 1; omega)) (Ll.sq ho3) (by omega)) rfl) ho3 (by
          rw [List.getD, List.getElem?_eq_getElem (by omega)]
          rfl) fun H4 e4 => ?_
        refine ⟨_, rfl, (eH3.trans e4).mut noH, ?_, ?_, hno, ?_⟩
        · rw [upd_ne nop]
          exact e4 _ _ hp3
        · exact (hL3.mono e4).upd hno
        · show upd H4 o _ o = _
          rw [upd_same, halfR_step (by omega)]
      · obtain ⟨y5, rfl, eH3, hp3, hL3, hno, ho3⟩ := hP
        rw [halfR_full (by omega)] at ho3
        refine s_app hp3 (ev_var rfl) (ev_var rfl) (by omega) fun H4 e4 => ?_
        have npp : ∀ z ∈ zs ++ [V.ref o], z ≠ .ref p := fun z hz => by
          rcases List.mem_append.mp hz with m | m
          · exact hne z m
          · rw [List.mem_singleton.mp m]
            intro e
            cases e
            exact nop rfl
        refine ⟨zs ++ [.ref o], _, _, _, rfl, (eH3.trans e4).mut np, upd_same, ?_, npp⟩
        rw [rowsL_succ]
        exact ((hL3.mono e4).snoc (e4 _ _ ho3)).upd npp
    · obtain ⟨zs, y3, y4, y5, rfl, eH, hp', hL, hne⟩ := hP
      rw [show ((G : Int) + 1 - 1).toNat = G by omega] at hL
      exact s_ret (ev_var rfl) fun H3 e3 => q p zs H3 np (eH.trans e3) (e3 _ _ hp') (hL.mono e3)
theorem evP_counts {W G : Nat} {σ : L2.St} {H : Hp} {ta : TA} {E : XK} (h : EvA ta σ H [.int (W : Int), .int (G : Int)]) (hW : W ≤ 200) (hG : G ≤ 200) : EvP (tCall sp_count_rows [] E ta) σ H (IsLL (rowsL W G)) :=
  evP_callLL h fun H1 e Q q E => ⟨W, G, rfl, hW, hG, q⟩
/-- what how_many is asked for: the whole, and a most or None -/
def mostV (W : Nat) : V → Nat
  | .int i => min i.toNat W
  | _ => W
def sp_how_many : Sp := fun vs H Q _ => ∃ (W : Nat) (m : V), vs = [.int (W : Int), m] ∧ W ≤ 200 ∧ (m = .non ∨ ∃ i : Int, m = .int i ∧ 0 ≤ i) ∧ RetV (.int ((pt (mostV W m) W : Nat) : Int)) H Q
theorem ok_how_many (T : Tx K mg) : FnOk P w K mg base CX0 5 T.a_how_many T.d_how_many ["whole", "most"] sp_how_many := by
  refine T.F_how_many.ok sc_how_many (fun vs H Q E h => ?_) (fun cdv A outer s H vs Q E hr h => ?_)
  · obtain ⟨W, m, rfl, _⟩ := h
    rfl
  · obtain ⟨W, m, rfl, hW, hm, q⟩ := h
    refine ⟨_, (pss_cons (ps_expr (pe_call (ok_check_whole T) (hr.mono (by decide)) (by rfl) T.g_check_whole T.F_check_whole.kp T.b_check_whole .nil pass0 (pa_cons (pv 0) pa_nil)))
    (pss_cons (ps_set (i := 2) sc_how_many.nd rfl (Or.inl rfl) (pv 0))
    (pss_cut (ps_if (pt_cmpR op_notN (pv 1) pe_non (nomark _))
      (pss_cons (ps_expr (pe_call (ok_check_number T) (hr.mono (by decide)) (by rfl) T.g_check_number T.F_check_number.kp T.b_check_number .nil pass0 (pa_cons (pv 1) pa_nil)))
      (pss_one (ps_set (i := 2) sc_how_many.nd rfl (Or.inl rfl) (pe_callB (call_min2 rfl) (by rfl) T.n_min (by decide +kernel) (pa_cons (pv 1) (pa_cons (pv 0) pa_nil))))))
      pss_nil)
    (pss_one (ps_ret (pe_ix (ixlK (K := K) rfl) (pe_ix (ixlK (K := K) rfl) (pe_call (ok_count_rows T) (hr.mono (by decide)) (by rfl) T.g_count_rows T.F_count_rows.kp T.b_count_rows .nil pass0 (pa_cons (pv 0) (pa_cons (pv 2) pa_nil))) (pv 2) (fun _ _ => rfl)) (pv 0) (fun _ _ => rfl))))))), ?_⟩
    refine q_drop (ev_call (ea_cons (ev_var rfl) ea_nil) (spv_whole (by omega) (by omega))) fun H1 e1 => ?_
    refine q_asg (ev_var rfl) fun H2 e2 => ?_
    have hml : mostV W m ≤ W := by
      unfold mostV
      split
      · exact Nat.min_le_right _ _
      · exact Nat.le_refl _
    refine q_cut (M := fun σ' H' => σ' = [some (.int (W : Int)), some m, some (.int ((mostV W m : Nat) : Int))] ∧ Ex H H') (s_when (et_test (ev_notN (ev_var rfl))) (fun hb H3 e3 => ?_) (fun hb H3 e3 => ?_)) fun σ' H' hM => ?_
    · rcases hm with rfl | ⟨i, rfl, h0⟩
      · cases hb
      · refine q_drop (ev_call (ea_cons (ev_var rfl) ea_nil) (spv_checkn h0)) fun H4 e4 => ?_
        refine s_asg (ev_is (ev_cb (ea_cons (ev_var rfl) (ea_cons (ev_var rfl) ea_nil)) rc_min2) ?_) fun H5 e5 => ⟨rfl, (e1.trans e2).trans (e3.trans (e4.trans e5))⟩
        show V.int (if (W : Int) < i then (W : Int) else i) = V.int ((min i.toNat W : Nat) : Int)
        congr 1
        split <;> omega
    · rcases hm with rfl | ⟨i, rfl, h0⟩
      · exact ⟨rfl, (e1.trans e2).trans e3⟩
      · cases hb
    · obtain ⟨rfl, eH⟩ := hM
      refine s_ret (ev_item (i := W) (evP_row (i := mostV W m) (evP_counts (ea_cons (ev_var rfl) (ea_cons (ev_var rfl) ea_nil)) hW (by omega)) (fun _ _ => ev_var rfl) (rowsL_get (Nat.le_refl _))) (fun _ _ => ev_var rfl) (rowL_get (Nat.le_refl W))) fun H5 e5 => q H5 (eH.trans e5)
theorem spv_many {W : Nat} {m : V} {H : Hp} (hW : W ≤ 200) (hm : m = .non ∨ ∃ i : Int, m = .int i ∧ 0 ≤ i) : SpV sp_how_many [.int (W : Int), m] H (.int ((pt (mostV W m) W : Nat) : Int)) := fun _ _ _ q _ => ⟨W, m, rfl, hW, hm, q⟩
end
/-! ### the numbers of partings -/
/-- the number of a parting -/
def nbr : List Int → Nat
  | [] => 0
  | x :: r => pt (x.toNat - 1) (x + r.sum).toNat + nbr r
theorem nbr_cons (x : Int) (r : List Int) : nbr (x :: r) = pt (x.toNat - 1) (x + r.sum).toNat + nbr r := rfl
theorem IsP_tail {x : Int} {r : List Int} (h : IsP (x :: r)) : IsP r ∧ 0 ≤ r.sum := by
  have h1 := h.1 x List.mem_cons_self
  have h2 := sum_nn (p := r) fun y hy => by have := h.1 y (List.mem_cons_of_mem _ hy); omega
  have h3 := h.2.2
  rw [List.sum_cons] at h3
  exact ⟨⟨fun y hy => h.1 y (List.mem_cons_of_mem _ hy), (List.pairwise_cons.mp h.2.1).2, by omega⟩, h2⟩
theorem pt_down {k n : Nat} (hk : 0 < k) (hn : k ≤ n) : pt k n = pt (k - 1) n + pt k (n - k) := by
  obtain ⟨m, rfl⟩ : ∃ m, k = m + 1 := ⟨k - 1, by omega⟩
  exact pt_ge hn
/-- the numbers of those that begin with x lie between -/
theorem nbr_between : ∀ {r : List Int} {x : Int}, IsP (x :: r) → nbr (x :: r) < pt x.toNat (x + r.sum).toNat
  | [], x, h => by
    have h1 := h.1 x List.mem_cons_self
    rw [nbr_cons, List.sum_nil, Int.add_zero, pt_down (k := x.toNat) (by omega) (Nat.le_refl _), Nat.sub_self, pt_at0]
    show pt (x.toNat - 1) x.toNat + 0 < _
    omega
  | y :: s, x, h => by
    have h1 := h.1 x List.mem_cons_self
    have hy := (List.pairwise_cons.mp h.2.1).1 y List.mem_cons_self
    obtain ⟨it, st⟩ := IsP_tail h
    have ih := nbr_between it
    have y1 := it.1 y List.mem_cons_self
    rw [nbr_cons, pt_down (k := x.toNat) (n := (x + (y :: s).sum).toNat) (by omega) (by omega)]
    have e : (x + (y :: s).sum).toNat - x.toNat = (y + s.sum).toNat := by rw [List.sum_cons]; rw [List.sum_cons] at st; omega
    rw [e]
    have := pt_mono (n := (y + s.sum).toNat) (show y.toNat ≤ x.toNat by omega)
    omega
theorem nbr_lt {p : List Int} (h : IsP p) : nbr p < pt p.sum.toNat p.sum.toNat := by
  cases p with
  | nil => decide
  | cons x r =>
    have h1 := nbr_between h
    obtain ⟨it, st⟩ := IsP_tail h
    have x1 := h.1 x List.mem_cons_self
    rw [List.sum_cons]
    have := pt_mono (n := (x + r.sum).toNat) (show x.toNat ≤ (x + r.sum).toNat by omega)
    omega
/-- lesser ones ahead -/
theorem nbr_order : ∀ {p q : List Int}, IsP p → IsP q → p.sum = q.sum → (p < q ↔ nbr p < nbr q) ∧ (nbr p = nbr q → p = q)
  | [], [], _, _, _ => ⟨⟨fun h => (by cases h), fun h => (by cases h)⟩, fun _ => rfl⟩
  | [], y :: s, _, hq, e => by
    exfalso
    obtain ⟨_, st⟩ := IsP_tail hq
    have y1 := hq.1 y List.mem_cons_self
    rw [List.sum_cons] at e
    have e' : (0 : Int) = y + s.sum := e
    omega
  | x :: r, [], hp, _, e => by
    exfalso
    obtain ⟨_, st⟩ := IsP_tail hp
    have y1 := hp.1 x List.mem_cons_self
    rw [List.sum_cons] at e
    have e' : x + r.sum = (0 : Int) := e
    omega
  | x :: r, y :: s, hp, hq, e => by
    obtain ⟨ip, sp⟩ := IsP_tail hp
    obtain ⟨iq, sq⟩ := IsP_tail hq
    have x1 := hp.1 x List.mem_cons_self
    have y1 := hq.1 y List.mem_cons_self
    have bp := nbr_between hp
    have bq := nbr_between hq
    rw [List.sum_cons, List.sum_cons] at e
    have far : ∀ {x y : Int} {r s : List Int}, 1 ≤ x → x < y → x + r.sum = y + s.sum → nbr (x :: r) < pt x.toNat (x + r.sum).toNat → nbr (x :: r) < nbr (y :: s) := fun {x y r s} h1 h2 h3 h4 => by
      rw [nbr_cons y s, ← h3]
      have := pt_mono (n := (x + r.sum).toNat) (show x.toNat ≤ y.toNat - 1 by omega)
      omega
    rw [List.cons_lt_cons_iff]
    rcases Int.lt_trichotomy x y with c | c | c
    · have := far x1 c e bp
      exact ⟨⟨fun _ => this, fun _ => .inl c⟩, fun z => by omega⟩
    · subst c
      have er : r.sum = s.sum := by omega
      obtain ⟨i1, i2⟩ := nbr_order ip iq er
      rw [nbr_cons, nbr_cons, er]
      refine ⟨⟨fun h => ?_, fun h => .inr ⟨rfl, i1.mpr (by omega)⟩⟩, fun z => by rw [i2 (by omega)]⟩
      rcases h with h | ⟨_, h⟩
      · omega
      · have := i1.mp h
        omega
    · have := far y1 c e.symm bq
      refine ⟨⟨fun h => ?_, fun h => by omega⟩, fun z => by omega⟩
      rcases h with h | ⟨h, _⟩
      · omega
      · omega
/-- the sum over the lesser first parts -/
theorem lesser_sum {n : Nat} (hn : 0 < n) : ∀ k : Nat, k < n → ((List.range k).map fun l => pt (l + 1) (n - (l + 1))).sum = pt k n
  | 0, _ => (pt_z0 hn).symm
  | k + 1, h => by
    have ih := lesser_sum hn k (by omega)
    rw [List.range_succ, List.map_append, List.sum_append_nat, ih, pt_ge (show k + 1 ≤ n by omega)]
    simp
/-! ### stairparts.counting: number_of, _first_part, parting_of -/
section
variable {P : Program} {w : World} {K : PySem.W.Frag} {mg : Str → Option Value} {base : Heap}
def sp_number_of : Sp := fun vs H Q _ => ∃ (a : Addr) (ns : List Int), vs = [.ref a] ∧ Ll H a ns ∧ IsP ns ∧ RetV (.int ((nbr ns : Nat) : Int)) H Q
theorem ok_number_of (T : Tx K mg) : FnOk P w K mg base CX0 4 T.a_number_of T.d_number_of ["parting"] sp_number_of := by
  refine T.F_number_of.ok sc_number_of (fun vs H Q E h => ?_) (fun cdv A outer s H vs Q E hr h => ?_)
  · obtain ⟨a, ns, rfl, _⟩ := h
    rfl
  · obtain ⟨a, ns, rfl, hL, hp, q⟩ := h
    refine ⟨_, (pss_cons (ps_expr (pe_call (ok_check_parting T) (hr.mono (by decide)) (by rfl) T.g_check_parting T.F_check_parting.kp T.b_check_parting .nil pass0 (pa_cons (pv 0) pa_nil)))
    (pss_cons (ps_set (i := 1) sc_number_of.nd rfl (Or.inl rfl) (pe_callB (sumK (K := K) rfl rfl) (by rfl) T.n_sum (by decide +kernel) (pa_cons (pv 0) pa_nil)))
    (pss_cons (ps_set (i := 2) sc_number_of.nd rfl (Or.inl rfl) (pe_call (ok_count_rows T) (hr.mono (by decide)) (by rfl) T.g_count_rows T.F_count_rows.kp T.b_count_rows .nil pass0 (pa_cons (pv 1) (pa_cons (pe_callBK (maxDK (K := K) rfl rfl hr.two) (by rfl) T.n_max (by decide +kernel) (pa_cons (pv 0) pa_nil) (pk_cons pe_int pk_nil)) pa_nil))))
    (pss_cons (ps_set (i := 3) sc_number_of.nd rfl (Or.inl rfl) pe_int)
    (pss_cons (ps_for PassesOwn.never rfl (pi_list (pv 0)) (pg_name (i := 4) sc_number_of.nd rfl (Or.inl rfl))
      (pss_cons (ps_aug (i := 3) sc_number_of.nd rfl (Or.inl rfl) (pe_ix (ixlK (K := K) rfl) (pe_ix (ixlK (K := K) rfl) (pv 2) (pe_op op_sub (pv 4) pe_int) (fun _ _ => rfl)) (pv 1) (fun _ _ => rfl)) ip_add)
      (pss_one (ps_aug (i := 1) sc_number_of.nd rfl (Or.inl rfl) (pv 4) ip_sub))))
    (pss_one (ps_ret (pv 3)))))))), ?_⟩
    have hl := hp.len
    have s0 := sum_nn (p := ns) fun x hx => by have := hp.1 x hx; omega
    have m0 := mx_nn ns
    have m1 := mx_le hp
    have s1 := hp.2.2
    refine q_drop (ev_call (ea_cons (ev_var rfl) ea_nil) (spv_check hL hp)) fun H1 e1 => ?_
    refine q_asg (v := .int ((ns.sum.toNat : Nat) : Int)) (ev_is (ev_cb (ea_cons (ev_var rfl) ea_nil) (rc_sum (ex_l e1 hL.sq))) (by congr 1; omega)) fun H2 e2 => ?_
    refine q_asgP (evP_counts (W := ns.sum.toNat) (G := (mx ns).toNat) (ea_cons (ev_var rfl) (ea_cons (ev_is (ev_maxD (m := mx ns) (ea_cons (ev_var rfl) ea_nil) (ea_cons ev_c ea_nil) (ex_l (e1.trans e2) hL.sq) (fun z => ?_) (fun k k1 k2 => ?_)) (by congr 1; omega)) ea_nil)) (by omega) (by omega)) fun v H3 e3 hv => ?_
    · rw [z]
      rfl
    · exact mx_eq (by have := hp.1 k k1; omega) k1 k2
    · obtain ⟨r, rs, rfl, hr1, hR⟩ := hv
      refine q_asg ev_c fun H4 e4 => ?_
      have e14 := ((e1.trans e2).trans e3).trans e4
      refine q_forLn (ev_var rfl) (ex_l e14 hL.sq) (fun i σ' H' => ∃ (c : Nat) (y : Option V), σ' = [some (.ref a), some (.int (ns.drop i).sum), some (.ref r), some (.int (c : Int)), y] ∧ Ex H4 H' ∧ c + nbr (ns.drop i) = nbr ns)
        (fun H5 e5 => ⟨0, none, by rw [List.drop_zero, show ((ns.sum.toNat : Nat) : Int) = ns.sum by omega]; rfl, e5, by rw [List.drop_zero]; omega⟩) (fun i σ' H' _ hP => ?_) (fun i x σ' H' hx hP => ?_) (fun σ' H' hP => ?_)
      · obtain ⟨c, y, rfl, eH, _⟩ := hP
        exact ex_l (e14.trans eH) hL.sq
      · obtain ⟨c, y, rfl, eH, hc⟩ := hP
        obtain ⟨z, hz, rfl⟩ := get_int hx
        have zm := List.mem_of_getElem? hz
        have z1 := hp.1 z zm
        have z2 := mx_mem z zm
        have sd := sum_nn (p := ns.drop (i + 1)) fun x hx => by have := hp.1 x (List.mem_of_mem_drop hx); omega
        have st := sum_nn (p := ns.take i) fun x hx => by have := hp.1 x (List.mem_of_mem_take hx); omega
        have es : ns.sum = (ns.take i).sum + (ns.drop i).sum := by
          conv => lhs; rw [← List.take_append_drop i ns]
          exact sum_append _ _
        rw [drop_one hz] at hc es ⊢
        rw [nbr_cons] at hc
        rw [List.sum_cons] at es ⊢
        refine q_aug rfl (ev_item (i := (z + (ns.drop (i + 1)).sum).toNat) (evP_row (i := z.toNat - 1) (evP_LL rfl ((e4.trans eH) _ _ hr1) (hR.mono (e4.trans eH))) (fun _ _ => ev_is (ev_rI0 (ev_var rfl) ev_c) (by congr 1; omega)) (rowsL_get (by omega))) (fun _ _ => ev_is (ev_var rfl) (by congr 1; omega)) (rowL_get (by omega))) fun H5 e5 => ?_
        refine s_aug rfl (ev_var rfl) fun H6 e6 => ?_
        refine ⟨c + pt (z.toNat - 1) (z + (ns.drop (i + 1)).sum).toNat, some (.int z), ?_, eH.trans (e5.trans e6), by omega⟩
        rw [show z + (ns.drop (i + 1)).sum - z = (ns.drop (i + 1)).sum by omega]
        rfl
      · obtain ⟨c, y, rfl, eH, hc⟩ := hP
        rw [List.drop_of_length_le (by rw [List.length_map]; exact Nat.le_refl _)] at hc
        refine s_ret (ev_var rfl) fun H5 e5 => ?_
        have := q H5 (e14.trans (eH.trans e5))
        rw [← hc] at this
        exact this
theorem spv_number_of {a : Addr} {ns : List Int} {H : Hp} (hL : Ll H a ns) (hp : IsP ns) : SpV sp_number_of [.ref a] H (.int ((nbr ns : Nat) : Int)) := fun H1 e _ q _ => ⟨a, ns, rfl, e _ _ hL, hp, q⟩
/-- the first part of what has the number a among those of n -/
def IsFp (n a k : Nat) : Prop := 0 < k ∧ k ≤ n ∧ a < pt k n ∧ pt (k - 1) n ≤ a
def sp_first_part : Sp := fun vs H Q _ => ∃ (r : Addr) (rs : List V) (W n a : Nat), vs = [.ref r, .int (n : Int), .int (a : Int)] ∧ H r = some (.lst rs) ∧ Lls H rs (rowsL W W) ∧ n ≤ W ∧ 0 < n ∧ a < pt n n ∧ ∀ k, IsFp n a k → RetV (.int (k : Int)) H Q
theorem ok_first_part (T : Tx K mg) : FnOk P w K mg base CX0 1 T.a_first_part T.d_first_part ["rows", "whole", "number"] sp_first_part := by
  refine T.F_first_part.ok sc_first_part (fun vs H Q E h => ?_) (fun cdv A outer s H vs Q E hr h => ?_)
  · obtain ⟨r, rs, W, n, a, rfl, _⟩ := h
    rfl
  · obtain ⟨r, rs, W, n, a, rfl, hr1, hR, hn, n0, ha, q⟩ := h
    refine ⟨_, (pss_cons (ps_set (i := 3) sc_first_part.nd rfl (Or.inl rfl) pe_int)
    (pss_cons (ps_while PassesOwn.never (pt_cmpR op_le (pe_ix (ixlK (K := K) rfl) (pe_ix (ixlK (K := K) rfl) (pv 0) (pv 3) (fun _ _ => rfl)) (pv 1) (fun _ _ => rfl)) (pv 2) (nomark _))
      (pss_one (ps_aug (i := 3) sc_first_part.nd rfl (Or.inl rfl) pe_int ip_add)))
    (pss_one (ps_ret (pv 3))))), ?_⟩
    refine q_asg ev_c fun H1 e1 => ?_
    refine q_while (fun m σ' H' => ∃ k : Nat, m = n - k ∧ 0 < k ∧ k ≤ n ∧ σ' = [some (.ref r), some (.int (n : Int)), some (.int (a : Int)), some (.int (k : Int))] ∧ Ex H H' ∧ pt (k - 1) n ≤ a) (n - 1) ⟨1, rfl, by omega, by omega, rfl, e1, by rw [Nat.sub_self, pt_z0 n0]; omega⟩ fun m σ' H' hW => ?_
    obtain ⟨k, rfl, k0, kn, rfl, eH, hk⟩ := hW
    refine ⟨decide (((pt k n : Nat) : Int) ≤ (a : Int)), et_test (ev_rI0 (ev_item (i := n) (evP_row (i := k) (evP_LL rfl (eH _ _ hr1) (hR.mono eH)) (fun _ _ => ev_var rfl) (rowsL_get (by omega))) (fun _ _ => ev_var rfl) (rowL_get hn)) (ev_var rfl)), fun hb H2 e2 => ?_, fun hb H2 e2 => ?_⟩
    · have hle := of_decide_eq_true hb
      have kn' : k < n := by
        rcases Nat.lt_or_ge k n with c | c
        · exact c
        · have : k = n := by omega
          subst this
          omega
      refine ⟨fun σ2 H2 => ∃ m', m' < n - k ∧ ∃ k : Nat, m' = n - k ∧ 0 < k ∧ k ≤ n ∧ σ2 = [some (.ref r), some (.int (n : Int)), some (.int (a : Int)), some (.int (k : Int))] ∧ Ex H H2 ∧ pt (k - 1) n ≤ a, fun σ2 H2 h => h, ?_⟩
      exact s_aug rfl ev_c fun H3 e3 => ⟨n - (k + 1), by omega, k + 1, rfl, by omega, by omega, rfl, eH.trans (e2.trans e3), by rw [Nat.add_sub_cancel]; omega⟩
    · have hgt := of_decide_eq_false hb
      exact s_ret (ev_var rfl) fun H3 e3 => q k ⟨k0, kn, by omega, hk⟩ H3 (eH.trans (e2.trans e3))
theorem evP_first {r : Addr} {rs : List V} {W n a : Nat} {σ : L2.St} {H : Hp} {ta : TA} {E : XK} (h : EvA ta σ H [.ref r, .int (n : Int), .int (a : Int)]) (hr1 : H r = some (.lst rs)) (hR : Lls H rs (rowsL W W)) (hn : n ≤ W) (n0 : 0 < n) (ha : a < pt n n) :
    EvP (tCall sp_first_part [] E ta) σ H (fun v _ => ∃ k : Nat, v = .int (k : Int) ∧ IsFp n a k) :=
  evP_call h fun H1 e Q q E => ⟨r, rs, W, n, a, rfl, e _ _ hr1, hR.mono e, hn, n0, ha, fun k hk H2 e2 => q _ _ e2 ⟨k, rfl, hk⟩⟩
def sp_parting_of (C : Addr) : Sp := fun vs H Q E => ∃ W a : Nat, vs = [.int (W : Int), .int (a : Int)] ∧ W ≤ 200 ∧ (pt W W ≤ a → ∀ H', Ex H H' → E (.ref C) none H') ∧ (a < pt W W → RetLP (fun p => IsP p ∧ p.sum = (W : Int) ∧ nbr p = a) H Q)
theorem ok_parting_of (T : Tx K mg) : FnOk P w K mg base (L2.CX P w) 5 T.a_parting_of T.d_parting_of ["whole", "number"] (sp_parting_of T.C_NoNumber) := by
  refine T.F_parting_of.okX sc_parting_of (fun vs H Q E h => ?_) (fun cdv A outer s H vs Q E hr h => ?_)
  · obtain ⟨W, a, rfl, _⟩ := h
    rfl
  · obtain ⟨W, a, rfl, hW, qn, qs⟩ := h
    refine ⟨_, (pss_cons (ps_expr (pe_call (ok_check_whole T) (hr.mono (by decide)) (by rfl) T.g_check_whole T.F_check_whole.kp T.b_check_whole .nil pass0 (pa_cons (pv 0) pa_nil)))
    (pss_cons (ps_expr (pe_call (ok_check_number T) (hr.mono (by decide)) (by rfl) T.g_check_number T.F_check_number.kp T.b_check_number .nil pass0 (pa_cons (pv 1) pa_nil)))
    (pss_cons (ps_set (i := 2) sc_parting_of.nd rfl (Or.inl rfl) (pe_call (ok_count_rows T) (hr.mono (by decide)) (by rfl) T.g_count_rows T.F_count_rows.kp T.b_count_rows .nil pass0 (pa_cons (pv 0) (pa_cons (pv 0) pa_nil))))
    (pss_cons (ps_if (pt_cmpR op_ge (pv 1) (pe_ix (ixlK (K := K) rfl) (pe_ix (ixlK (K := K) rfl) (pv 2) (pv 0) (fun _ _ => rfl)) (pv 0) (fun _ _ => rfl)) (nomark _))
      (pss_one (ps_raise rfl (takes_of rfl rfl rfl rfl) (pmk_own PySem.F.excBase_ValueError T.x_NoNumber T.g_NoNumber T.k_NoNumber (raises_own T.s_NoNumber T.t_NoNumber) rfl)))
      pss_nil)
    (pss_cons (ps_set (i := 3) sc_parting_of.nd rfl (Or.inl rfl) (pe_lst pa_nil))
    (pss_cons (ps_set (i := 4) sc_parting_of.nd rfl (Or.inl rfl) (pv 0))
    (pss_cons (ps_set (i := 5) sc_parting_of.nd rfl (Or.inl rfl) (pv 1))
    (pss_cons (ps_while (passes_of rfl) (pt_cmpR op_gt (pv 4) pe_int (nomark _))
      (pss_cons (ps_set (i := 6) sc_parting_of.nd rfl (Or.inl rfl) (pe_call (ok_first_part T) (hr.mono (by decide)) (by rfl) T.g_first_part T.F_first_part.kp T.b_first_part .nil pass0 (pa_cons (pv 2) (pa_cons (pv 4) (pa_cons (pv 5) pa_nil)))))
      (pss_cons (ps_expr (pe_bm PySem.F.plainAttrs_list PySem.F.slot_list_append PySem.F.type_list_append mt_append (pv 3) (pa_cons (pv 6) pa_nil)))
      (pss_cons (ps_aug (i := 5) sc_parting_of.nd rfl (Or.inl rfl) (pe_ix (ixlK (K := K) rfl) (pe_ix (ixlK (K := K) rfl) (pv 2) (pe_op op_sub (pv 6) pe_int) (fun _ _ => rfl)) (pv 4) (fun _ _ => rfl)) ip_sub)
      (pss_one (ps_aug (i := 4) sc_parting_of.nd rfl (Or.inl rfl) (pv 6) ip_sub))))))
    (pss_one (ps_ret (pv 3))))))))))), ?_⟩
    refine q_drop (ev_call (ea_cons (ev_var rfl) ea_nil) (spv_whole (by omega) (by omega))) fun H1 e1 => ?_
    refine q_drop (ev_call (ea_cons (ev_var rfl) ea_nil) (spv_checkn (by omega))) fun H2 e2 => ?_
    refine q_asgP (evP_counts (W := W) (G := W) (ea_cons (ev_var rfl) (ea_cons (ev_var rfl) ea_nil)) hW hW) fun v H3 e3 hv => ?_
    obtain ⟨r, rs, rfl, hr1, hR⟩ := hv
    have e13 := (e1.trans e2).trans e3
    refine q_when (b := decide (((pt W W : Nat) : Int) ≤ (a : Int))) (et_test (ev_rI0 (ev_var rfl) (ev_item (i := W) (evP_row (i := W) (evP_LL rfl hr1 hR) (fun _ _ => ev_var rfl) (rowsL_get (Nat.le_refl _))) (fun _ _ => ev_var rfl) (rowL_get (Nat.le_refl _))))) (fun hb H4 e4 => ?_) (fun hb H4 e4 => ?_)
    · show E (.ref T.C_NoNumber) none H4
      have := of_decide_eq_true hb
      exact qn (by omega) H4 (e13.trans e4)
    · have hlt := of_decide_eq_false hb
      refine q_asgL (xs := []) (el_lst ea_nil (by decide)) fun p H5 np e5 hp => ?_
      have npH : H p = none := fresh_back (e13.trans e4) np
      refine q_asg (ev_var rfl) fun H6 e6 => ?_
      refine q_asg (ev_var rfl) fun H7 e7 => ?_
      have e37 := (e4.trans e5).trans (e6.trans e7)
      have nrp : r ≠ p := fun z => by
        have := e4 _ _ hr1
        rw [z, np] at this
        cases this
      refine q_while (fun m σ' H' => ∃ (f : List Int) (b : Nat) (y : Option V), σ' = [some (.int (W : Int)), some (.int (a : Int)), some (.ref r), some (.ref p), some (.int (m : Int)), some (.int (b : Int)), y] ∧ Ex H H' ∧ H' r = some (.lst rs) ∧ Lls H' rs (rowsL W W) ∧ (∀ z ∈ rs, z ≠ .ref p) ∧ Ll H' p f ∧ IsP f ∧ f.sum + (m : Int) = W ∧
          (∀ x ∈ f, b < pt x.toNat m) ∧ b < pt m m ∧ ∀ g : List Int, IsP (f ++ g) → g.sum = (m : Int) → nbr g = b → nbr (f ++ g) = a) W
        ⟨[], a, none, rfl, e13.trans e37, e37 _ _ hr1, hR.mono e37, ?_, (e6.trans e7) _ _ hp, isPart_iff.mp (by decide +kernel), by simp, (fun x hx => by cases hx), by omega, fun g _ _ hg => hg⟩ fun m σ' H' hW' => ?_
      · intro z hz e
        obtain ⟨k, hk, ek⟩ := List.mem_iff_getElem.mp hz
        obtain ⟨qa, l, h1, _, h3⟩ := hR.at (k := k) (by rw [List.getElem?_eq_getElem hk, ek])
        rw [e] at h1
        cases h1
        have := e4 _ _ h3
        rw [np] at this
        cases this
      · obtain ⟨f, b, y, rfl, eH, hr2, hR2, hne, hf, hfp, hfs, hfx, hb', hfin⟩ := hW'
        refine ⟨decide ((m : Int) > 0), et_test (ev_rI0 (ev_var rfl) ev_c), fun hc H8 e8 => ?_, fun hc H8 e8 => ?_⟩
        · have m0 : 0 < m := by have := of_decide_eq_true hc; omega
          have fs0 := sum_nn (p := f) fun x hx => by have := hfp.1 x hx; omega
          have lf := len_le_sum hfp.1
          refine ⟨fun σ2 H2 => ∃ m', m' < m ∧ ∃ (f : List Int) (b : Nat) (y : Option V), σ2 = [some (.int (W : Int)), some (.int (a : Int)), some (.ref r), some (.ref p), some (.int (m' : Int)), some (.int (b : Int)), y] ∧ Ex H H2 ∧ H2 r = some (.lst rs) ∧ Lls H2 rs (rowsL W W) ∧ (∀ z ∈ rs, z ≠ .ref p) ∧ Ll H2 p f ∧ IsP f ∧ f.sum + (m' : Int) = W ∧
            (∀ x ∈ f, b < pt x.toNat m') ∧ b < pt m' m' ∧ ∀ g : List Int, IsP (f ++ g) → g.sum = (m' : Int) → nbr g = b → nbr (f ++ g) = a, fun σ2 H2 h => h, ?_⟩
          refine q_asgP (evP_first (W := W) (ea_cons (ev_var rfl) (ea_cons (ev_var rfl) (ea_cons (ev_var rfl) ea_nil))) (e8 _ _ hr2) (hR2.mono e8) (by omega) m0 hb') fun v H9 e9 hv => ?_
          obtain ⟨k, rfl, k0, km, ha1, ha2⟩ := hv
          have e89 := e8.trans e9
          refine q_app (e89 _ _ hf) (ev_var rfl) (ev_var rfl) (by rw [List.length_map]; omega) fun H10 e10 => ?_
          have e810 := e89.trans e10
          generalize hX : upd H10 p (.lst (f.map V.int ++ [V.int (k : Int)])) = HX
          have xr : HX r = some (.lst rs) := by rw [← hX, upd_ne nrp]; exact e810 _ _ hr2
          have xR : Lls HX rs (rowsL W W) := by rw [← hX]; exact (hR2.mono e810).upd hne
          have xp : Ll HX p (f ++ [(k : Int)]) := by
            rw [← hX]
            show upd H10 p _ p = _
            rw [upd_same, List.map_append]
            rfl
          have xE : Ex H HX := by rw [← hX]; exact (eH.trans e810).mut npH
          refine q_aug rfl (ev_item (i := m) (evP_row (i := k - 1) (evP_LL rfl xr xR) (fun _ _ => ev_is (ev_rI0 (ev_var rfl) ev_c) (by congr 1; omega)) (rowsL_get (by omega))) (fun _ _ => ev_var rfl) (rowL_get (by omega))) fun H11 e11 => ?_
          refine s_aug rfl (ev_var rfl) fun H12 e12 => ?_
          have e1112 := e11.trans e12
          have hd := pt_down k0 km
          refine ⟨m - k, by omega, f ++ [(k : Int)], b - pt (k - 1) m, some (.int (k : Int)), ?_, xE.trans e1112, e1112 _ _ xr, xR.mono e1112, hne, e1112 _ _ xp, ⟨fun x hx => ?_, ?_, ?_⟩, ?_, fun x hx => ?_, ?_, fun g hg hs hn => ?_⟩
          · rw [show ((m - k : Nat) : Int) = (m : Int) - (k : Int) by omega, show ((b - pt (k - 1) m : Nat) : Int) = (b : Int) - ((pt (k - 1) m : Nat) : Int) by omega]
            rfl
          · rcases List.mem_append.mp hx with h | h
            · exact hfp.1 x h
            · rw [List.mem_singleton.mp h]
              omega
          · rw [List.pairwise_append]
            refine ⟨hfp.2.1, List.pairwise_singleton _ _, fun x hx z hz => ?_⟩
            rw [List.mem_singleton.mp hz]
            have h1 := hfx x hx
            have h2 := hfp.1 x hx
            refine Int.not_lt.mp fun hlt => ?_
            have h3 := pt_mono (n := m) (show x.toNat ≤ k - 1 by omega)
            omega
          · rw [sum_append]
            show f.sum + ((k : Int) + 0) ≤ 200
            omega
          · rw [sum_append]
            show f.sum + ((k : Int) + 0) + _ = _
            omega
          · have base : b - pt (k - 1) m < pt k (m - k) := by omega
            rcases List.mem_append.mp hx with h | h
            · have h1 := hfx x h
              have h2 := hfp.1 x h
              have h4 : k ≤ x.toNat := by
                refine Nat.not_lt.mp fun hlt => ?_
                have h3 := pt_mono (n := m) (show x.toNat ≤ k - 1 by omega)
                omega
              have := pt_mono (n := m - k) h4
              omega
            · rw [List.mem_singleton.mp h, Int.toNat_natCast]
              exact base
          · have base : b - pt (k - 1) m < pt k (m - k) := by omega
            have h5 := pt_min k (m - k)
            have h6 := pt_mono (n := m - k) (show min k (m - k) ≤ m - k from Nat.min_le_right _ _)
            omega
          · rw [List.append_assoc] at hg ⊢
            have gs : g.sum = ((m - k : Nat) : Int) := hs
            refine hfin ((k : Int) :: g) hg (by rw [List.sum_cons, gs]; omega) ?_
            rw [nbr_cons, hn, gs, Int.toNat_natCast, show ((k : Int) + ((m - k : Nat) : Int)).toNat = m by omega]
            omega
        · have m0 : m = 0 := by have := of_decide_eq_false hc; omega
          subst m0
          have hb0 : b = 0 := by
            have := pt_at0 0
            omega
          have hfin' := hfin [] (by rw [List.append_nil]; exact hfp) rfl hb0.symm
          rw [List.append_nil] at hfin'
          exact s_ret (ev_var rfl) fun H9 e9 => qs (by omega) p f H9 npH (eH.trans (e8.trans e9)) ((e8.trans e9) _ _ hf) ⟨hfp, by omega, hfin'⟩
end
/-! ### each function of what is bad -/
section
variable {P : Program} {w : World} {K : PySem.W.Frag} {mg : Str → Option Value} {base : Heap}
theorem ok_turned_bad (T : Tx K mg) : FnOk P w K mg base (L2.CX P w) 4 T.a_turned T.d_turned ["parting"] (spB1 K T.C_NoParting) := by
  refine T.F_turned.okX sc_turned (fun vs H Q E h => ?_) (fun cdv A outer s H vs Q E hr h => ?_)
  · obtain ⟨x, rfl, _⟩ := h
    rfl
  · obtain ⟨x, rfl, hx, q⟩ := h
    refine ⟨_, (pss_cons (ps_expr (pe_call (ok_check_bad T) (hr.mono (by decide)) (by rfl) T.g_check_parting T.F_check_parting.kp T.b_check_parting .nil (E := E) (passes_call (takes_of rfl rfl rfl rfl) fun _ _ _ _ h => h) (pa_cons (pv 0) pa_nil))) pss_never), ?_⟩
    exact q_dropX (evx_call (ea_cons (ev_var rfl) ea_nil) (spxB1 hx q))
theorem ok_number_of_bad (T : Tx K mg) : FnOk P w K mg base (L2.CX P w) 4 T.a_number_of T.d_number_of ["parting"] (spB1 K T.C_NoParting) := by
  refine T.F_number_of.okX sc_number_of (fun vs H Q E h => ?_) (fun cdv A outer s H vs Q E hr h => ?_)
  · obtain ⟨x, rfl, _⟩ := h
    rfl
  · obtain ⟨x, rfl, hx, q⟩ := h
    refine ⟨_, (pss_cons (ps_expr (pe_call (ok_check_bad T) (hr.mono (by decide)) (by rfl) T.g_check_parting T.F_check_parting.kp T.b_check_parting .nil (E := E) (passes_call (takes_of rfl rfl rfl rfl) fun _ _ _ _ h => h) (pa_cons (pv 0) pa_nil))) pss_never), ?_⟩
    exact q_dropX (evx_call (ea_cons (ev_var rfl) ea_nil) (spxB1 hx q))
theorem ok_unlike_of_bad (T : Tx K mg) : FnOk P w K mg base (L2.CX P w) 4 T.a_unlike_of T.d_unlike_of ["parting"] (spB1 K T.C_NoParting) := by
  refine T.F_unlike_of.okX sc_unlike_of (fun vs H Q E h => ?_) (fun cdv A outer s H vs Q E hr h => ?_)
  · obtain ⟨x, rfl, _⟩ := h
    rfl
  · obtain ⟨x, rfl, hx, q⟩ := h
    refine ⟨_, (pss_cons (ps_expr (pe_call (ok_check_bad T) (hr.mono (by decide)) (by rfl) T.g_check_parting T.F_check_parting.kp T.b_check_parting .nil (E := E) (passes_call (takes_of rfl rfl rfl rfl) fun _ _ _ _ h => h) (pa_cons (pv 0) pa_nil))) pss_never), ?_⟩
    exact q_dropX (evx_call (ea_cons (ev_var rfl) ea_nil) (spxB1 hx q))
theorem ok_odd_of_bad (T : Tx K mg) : FnOk P w K mg base (L2.CX P w) 4 T.a_odd_of T.d_odd_of ["parting"] (spB1 K T.C_NoParting) := by
  refine T.F_odd_of.okX sc_odd_of (fun vs H Q E h => ?_) (fun cdv A outer s H vs Q E hr h => ?_)
  · obtain ⟨x, rfl, _⟩ := h
    rfl
  · obtain ⟨x, rfl, hx, q⟩ := h
    refine ⟨_, (pss_cons (ps_expr (pe_call (ok_check_bad T) (hr.mono (by decide)) (by rfl) T.g_check_parting T.F_check_parting.kp T.b_check_parting .nil (E := E) (passes_call (takes_of rfl rfl rfl rfl) fun _ _ _ _ h => h) (pa_cons (pv 0) pa_nil))) pss_never), ?_⟩
    exact q_dropX (evx_call (ea_cons (ev_var rfl) ea_nil) (spxB1 hx q))
theorem ok_bends_of_bad (T : Tx K mg) : FnOk P w K mg base (L2.CX P w) 4 T.a_bends_of T.d_bends_of ["parting"] (spB1 K T.C_NoParting) := by
  refine T.F_bends_of.okX sc_bends_of (fun vs H Q E h => ?_) (fun cdv A outer s H vs Q E hr h => ?_)
  · obtain ⟨x, rfl, _⟩ := h
    rfl
  · obtain ⟨x, rfl, hx, q⟩ := h
    refine ⟨_, (pss_cons (ps_expr (pe_call (ok_check_bad T) (hr.mono (by decide)) (by rfl) T.g_check_parting T.F_check_parting.kp T.b_check_parting .nil (E := E) (passes_call (takes_of rfl rfl rfl rfl) fun _ _ _ _ h => h) (pa_cons (pv 0) pa_nil))) pss_never), ?_⟩
    exact q_dropX (evx_call (ea_cons (ev_var rfl) ea_nil) (spxB1 hx q))
theorem ok_unbent_bad (T : Tx K mg) : FnOk P w K mg base (L2.CX P w) 4 T.a_unbent T.d_unbent ["parting"] (spB1 K T.C_NoParting) := by
  refine T.F_unbent.okX sc_unbent (fun vs H Q E h => ?_) (fun cdv A outer s H vs Q E hr h => ?_)
  · obtain ⟨x, rfl, _⟩ := h
    rfl
  · obtain ⟨x, rfl, hx, q⟩ := h
    refine ⟨_, (pss_cons (ps_expr (pe_call (ok_check_bad T) (hr.mono (by decide)) (by rfl) T.g_check_parting T.F_check_parting.kp T.b_check_parting .nil (E := E) (passes_call (takes_of rfl rfl rfl rfl) fun _ _ _ _ h => h) (pa_cons (pv 0) pa_nil))) pss_never), ?_⟩
    exact q_dropX (evx_call (ea_cons (ev_var rfl) ea_nil) (spxB1 hx q))
theorem ok_square_of_bad (T : Tx K mg) : FnOk P w K mg base (L2.CX P w) 4 T.a_square_of T.d_square_of ["parting"] (spB1 K T.C_NoParting) := by
  refine T.F_square_of.okX sc_square_of (fun vs H Q E h => ?_) (fun cdv A outer s H vs Q E hr h => ?_)
  · obtain ⟨x, rfl, _⟩ := h
    rfl
  · obtain ⟨x, rfl, hx, q⟩ := h
    refine ⟨_, (pss_cons (ps_expr (pe_call (ok_check_bad T) (hr.mono (by decide)) (by rfl) T.g_check_parting T.F_check_parting.kp T.b_check_parting .nil (E := E) (passes_call (takes_of rfl rfl rfl rfl) fun _ _ _ _ h => h) (pa_cons (pv 0) pa_nil))) pss_never), ?_⟩
    exact q_dropX (evx_call (ea_cons (ev_var rfl) ea_nil) (spxB1 hx q))
theorem ok_cut_square_bad (T : Tx K mg) : FnOk P w K mg base (L2.CX P w) 5 T.a_cut_square T.d_cut_square ["parting"] (spB1 K T.C_NoParting) := by
  refine T.F_cut_square.okX sc_cut_square (fun vs H Q E h => ?_) (fun cdv A outer s H vs Q E hr h => ?_)
  · obtain ⟨x, rfl, _⟩ := h
    rfl
  · obtain ⟨x, rfl, hx, q⟩ := h
    refine ⟨_, (pss_cons (ps_set (i := 1) sc_cut_square.nd rfl (Or.inr rfl) (pe_call (ok_square_of_bad T) (hr.mono (by decide)) (by rfl) T.g_square_of T.F_square_of.kp T.b_square_of .nil (E := E) (passes_call (takes_of rfl rfl rfl rfl) fun _ _ _ _ h => h) (pa_cons (pv 0) pa_nil))) pss_never), ?_⟩
    exact q_asgX (evx_call (ea_cons (ev_var rfl) ea_nil) (spxB1 hx q))
/-- two, of which one is bad -/
def spB2 (K : PySem.W.Frag) (C : Addr) : Sp := fun vs H _ E => ∃ x y, vs = [x, y] ∧ (BadP K H x ∨ (GoodP H x ∧ BadP K H y)) ∧ ∀ H', Ex H H' → E (.ref C) none H'
theorem spxB2 {C : Addr} {x y : V} {H : Hp} {E : XK} (h : BadP K H x ∨ (GoodP H x ∧ BadP K H y)) (q : ∀ H', Ex H H' → E (.ref C) none H') : ∀ H1, Ex H H1 → ∀ Q : VK, spB2 K C ([x, y] ++ []) H1 Q E := fun _ e _ => ⟨x, y, rfl, h.imp (·.mono e) fun z => ⟨z.1.mono e, z.2.mono e⟩, fun H2 e2 => q H2 (e.trans e2)⟩
theorem ok_check_pair_bad (T : Tx K mg) : FnOk P w K mg base (L2.CX P w) 4 T.a_check_pair T.d_check_pair ["one", "other"] (spB2 K T.C_NoParting) := by
  refine T.F_check_pair.okX sc_check_pair (fun vs H Q E h => ?_) (fun cdv A outer s H vs Q E hr h => ?_)
  · obtain ⟨x, y, rfl, _⟩ := h
    rfl
  · obtain ⟨x, y, rfl, hx | ⟨hx, hy⟩, q⟩ := h
    · refine ⟨_, (pss_cons (ps_expr (pe_call (ok_check_bad T) (hr.mono (by decide)) (by rfl) T.g_check_parting T.F_check_parting.kp T.b_check_parting .nil (E := E) (passes_call (takes_of rfl rfl rfl rfl) fun _ _ _ _ h => h) (pa_cons (pv 0) pa_nil))) pss_never), ?_⟩
      exact q_dropX (evx_call (ea_cons (ev_var rfl) ea_nil) (spxB1 hx q))
    · refine ⟨_, (pss_cons (ps_expr (pe_call (ok_check_parting T) (hr.mono (by decide)) (by rfl) T.g_check_parting T.F_check_parting.kp T.b_check_parting .nil pass0 (pa_cons (pv 0) pa_nil)))
    (pss_cons (ps_expr (pe_call (ok_check_bad T) (hr.mono (by decide)) (by rfl) T.g_check_parting T.F_check_parting.kp T.b_check_parting .nil (E := E) (passes_call (takes_of rfl rfl rfl rfl) fun _ _ _ _ h => h) (pa_cons (pv 1) pa_nil))) pss_never)), ?_⟩
      obtain ⟨a, ns, rfl, hL, hp⟩ := hx
      refine q_drop (ev_call (ea_cons (ev_var rfl) ea_nil) (spv_check hL hp)) fun H1 e1 => ?_
      exact q_dropX (evx_call (ea_cons (ev_var rfl) ea_nil) (spxB1 (hy.mono e1) fun H2 e2 => q H2 (e1.trans e2)))
theorem ok_lacking_count_bad (T : Tx K mg) : FnOk P w K mg base (L2.CX P w) 5 T.a_lacking_count T.d_lacking_count ["one", "other"] (spB2 K T.C_NoParting) := by
  refine T.F_lacking_count.okX sc_lacking_count (fun vs H Q E h => ?_) (fun cdv A outer s H vs Q E hr h => ?_)
  · obtain ⟨x, y, rfl, _⟩ := h
    rfl
  · obtain ⟨x, y, rfl, h, q⟩ := h
    refine ⟨_, (pss_cons (ps_expr (pe_call (ok_check_pair_bad T) (hr.mono (by decide)) (by rfl) T.g_check_pair T.F_check_pair.kp T.b_check_pair .nil (E := E) (passes_call (takes_of rfl rfl rfl rfl) fun _ _ _ _ h => h) (pa_cons (pv 0) (pa_cons (pv 1) pa_nil)))) pss_never), ?_⟩
    exact q_dropX (evx_call (ea_cons (ev_var rfl) (ea_cons (ev_var rfl) ea_nil)) (spxB2 h q))
theorem ok_lies_above_bad (T : Tx K mg) : FnOk P w K mg base (L2.CX P w) 6 T.a_lies_above T.d_lies_above ["one", "other"] (spB2 K T.C_NoParting) := by
  refine T.F_lies_above.okX sc_lies_above (fun vs H Q E h => ?_) (fun cdv A outer s H vs Q E hr h => ?_)
  · obtain ⟨x, y, rfl, _⟩ := h
    rfl
  · obtain ⟨x, y, rfl, h, q⟩ := h
    refine ⟨_, (pss_one (ps_ret (pe_cmpR op_isN (pe_call (ok_lacking_count_bad T) (hr.mono (by decide)) (by rfl) T.g_lacking_count T.F_lacking_count.kp T.b_lacking_count .nil (E := E) (passes_call (takes_of rfl rfl rfl rfl) fun _ _ _ _ h => h) (pa_cons (pv 0) (pa_cons (pv 1) pa_nil))) pe_non (nomark _)))), ?_⟩
    exact s_retX (evx_op (evx_call (ea_cons (ev_var rfl) (ea_cons (ev_var rfl) ea_nil)) (spxB2 h q)))
theorem ok_way_down_bad (T : Tx K mg) : FnOk P w K mg base (L2.CX P w) 6 T.a_way_down T.d_way_down ["one", "other"] (spB2 K T.C_NoParting) := by
  refine T.F_way_down.okX sc_way_down (fun vs H Q E h => ?_) (fun cdv A outer s H vs Q E hr h => ?_)
  · obtain ⟨x, y, rfl, _⟩ := h
    rfl
  · obtain ⟨x, y, rfl, h, q⟩ := h
    refine ⟨_, (pss_cons (ps_if (pt_cmpR op_notN (pe_call (ok_lacking_count_bad T) (hr.mono (by decide)) (by rfl) T.g_lacking_count T.F_lacking_count.kp T.b_lacking_count .nil (E := E) (passes_call (takes_of rfl rfl rfl rfl) fun _ _ _ _ h => h) (pa_cons (pv 0) (pa_cons (pv 1) pa_nil))) pe_non (nomark _))
      (pss_one (ps_ret pe_non))
      pss_nil) pss_never), ?_⟩
    exact q_ifX (etx_test (evx_op (evx_call (ea_cons (ev_var rfl) (ea_cons (ev_var rfl) ea_nil)) (spxB2 h q))))
def spB3 (K : PySem.W.Frag) (C : Addr) : Sp := fun vs H _ E => ∃ x y z, vs = [x, y, z] ∧ BadP K H x ∧ ∀ H', Ex H H' → E (.ref C) none H'
theorem ok_let_down_bad (T : Tx K mg) : FnOk P w K mg base (L2.CX P w) 4 T.a_let_down T.d_let_down ["parting", "first", "second"] (spB3 K T.C_NoParting) := by
  refine T.F_let_down.okX sc_let_down (fun vs H Q E h => ?_) (fun cdv A outer s H vs Q E hr h => ?_)
  · obtain ⟨x, y, z, rfl, _⟩ := h
    rfl
  · obtain ⟨x, y, z, rfl, hx, q⟩ := h
    refine ⟨_, (pss_cons (ps_expr (pe_call (ok_check_bad T) (hr.mono (by decide)) (by rfl) T.g_check_parting T.F_check_parting.kp T.b_check_parting .nil (E := E) (passes_call (takes_of rfl rfl rfl rfl) fun _ _ _ _ h => h) (pa_cons (pv 0) pa_nil))) pss_never), ?_⟩
    exact q_dropX (evx_call (ea_cons (ev_var rfl) ea_nil) (spxB1 hx q))
def spBN (K : PySem.W.Frag) (C : Addr) : Sp := fun vs H _ E => ∃ x, vs = [x] ∧ BadN K H x ∧ ∀ H', Ex H H' → E (.ref C) none H'
theorem spxBN {C : Addr} {x : V} {H : Hp} {E : XK} (h : BadN K H x) (q : ∀ H', Ex H H' → E (.ref C) none H') : ∀ H1, Ex H H1 → ∀ Q : VK, spBN K C ([x] ++ []) H1 Q E := fun _ e _ => ⟨x, rfl, h.mono e, fun H2 e2 => q H2 (e.trans e2)⟩
theorem ok_check_number_bad (T : Tx K mg) : FnOk P w K mg base (L2.CX P w) 3 T.a_check_number T.d_check_number ["thing"] (spBN K T.C_NoNumber) := by
  refine T.F_check_number.okX sc_check_number (fun vs H Q E h => ?_) (fun cdv A outer s H vs Q E hr h => ?_)
  · obtain ⟨x, rfl, _⟩ := h
    rfl
  · obtain ⟨x, rfl, ⟨hn, hi⟩, q⟩ := h
    refine ⟨_, (pss_one (ps_if (PW.pt (pw_or (pt_not (pt_val (pe_call (ok_is_number T) (hr.mono (by decide)) (by rfl) T.g_is_number T.F_is_number.kp T.b_is_number .nil pass0 (pa_cons (pv 0) pa_nil)))) (pw_or1 (pt_cmpR op_lt (pv 0) pe_int (nomark _)))))
      (pss_one (ps_raise rfl (takes_of rfl rfl rfl rfl) (pmk_own PySem.F.excBase_ValueError T.x_NoNumber T.g_NoNumber T.k_NoNumber (raises_own T.s_NoNumber T.t_NoNumber) rfl)))
      pss_nil)), ?_⟩
    cases ii : isI x with
    | false => exact s_when (b := true) (et_or (a := true) (b := true) (et_is (et_not (et_B (ev_call (ea_cons (ev_var rfl) ea_nil) (spv_isnum hn)))) (by rw [ii]; rfl)) fun z => by cases z) (fun _ H1 e1 => q H1 e1) (fun z => by cases z)
    | true =>
      cases x with
      | int i => exact s_when (b := true) (et_is (et_or (et_not (et_B (ev_call (ea_cons (ev_var rfl) ea_nil) (spv_isnum hn)))) fun _ => et_test (ev_rI0 (ev_var rfl) ev_c)) (by have := hi i rfl; simp [isI]; omega)) (fun _ H1 e1 => q H1 e1) (fun z => by cases z)
      | _ => cases ii
def spBW (K : PySem.W.Frag) (C : Addr) : Sp := fun vs H _ E => ∃ x, vs = [x] ∧ BadW K H x ∧ ∀ H', Ex H H' → E (.ref C) none H'
theorem spxBW {C : Addr} {x : V} {H : Hp} {E : XK} (h : BadW K H x) (q : ∀ H', Ex H H' → E (.ref C) none H') : ∀ H1, Ex H H1 → ∀ Q : VK, spBW K C ([x] ++ []) H1 Q E := fun _ e _ => ⟨x, rfl, h.mono e, fun H2 e2 => q H2 (e.trans e2)⟩
theorem ok_check_whole_bad (T : Tx K mg) : FnOk P w K mg base (L2.CX P w) 4 T.a_check_whole T.d_check_whole ["thing"] (spBW K T.C_NoNumber) := by
  refine T.F_check_whole.okX sc_check_whole (fun vs H Q E h => ?_) (fun cdv A outer s H vs Q E hr h => ?_)
  · obtain ⟨x, rfl, _⟩ := h
    rfl
  · obtain ⟨x, rfl, hx | ⟨i, rfl, hi⟩, q⟩ := h
    · refine ⟨_, (pss_cons (ps_expr (pe_call (ok_check_number_bad T) (hr.mono (by decide)) (by rfl) T.g_check_number T.F_check_number.kp T.b_check_number .nil (E := E) (passes_call (takes_of rfl rfl rfl rfl) fun _ _ _ _ h => h) (pa_cons (pv 0) pa_nil))) pss_never), ?_⟩
      exact q_dropX (evx_call (ea_cons (ev_var rfl) ea_nil) (spxBN hx q))
    · refine ⟨_, (pss_cons (ps_expr (pe_call (ok_check_number T) (hr.mono (by decide)) (by rfl) T.g_check_number T.F_check_number.kp T.b_check_number .nil pass0 (pa_cons (pv 0) pa_nil)))
    (pss_one (ps_if (pt_cmpR op_gt (pv 0) (pe_glob rfl T.c_GREATEST_WHOLE T.r_GREATEST_WHOLE) (nomark _))
      (pss_one (ps_raise rfl (takes_of rfl rfl rfl rfl) (pmk_own PySem.F.excBase_ValueError T.x_NoNumber T.g_NoNumber T.k_NoNumber (raises_own T.s_NoNumber T.t_NoNumber) rfl)))
      pss_nil))), ?_⟩
      refine q_drop (ev_call (ea_cons (ev_var rfl) ea_nil) (spv_checkn (by omega))) fun H1 e1 => ?_
      exact s_when (b := true) (et_is (et_test (ev_rI0 (ev_var rfl) ev_c)) (decide_eq_true hi)) (fun _ H2 e2 => q H2 (e1.trans e2)) (fun z => by cases z)
/-- a whole that is none, or another number that is none -/
def spBWN (K : PySem.W.Frag) (C : Addr) (P : V → Prop) : Sp := fun vs H _ E => ∃ x y, vs = [x, y] ∧ (BadW K H x ∨ ((∃ i : Int, x = .int i ∧ 0 ≤ i ∧ i ≤ 200) ∧ P y ∧ BadN K H y)) ∧ ∀ H', Ex H H' → E (.ref C) none H'
theorem ok_how_many_bad (T : Tx K mg) : FnOk P w K mg base (L2.CX P w) 5 T.a_how_many T.d_how_many ["whole", "most"] (spBWN K T.C_NoNumber (· ≠ .non)) := by
  refine T.F_how_many.ok sc_how_many (fun vs H Q E h => ?_) (fun cdv A outer s H vs Q E hr h => ?_)
  · obtain ⟨x, y, rfl, _⟩ := h
    rfl
  · obtain ⟨x, y, rfl, hx | ⟨⟨i, rfl, h0, h1⟩, hy, hb⟩, q⟩ := h
    · refine ⟨_, (pss_cons (ps_expr (pe_call (ok_check_whole_bad T) (hr.mono (by decide)) (by rfl) T.g_check_whole T.F_check_whole.kp T.b_check_whole .nil (E := E) (passes_call (takes_of rfl rfl rfl rfl) fun _ _ _ _ h => h) (pa_cons (pv 0) pa_nil))) pss_never), ?_⟩
      exact q_dropX (evx_call (ea_cons (ev_var rfl) ea_nil) (spxBW hx q))
    · refine ⟨_, (pss_cons (ps_expr (pe_call (ok_check_whole T) (hr.mono (by decide)) (by rfl) T.g_check_whole T.F_check_whole.kp T.b_check_whole .nil pass0 (pa_cons (pv 0) pa_nil)))
    (pss_cons (ps_set (i := 2) sc_how_many.nd rfl (Or.inl rfl) (pv 0))
    (pss_cons (ps_if (pt_cmpR op_notN (pv 1) pe_non (nomark _))
      (pss_cons (ps_expr (pe_call (ok_check_number_bad T) (hr.mono (by decide)) (by rfl) T.g_check_number T.F_check_number.kp T.b_check_number .nil (E := E) (passes_call (takes_of rfl rfl rfl rfl) fun _ _ _ _ h => h) (pa_cons (pv 1) pa_nil)))
      (pss_one (ps_set (i := 2) sc_how_many.nd rfl (Or.inl rfl) (pe_callB (call_min2 rfl) (by rfl) T.n_min (by decide +kernel) (pa_cons (pv 1) (pa_cons (pv 0) pa_nil))))))
      pss_nil) pss_never))), ?_⟩
      refine q_drop (ev_call (ea_cons (ev_var rfl) ea_nil) (spv_whole h0 h1)) fun H1 e1 => ?_
      refine q_asg (ev_var rfl) fun H2 e2 => ?_
      refine q_when (b := true) (et_is (et_test (ev_notN (ev_var rfl))) (by rw [decide_eq_false hy]; rfl)) (fun _ H3 e3 => ?_) (fun z => by cases z)
      exact q_dropX (evx_call (ea_cons (ev_var rfl) ea_nil) (spxBN (hb.mono ((e1.trans e2).trans e3)) fun H4 e4 => q H4 (((e1.trans e2).trans e3).trans e4)))
theorem ok_parting_of_bad (T : Tx K mg) : FnOk P w K mg base (L2.CX P w) 5 T.a_parting_of T.d_parting_of ["whole", "number"] (spBWN K T.C_NoNumber (fun _ => True)) := by
  refine T.F_parting_of.okX sc_parting_of (fun vs H Q E h => ?_) (fun cdv A outer s H vs Q E hr h => ?_)
  · obtain ⟨x, y, rfl, _⟩ := h
    rfl
  · obtain ⟨x, y, rfl, hx | ⟨⟨i, rfl, h0, h1⟩, _, hb⟩, q⟩ := h
    · refine ⟨_, (pss_cons (ps_expr (pe_call (ok_check_whole_bad T) (hr.mono (by decide)) (by rfl) T.g_check_whole T.F_check_whole.kp T.b_check_whole .nil (E := E) (passes_call (takes_of rfl rfl rfl rfl) fun _ _ _ _ h => h) (pa_cons (pv 0) pa_nil))) pss_never), ?_⟩
      exact q_dropX (evx_call (ea_cons (ev_var rfl) ea_nil) (spxBW hx q))
    · refine ⟨_, (pss_cons (ps_expr (pe_call (ok_check_whole T) (hr.mono (by decide)) (by rfl) T.g_check_whole T.F_check_whole.kp T.b_check_whole .nil pass0 (pa_cons (pv 0) pa_nil)))
    (pss_cons (ps_expr (pe_call (ok_check_number_bad T) (hr.mono (by decide)) (by rfl) T.g_check_number T.F_check_number.kp T.b_check_number .nil (E := E) (passes_call (takes_of rfl rfl rfl rfl) fun _ _ _ _ h => h) (pa_cons (pv 1) pa_nil))) pss_never)), ?_⟩
      refine q_drop (ev_call (ea_cons (ev_var rfl) ea_nil) (spv_whole h0 h1)) fun H1 e1 => ?_
      exact q_dropX (evx_call (ea_cons (ev_var rfl) ea_nil) (spxBN (hb.mono e1) fun H2 e2 => q H2 (e1.trans e2)))
/-- two partings and a number, one of which is none, the partings first -/
def spB4 (K : PySem.W.Frag) (C D : Addr) : Sp := fun vs H _ E => ∃ x y z, vs = [x, y, z] ∧ (((BadP K H x ∨ (GoodP H x ∧ BadP K H y)) ∧ ∀ H', Ex H H' → E (.ref C) none H') ∨ (GoodP H x ∧ GoodP H y ∧ BadN K H z ∧ ∀ H', Ex H H' → E (.ref D) none H'))
theorem ok_put_square_bad (T : Tx K mg) : FnOk P w K mg base (L2.CX P w) 4 T.a_put_square T.d_put_square ["beside", "beneath", "number"] (spB4 K T.C_NoParting T.C_NoNumber) := by
  refine T.F_put_square.okX sc_put_square (fun vs H Q E h => ?_) (fun cdv A outer s H vs Q E hr h => ?_)
  · obtain ⟨x, y, z, rfl, _⟩ := h
    rfl
  · obtain ⟨x, y, z, rfl, ⟨hx | ⟨hx, hy⟩, q⟩ | ⟨hx, hy, hz, q⟩⟩ := h
    · refine ⟨_, (pss_cons (ps_expr (pe_call (ok_check_bad T) (hr.mono (by decide)) (by rfl) T.g_check_parting T.F_check_parting.kp T.b_check_parting .nil (E := E) (passes_call (takes_of rfl rfl rfl rfl) fun _ _ _ _ h => h) (pa_cons (pv 0) pa_nil))) pss_never), ?_⟩
      exact q_dropX (evx_call (ea_cons (ev_var rfl) ea_nil) (spxB1 hx q))
    · refine ⟨_, (pss_cons (ps_expr (pe_call (ok_check_parting T) (hr.mono (by decide)) (by rfl) T.g_check_parting T.F_check_parting.kp T.b_check_parting .nil pass0 (pa_cons (pv 0) pa_nil)))
    (pss_cons (ps_expr (pe_call (ok_check_bad T) (hr.mono (by decide)) (by rfl) T.g_check_parting T.F_check_parting.kp T.b_check_parting .nil (E := E) (passes_call (takes_of rfl rfl rfl rfl) fun _ _ _ _ h => h) (pa_cons (pv 1) pa_nil))) pss_never)), ?_⟩
      obtain ⟨a, ns, rfl, hL, hp⟩ := hx
      refine q_drop (ev_call (ea_cons (ev_var rfl) ea_nil) (spv_check hL hp)) fun H1 e1 => ?_
      exact q_dropX (evx_call (ea_cons (ev_var rfl) ea_nil) (spxB1 (hy.mono e1) fun H2 e2 => q H2 (e1.trans e2)))
    · refine ⟨_, (pss_cons (ps_expr (pe_call (ok_check_parting T) (hr.mono (by decide)) (by rfl) T.g_check_parting T.F_check_parting.kp T.b_check_parting .nil pass0 (pa_cons (pv 0) pa_nil)))
    (pss_cons (ps_expr (pe_call (ok_check_parting T) (hr.mono (by decide)) (by rfl) T.g_check_parting T.F_check_parting.kp T.b_check_parting .nil pass0 (pa_cons (pv 1) pa_nil)))
    (pss_cons (ps_expr (pe_call (ok_check_number_bad T) (hr.mono (by decide)) (by rfl) T.g_check_number T.F_check_number.kp T.b_check_number .nil (E := E) (passes_call (takes_of rfl rfl rfl rfl) fun _ _ _ _ h => h) (pa_cons (pv 2) pa_nil))) pss_never))), ?_⟩
      obtain ⟨a, ns, rfl, hL, hp⟩ := hx
      refine q_drop (ev_call (ea_cons (ev_var rfl) ea_nil) (spv_check hL hp)) fun H1 e1 => ?_
      obtain ⟨b, ms, rfl, hM, hm⟩ := hy
      refine q_drop (ev_call (ea_cons (ev_var rfl) ea_nil) (spv_check (e1 _ _ hM) hm)) fun H2 e2 => ?_
      exact q_dropX (evx_call (ea_cons (ev_var rfl) ea_nil) (spxBN (hz.mono (e1.trans e2)) fun H3 e3 => q H3 ((e1.trans e2).trans e3)))
end
/-! ### the law: what is asked -/
section
variable {P : Program} {w : World} {K : PySem.W.Frag} {mg : Str → Option Value} {base : Heap}
theorem ok_nearer0 (T : Tx K mg) : FnOk P w K mg base CX0 1 T.a_nearer T.d_nearer ["parting", "goal"] (fun _ _ _ _ => False) := fnOk_none
/-- the way down from a parting to itself -/
def sp_way_same : Sp := fun vs H Q _ => ∃ (a : Addr) (ns : List Int), vs = [.ref a, .ref a] ∧ Ll H a ns ∧ IsP ns ∧ ∀ v H', Ex H H' → Q v H'
theorem ok_way_same (T : Tx K mg) : FnOk P w K mg base CX0 6 T.a_way_down T.d_way_down ["one", "other"] sp_way_same := by
  refine T.F_way_down.ok sc_way_down (fun vs H Q E h => ?_) (fun cdv A outer s H vs Q E hr h => ?_)
  · obtain ⟨a, ns, rfl, _⟩ := h
    rfl
  · obtain ⟨a, ns, rfl, hL, hp, q⟩ := h
    refine ⟨_, (pss_cons (ps_if (pt_cmpR op_notN (pe_call (ok_lacking_count T) (hr.mono (by decide)) (by rfl) T.g_lacking_count T.F_lacking_count.kp T.b_lacking_count .nil (E := E0) passL (pa_cons (pv 0) (pa_cons (pv 1) pa_nil))) pe_non (nomark _))
      (pss_one (ps_ret pe_non))
      pss_nil)
    (pss_cons (ps_set (i := 2) sc_way_down.nd rfl (Or.inl rfl) (pe_lst (pa_cons (pe_callTy (listK (K := K) rfl) (by rfl) T.n_list (by decide +kernel) (pa_cons (pv 0) pa_nil)) pa_nil)))
    (pss_cons (ps_while PassesOwn.never (pt_cmpR (neK (K := K) rfl hr.units) (pe_ix (ixlK (K := K) rfl) (pv 2) (pe_un un_neg pe_int) (fun _ _ => rfl)) (pv 1) (nomark _))
      (pss_one (ps_expr (pe_bm PySem.F.plainAttrs_list PySem.F.slot_list_append PySem.F.type_list_append mt_append (pv 2) (pa_cons (pe_call (ok_nearer0 T) (hr.mono (by decide)) (by rfl) T.g_nearer T.F_nearer.kp T.b_nearer .nil pass0 (pa_cons (pe_ix (ixlK (K := K) rfl) (pv 2) (pe_un un_neg pe_int) (fun _ _ => rfl)) (pa_cons (pv 1) pa_nil))) pa_nil)))))
    (pss_one (ps_ret (pv 2)))))), ?_⟩
    refine q_when (et_test (ev_notN (ev_call (ea_cons (ev_var rfl) (ea_cons (ev_var rfl) ea_nil)) (spv_lacking hL hL hp hp rfl)))) (fun hb H1 e1 => ?_) (fun hb H1 e1 => ?_)
    · exact s_ret ev_c fun H2 e2 => q _ H2 (e1.trans e2)
    · refine q_asgP (ep_lst (eap_consL (el_cb (ea_cons (ev_var rfl) ea_nil) (rcl_list (Ll.sq (e1 _ _ hL)))) eap_nil) (mono_consL mono_nil) (fun vs H' hv => by
        obtain ⟨_, _, rfl, _, _, rfl⟩ := hv
        show 1 ≤ 100000
        decide)) fun v H2 e2 hv => ?_
      obtain ⟨p, vs, rfl, np, hp2, z0, us, rfl, nz, hz, rfl⟩ := hv
      refine q_while (fun m σ' H' => σ' = [some (.ref a), some (.ref a), some (.ref p)] ∧ Ex H2 H') 0 ⟨rfl, Ex.refl H2⟩ fun m σ' H' hW => ?_
      obtain ⟨rfl, eH⟩ := hW
      have hat : atI [V.ref z0] (-1) = some (.ref z0) := atI_last [] _
      refine ⟨!decide (ns = ns), et_test (ev_op (ev_op (ev_var rfl) (ev_un ev_c ru_neg) (rv_ixL (sq_of (eH _ _ hp2)) hat)) (ev_var rfl) (rv_neL (Ll.sq (eH _ _ hz)) (Ll.sq (((e1.trans e2).trans eH) _ _ hL)))), fun hb => ?_, fun hb H3 e3 => ?_⟩
      · simp at hb
      · exact s_ret (ev_var rfl) fun H4 e4 => q _ H4 ((((e1.trans e2).trans eH).trans e3).trans e4)
theorem s_ifw {H : Hp} {σ : L2.St} {D : Ends} {tu tw : TS} {w k : Int} (hx : σ[0]? = some (some (.int w))) (h1 : w = k → ∀ H1, Ex H H1 → tu D σ H1) (h2 : w ≠ k → ∀ H1, Ex H H1 → tw D σ H1) :
    ∀ H1, Ex H H1 → tIfS (tTest (tOp rEq (tVar 0) (tC (.int k)))) tu tw D σ H1 := fun H1 e =>
  s_if (et_test (ev_eq (ev_var hx) ev_c rfl)) (fun h H2 e2 => h1 (V.int.inj (of_decide_eq_true h)) H2 (e.trans e2)) (fun h H2 e2 => h2 (fun z => by rw [z] at h; simp at h) H2 (e.trans e2))
theorem s_dropS {H : Hp} {σ : L2.St} {D : Ends} {sp : Sp} {dvs vs : List V} {E : XK} {ta : TA} (h : EvA ta σ H vs) (hs : ∀ H1, Ex H H1 → sp (vs ++ dvs) H1 (fun _ H2 => D.nx σ H2) E) : tDrop (tCall sp dvs E ta) D σ H := h H (Ex.refl H) _ hs
def AskBad (K : PySem.W.Frag) (H : Hp) (w : Int) (x y : V) : Prop := BadP K H x ∨ ((w = 1 ∨ w = 2 ∨ w = 4 ∨ w = 11) ∧ GoodP H x ∧ BadP K H y)
def SameP (H : Hp) (x y : V) : Prop := ∃ (a : Addr) (ns : List Int), x = .ref a ∧ y = .ref a ∧ Ll H a ns ∧ IsP ns
theorem AskBad.mono {K : PySem.W.Frag} {H H' : Hp} {w : Int} {x y : V} (e : Ex H H') (h : AskBad K H w x y) : AskBad K H' w x y := h.imp (·.mono e) fun z => ⟨z.1, z.2.1.mono e, z.2.2.mono e⟩
theorem SameP.mono {H H' : Hp} {x y : V} (e : Ex H H') (h : SameP H x y) : SameP H' x y := by
  obtain ⟨a, ns, hx, hy, hL, hp⟩ := h
  exact ⟨a, ns, hx, hy, e _ _ hL, hp⟩
theorem AskBad.one {K : PySem.W.Frag} {H : Hp} {w : Int} {x y : V} (h : AskBad K H w x y) (hw : ¬ (w = 1 ∨ w = 2 ∨ w = 4 ∨ w = 11)) : BadP K H x := h.elim id fun z => absurd z.1 hw
theorem AskBad.two {K : PySem.W.Frag} {H : Hp} {w : Int} {x y : V} (h : AskBad K H w x y) : BadP K H x ∨ (GoodP H x ∧ BadP K H y) := h.imp id (·.2)
def sp_asked (K : PySem.W.Frag) (NP NF NN : Addr) : Sp := fun vs H Q E => ∃ (w : Int) (x y : V), vs = [.int w, x, y] ∧ ((AskBad K H w x y ∧ ∀ H', Ex H H' → E (.ref NP) none H') ∨
  (SameP H x y ∧ ∀ H', Ex H H' → E (.ref NF) none H' ∧ E (.ref NN) none H' ∧ Q .non H'))
theorem ok_law_asked (T : Tx K mg) : FnOk P w K mg base (L2.CX P w) 7 T.a_law_asked T.d_law_asked ["_law_which", "_law_one", "_law_other"] (sp_asked K T.C_NoParting T.C_NoFit T.C_NoNumber) := by
  refine T.F_law_asked.okX sc_law_asked (fun vs H Q E h => ?_) (fun cdv A outer s H vs Q E hr h => ?_)
  · obtain ⟨w, x, y, rfl, _⟩ := h
    rfl
  · obtain ⟨w, x, y, rfl, ⟨hb, q⟩ | ⟨hs, q⟩⟩ := h
    · refine ⟨_, (pss_one (ps_if (pt_cmpR op_eq (pv 0) pe_int (nomark _))
      (pss_one (ps_expr (pe_call (ok_turned_bad T) (hr.mono (by decide)) (by rfl) T.g_turned T.F_turned.kp T.b_turned .nil (E := E) (passes_call (takes_of rfl rfl rfl rfl) fun _ _ _ _ h => h) (pa_cons (pv 1) pa_nil))))
      (pss_one (ps_if (pt_cmpR op_eq (pv 0) pe_int (nomark _))
        (pss_one (ps_expr (pe_call (ok_lies_above_bad T) (hr.mono (by decide)) (by rfl) T.g_lies_above T.F_lies_above.kp T.b_lies_above .nil (E := E) (passes_call (takes_of rfl rfl rfl rfl) fun _ _ _ _ h => h) (pa_cons (pv 1) (pa_cons (pv 2) pa_nil)))))
        (pss_one (ps_if (pt_cmpR op_eq (pv 0) pe_int (nomark _))
          (pss_one (ps_expr (pe_call (ok_lacking_count_bad T) (hr.mono (by decide)) (by rfl) T.g_lacking_count T.F_lacking_count.kp T.b_lacking_count .nil (E := E) (passes_call (takes_of rfl rfl rfl rfl) fun _ _ _ _ h => h) (pa_cons (pv 1) (pa_cons (pv 2) pa_nil)))))
          (pss_one (ps_if (pt_cmpR op_eq (pv 0) pe_int (nomark _))
            (pss_one (ps_expr (pe_call (ok_let_down_bad T) (hr.mono (by decide)) (by rfl) T.g_let_down T.F_let_down.kp T.b_let_down .nil (E := E) (passes_call (takes_of rfl rfl rfl rfl) fun _ _ _ _ h => h) (pa_cons (pv 1) (pa_cons pe_non (pa_cons pe_non pa_nil))))))
            (pss_one (ps_if (pt_cmpR op_eq (pv 0) pe_int (nomark _))
              (pss_one (ps_expr (pe_call (ok_way_down_bad T) (hr.mono (by decide)) (by rfl) T.g_way_down T.F_way_down.kp T.b_way_down .nil (E := E) (passes_call (takes_of rfl rfl rfl rfl) fun _ _ _ _ h => h) (pa_cons (pv 1) (pa_cons (pv 2) pa_nil)))))
              (pss_one (ps_if (pt_cmpR op_eq (pv 0) pe_int (nomark _))
                (pss_one (ps_expr (pe_call (ok_unlike_of_bad T) (hr.mono (by decide)) (by rfl) T.g_unlike_of T.F_unlike_of.kp T.b_unlike_of .nil (E := E) (passes_call (takes_of rfl rfl rfl rfl) fun _ _ _ _ h => h) (pa_cons (pv 1) pa_nil))))
                (pss_one (ps_if (pt_cmpR op_eq (pv 0) pe_int (nomark _))
                  (pss_one (ps_expr (pe_call (ok_odd_of_bad T) (hr.mono (by decide)) (by rfl) T.g_odd_of T.F_odd_of.kp T.b_odd_of .nil (E := E) (passes_call (takes_of rfl rfl rfl rfl) fun _ _ _ _ h => h) (pa_cons (pv 1) pa_nil))))
                  (pss_one (ps_if (pt_cmpR op_eq (pv 0) pe_int (nomark _))
                    (pss_one (ps_expr (pe_call (ok_bends_of_bad T) (hr.mono (by decide)) (by rfl) T.g_bends_of T.F_bends_of.kp T.b_bends_of .nil (E := E) (passes_call (takes_of rfl rfl rfl rfl) fun _ _ _ _ h => h) (pa_cons (pv 1) pa_nil))))
                    (pss_one (ps_if (pt_cmpR op_eq (pv 0) pe_int (nomark _))
                      (pss_one (ps_expr (pe_call (ok_unbent_bad T) (hr.mono (by decide)) (by rfl) T.g_unbent T.F_unbent.kp T.b_unbent .nil (E := E) (passes_call (takes_of rfl rfl rfl rfl) fun _ _ _ _ h => h) (pa_cons (pv 1) pa_nil))))
                      (pss_one (ps_if (pt_cmpR op_eq (pv 0) pe_int (nomark _))
                        (pss_one (ps_expr (pe_call (ok_square_of_bad T) (hr.mono (by decide)) (by rfl) T.g_square_of T.F_square_of.kp T.b_square_of .nil (E := E) (passes_call (takes_of rfl rfl rfl rfl) fun _ _ _ _ h => h) (pa_cons (pv 1) pa_nil))))
                        (pss_one (ps_if (pt_cmpR op_eq (pv 0) pe_int (nomark _))
                          (pss_one (ps_expr (pe_call (ok_cut_square_bad T) (hr.mono (by decide)) (by rfl) T.g_cut_square T.F_cut_square.kp T.b_cut_square .nil (E := E) (passes_call (takes_of rfl rfl rfl rfl) fun _ _ _ _ h => h) (pa_cons (pv 1) pa_nil))))
                          (pss_one (ps_if (pt_cmpR op_eq (pv 0) pe_int (nomark _))
                            (pss_one (ps_expr (pe_call (ok_put_square_bad T) (hr.mono (by decide)) (by rfl) T.g_put_square T.F_put_square.kp T.b_put_square .nil (E := E) (passes_call (takes_of rfl rfl rfl rfl) fun _ _ _ _ h => h) (pa_cons (pv 1) (pa_cons (pv 2) (pa_cons pe_non pa_nil))))))
                            (pss_one (ps_expr (pe_call (ok_number_of_bad T) (hr.mono (by decide)) (by rfl) T.g_number_of T.F_number_of.kp T.b_number_of .nil (E := E) (passes_call (takes_of rfl rfl rfl rfl) fun _ _ _ _ h => h) (pa_cons (pv 1) pa_nil)))))))))))))))))))))))))))), ?_⟩
      have b1 : ¬ (w = 1 ∨ w = 2 ∨ w = 4 ∨ w = 11) → ∀ (D : Ends) (σ : L2.St) (H1 : Hp), Ex H H1 → σ[1]? = some (some x) → tDrop (tCall (spB1 K T.C_NoParting) [] E (tCons (tVar 1) tNil)) D σ H1 := fun hw D σ H1 e1 hx =>
        s_dropX (evx_call (ea_cons (ev_var hx) ea_nil) (spxB1 ((hb.one hw).mono e1) fun H2 e2 => q H2 (e1.trans e2)))
      have b2 : ∀ (D : Ends) (σ : L2.St) (H1 : Hp), Ex H H1 → σ[1]? = some (some x) → σ[2]? = some (some y) → tDrop (tCall (spB2 K T.C_NoParting) [] E (tCons (tVar 1) (tCons (tVar 2) tNil))) D σ H1 := fun D σ H1 e1 hx hy =>
        s_dropX (evx_call (ea_cons (ev_var hx) (ea_cons (ev_var hy) ea_nil)) (spxB2 (hb.mono e1).two fun H2 e2 => q H2 (e1.trans e2)))
      refine s_ifw rfl (fun hw H1 e1 => b1 (by omega) _ _ H1 e1 rfl) (fun n0 => ?_) H (Ex.refl H)
      refine s_ifw rfl (fun hw H1 e1 => b2 _ _ H1 e1 rfl rfl) (fun n1 => ?_)
      refine s_ifw rfl (fun hw H1 e1 => b2 _ _ H1 e1 rfl rfl) (fun n2 => ?_)
      refine s_ifw rfl (fun hw H1 e1 => ?_) (fun n3 => ?_)
      · exact s_dropX (evx_call (ea_cons (ev_var rfl) (ea_cons ev_c (ea_cons ev_c ea_nil))) fun H2 e2 Q => ⟨x, _, _, rfl, (hb.one (by omega)).mono (e1.trans e2), fun H3 e3 => q H3 ((e1.trans e2).trans e3)⟩)
      refine s_ifw rfl (fun hw H1 e1 => b2 _ _ H1 e1 rfl rfl) (fun n4 => ?_)
      refine s_ifw rfl (fun hw H1 e1 => b1 (by omega) _ _ H1 e1 rfl) (fun n5 => ?_)
      refine s_ifw rfl (fun hw H1 e1 => b1 (by omega) _ _ H1 e1 rfl) (fun n6 => ?_)
      refine s_ifw rfl (fun hw H1 e1 => b1 (by omega) _ _ H1 e1 rfl) (fun n7 => ?_)
      refine s_ifw rfl (fun hw H1 e1 => b1 (by omega) _ _ H1 e1 rfl) (fun n8 => ?_)
      refine s_ifw rfl (fun hw H1 e1 => b1 (by omega) _ _ H1 e1 rfl) (fun n9 => ?_)
      refine s_ifw rfl (fun hw H1 e1 => b1 (by omega) _ _ H1 e1 rfl) (fun n10 => ?_)
      refine s_ifw rfl (fun hw H1 e1 => ?_) (fun n11 H1 e1 => ?_)
      · exact s_dropX (evx_call (ea_cons (ev_var rfl) (ea_cons (ev_var rfl) (ea_cons ev_c ea_nil))) fun H2 e2 Q => ⟨x, y, _, rfl, .inl ⟨(hb.mono (e1.trans e2)).two, fun H3 e3 => q H3 ((e1.trans e2).trans e3)⟩⟩)
      · exact b1 (by omega) _ _ H1 e1 rfl
    · refine ⟨_, (pss_one (ps_if (pt_cmpR op_eq (pv 0) pe_int (nomark _))
      (pss_one (ps_expr (pe_call (ok_turned T) (hr.mono (by decide)) (by rfl) T.g_turned T.F_turned.kp T.b_turned .nil pass0 (pa_cons (pv 1) pa_nil))))
      (pss_one (ps_if (pt_cmpR op_eq (pv 0) pe_int (nomark _))
        (pss_one (ps_expr (pe_call (ok_lies_above T) (hr.mono (by decide)) (by rfl) T.g_lies_above T.F_lies_above.kp T.b_lies_above .nil (E := E) (passes_call (takes_of rfl rfl rfl rfl) fun _ _ _ _ h => h) (pa_cons (pv 1) (pa_cons (pv 2) pa_nil)))))
        (pss_one (ps_if (pt_cmpR op_eq (pv 0) pe_int (nomark _))
          (pss_one (ps_expr (pe_call (ok_lacking_count T) (hr.mono (by decide)) (by rfl) T.g_lacking_count T.F_lacking_count.kp T.b_lacking_count .nil (E := E) (passes_call (takes_of rfl rfl rfl rfl) fun _ _ _ _ h => h) (pa_cons (pv 1) (pa_cons (pv 2) pa_nil)))))
          (pss_one (ps_if (pt_cmpR op_eq (pv 0) pe_int (nomark _))
            (pss_one (ps_expr (pe_call (ok_let_down T) (hr.mono (by decide)) (by rfl) T.g_let_down T.F_let_down.kp T.b_let_down .nil (E := E) (passes_call (takes_of rfl rfl rfl rfl) fun _ _ _ _ h => h) (pa_cons (pv 1) (pa_cons pe_non (pa_cons pe_non pa_nil))))))
            (pss_one (ps_if (pt_cmpR op_eq (pv 0) pe_int (nomark _))
              (pss_one (ps_expr (pe_call (ok_way_same T) (hr.mono (by decide)) (by rfl) T.g_way_down T.F_way_down.kp T.b_way_down .nil pass0 (pa_cons (pv 1) (pa_cons (pv 2) pa_nil)))))
              (pss_one (ps_if (pt_cmpR op_eq (pv 0) pe_int (nomark _))
                (pss_one (ps_expr (pe_call (ok_unlike_of T) (hr.mono (by decide)) (by rfl) T.g_unlike_of T.F_unlike_of.kp T.b_unlike_of .nil (E := E) (passes_call (takes_of rfl rfl rfl rfl) fun _ _ _ _ h => h) (pa_cons (pv 1) pa_nil))))
                (pss_one (ps_if (pt_cmpR op_eq (pv 0) pe_int (nomark _))
                  (pss_one (ps_expr (pe_call (ok_odd_of T) (hr.mono (by decide)) (by rfl) T.g_odd_of T.F_odd_of.kp T.b_odd_of .nil (E := E) (passes_call (takes_of rfl rfl rfl rfl) fun _ _ _ _ h => h) (pa_cons (pv 1) pa_nil))))
                  (pss_one (ps_if (pt_cmpR op_eq (pv 0) pe_int (nomark _))
                    (pss_one (ps_expr (pe_call (ok_bends_of T) (hr.mono (by decide)) (by rfl) T.g_bends_of T.F_bends_of.kp T.b_bends_of .nil (E := E) (passes_call (takes_of rfl rfl rfl rfl) fun _ _ _ _ h => h) (pa_cons (pv 1) pa_nil))))
                    (pss_one (ps_if (pt_cmpR op_eq (pv 0) pe_int (nomark _))
                      (pss_one (ps_expr (pe_call (ok_unbent T) (hr.mono (by decide)) (by rfl) T.g_unbent T.F_unbent.kp T.b_unbent .nil (E := E) (passes_call (takes_of rfl rfl rfl rfl) fun _ _ _ _ h => h) (pa_cons (pv 1) pa_nil))))
                      (pss_one (ps_if (pt_cmpR op_eq (pv 0) pe_int (nomark _))
                        (pss_one (ps_expr (pe_call (ok_square_of T) (hr.mono (by decide)) (by rfl) T.g_square_of T.F_square_of.kp T.b_square_of .nil pass0 (pa_cons (pv 1) pa_nil))))
                        (pss_one (ps_if (pt_cmpR op_eq (pv 0) pe_int (nomark _))
                          (pss_one (ps_expr (pe_call (ok_cut_square T) (hr.mono (by decide)) (by rfl) T.g_cut_square T.F_cut_square.kp T.b_cut_square .nil pass0 (pa_cons (pv 1) pa_nil))))
                          (pss_one (ps_if (pt_cmpR op_eq (pv 0) pe_int (nomark _))
                            (pss_one (ps_expr (pe_call (ok_put_square_bad T) (hr.mono (by decide)) (by rfl) T.g_put_square T.F_put_square.kp T.b_put_square .nil (E := E) (passes_call (takes_of rfl rfl rfl rfl) fun _ _ _ _ h => h) (pa_cons (pv 1) (pa_cons (pv 2) (pa_cons pe_non pa_nil))))))
                            (pss_one (ps_expr (pe_call (ok_number_of T) (hr.mono (by decide)) (by rfl) T.g_number_of T.F_number_of.kp T.b_number_of .nil pass0 (pa_cons (pv 1) pa_nil)))))))))))))))))))))))))))), ?_⟩
      obtain ⟨a, ns, rfl, rfl, hL, hp⟩ := hs
      refine s_ifw rfl (fun hw H1 e1 => ?_) (fun n0 => ?_) H (Ex.refl H)
      · exact s_dropS (ea_cons (ev_var rfl) ea_nil) fun H2 e2 => ⟨a, ns, rfl, (e1.trans e2) _ _ hL, hp, fun _ H3 _ e3 _ => (q H3 ((e1.trans e2).trans e3)).2.2⟩
      refine s_ifw rfl (fun hw H1 e1 => ?_) (fun n1 => ?_)
      · exact s_dropS (ea_cons (ev_var rfl) (ea_cons (ev_var rfl) ea_nil)) fun H2 e2 => ⟨a, a, ns, ns, rfl, (e1.trans e2) _ _ hL, (e1.trans e2) _ _ hL, hp, hp, fun z => absurd rfl z, fun _ H3 e3 => (q H3 ((e1.trans e2).trans e3)).2.2⟩
      refine s_ifw rfl (fun hw H1 e1 => ?_) (fun n2 => ?_)
      · exact s_dropS (ea_cons (ev_var rfl) (ea_cons (ev_var rfl) ea_nil)) fun H2 e2 => ⟨a, a, ns, ns, rfl, (e1.trans e2) _ _ hL, (e1.trans e2) _ _ hL, hp, hp, fun z => absurd rfl z, fun _ H3 e3 => (q H3 ((e1.trans e2).trans e3)).2.2⟩
      refine s_ifw rfl (fun hw H1 e1 => ?_) (fun n3 => ?_)
      · exact s_dropS (ea_cons (ev_var rfl) (ea_cons ev_c (ea_cons ev_c ea_nil))) fun H2 e2 => ⟨a, ns, _, _, rfl, (e1.trans e2) _ _ hL, hp, numV_non, numV_non, fun _ H3 e3 => (q H3 ((e1.trans e2).trans e3)).1, fun r hr => by cases hr⟩
      refine s_ifw rfl (fun hw H1 e1 => ?_) (fun n4 => ?_)
      · exact s_dropS (ea_cons (ev_var rfl) (ea_cons (ev_var rfl) ea_nil)) fun H2 e2 => ⟨a, ns, rfl, (e1.trans e2) _ _ hL, hp, fun _ H3 e3 => (q H3 ((e1.trans e2).trans e3)).2.2⟩
      refine s_ifw rfl (fun hw H1 e1 => ?_) (fun n5 => ?_)
      · exact s_dropS (ea_cons (ev_var rfl) ea_nil) fun H2 e2 => ⟨a, ns, rfl, (e1.trans e2) _ _ hL, hp, fun _ H3 e3 => (q H3 ((e1.trans e2).trans e3)).1, fun _ _ _ H3 _ e3 _ => (q H3 ((e1.trans e2).trans e3)).2.2⟩
      refine s_ifw rfl (fun hw H1 e1 => ?_) (fun n6 => ?_)
      · exact s_dropS (ea_cons (ev_var rfl) ea_nil) fun H2 e2 => ⟨a, ns, rfl, (e1.trans e2) _ _ hL, hp, fun _ H3 e3 => (q H3 ((e1.trans e2).trans e3)).1, fun _ _ _ H3 _ e3 _ => (q H3 ((e1.trans e2).trans e3)).2.2⟩
      refine s_ifw rfl (fun hw H1 e1 => ?_) (fun n7 => ?_)
      · exact s_dropS (ea_cons (ev_var rfl) ea_nil) fun H2 e2 => ⟨a, ns, rfl, (e1.trans e2) _ _ hL, hp, fun _ H3 e3 => (q H3 ((e1.trans e2).trans e3)).1, fun _ _ _ H3 _ e3 _ => (q H3 ((e1.trans e2).trans e3)).2.2⟩
      refine s_ifw rfl (fun hw H1 e1 => ?_) (fun n8 => ?_)
      · exact s_dropS (ea_cons (ev_var rfl) ea_nil) fun H2 e2 => ⟨a, ns, rfl, (e1.trans e2) _ _ hL, hp, fun _ H3 e3 => (q H3 ((e1.trans e2).trans e3)).1, fun _ _ _ H3 _ e3 _ => (q H3 ((e1.trans e2).trans e3)).2.2⟩
      refine s_ifw rfl (fun hw H1 e1 => ?_) (fun n9 => ?_)
      · exact s_dropS (ea_cons (ev_var rfl) ea_nil) fun H2 e2 => ⟨a, ns, rfl, (e1.trans e2) _ _ hL, hp, fun H3 e3 => (q H3 ((e1.trans e2).trans e3)).2.2⟩
      refine s_ifw rfl (fun hw H1 e1 => ?_) (fun n10 => ?_)
      · exact s_dropS (ea_cons (ev_var rfl) ea_nil) fun H2 e2 => ⟨a, ns, rfl, (e1.trans e2) _ _ hL, hp, fun _ _ _ H3 _ _ _ _ e3 _ _ _ => (q H3 ((e1.trans e2).trans e3)).2.2⟩
      refine s_ifw rfl (fun hw H1 e1 => ?_) (fun n11 H1 e1 => ?_)
      · exact s_dropS (ea_cons (ev_var rfl) (ea_cons (ev_var rfl) (ea_cons ev_c ea_nil))) fun H2 e2 => ⟨_, _, _, rfl, .inr ⟨⟨a, ns, rfl, (e1.trans e2) _ _ hL, hp⟩, ⟨a, ns, rfl, (e1.trans e2) _ _ hL, hp⟩, ⟨numV_non, fun i h => by cases h⟩, fun H3 e3 => (q H3 ((e1.trans e2).trans e3)).2.1⟩⟩
      · exact s_dropS (ea_cons (ev_var rfl) ea_nil) fun H2 e2 => ⟨a, ns, rfl, (e1.trans e2) _ _ hL, hp, fun H3 e3 => (q H3 ((e1.trans e2).trans e3)).2.2⟩
end
/-! ### _law_name of each of the three; _law_told, _law_counted -/
section
variable {P : Program} {w : World} {K : PySem.W.Frag} {mg : Str → Option Value} {base : Heap}
def NameOf (NP NF NN C : Addr) (t : Str) : Prop := (C = NP ∧ t = "parting") ∨ (C = NF ∧ t = "fit") ∨ (C = NN ∧ t = "number")
def sp_law_name (NP NF NN : Addr) : Sp := fun vs H Q _ => ∃ (e C : Addr) (t : Str), vs = [.ref e] ∧ H e = some (ErrO (.ref C) e) ∧ NameOf NP NF NN C t ∧ RetV (.str t) H Q
theorem ok_law_name (T : Tx K mg) : FnOk P w K mg base CX0 1 T.a_law_name T.d_law_name ["_law_error"] (sp_law_name T.C_NoParting T.C_NoFit T.C_NoNumber) := by
  refine T.F_law_name.ok sc_law_name (fun vs H Q E h => ?_) (fun cdv A outer s H vs Q E hr h => ?_)
  · obtain ⟨e, C, t, rfl, _⟩ := h
    rfl
  · obtain ⟨e, C, t, rfl, he, hc, q⟩ := h
    refine ⟨_, (pss_cons (ps_set (i := 1) sc_law_name.nd rfl (Or.inl rfl) (pe_lst (pa_cons (pe_callB (isxK (K := K) rfl) (by rfl) T.n_isinstance (by decide +kernel) (pa_cons (pv 0) (pa_cons (pe_glob (v := .ref T.C_NoParting) rfl T.g_NoParting rfl) pa_nil))) (pa_cons (pe_callB (isxK (K := K) rfl) (by rfl) T.n_isinstance (by decide +kernel) (pa_cons (pv 0) (pa_cons (pe_glob (v := .ref T.C_NoFit) rfl T.g_NoFit rfl) pa_nil))) (pa_cons (pe_callB (isxK (K := K) rfl) (by rfl) T.n_isinstance (by decide +kernel) (pa_cons (pv 0) (pa_cons (pe_glob (v := .ref T.C_NoNumber) rfl T.g_NoNumber rfl) pa_nil))) pa_nil)))))
    (pss_cons (ps_if (PW.pt (pw_or (pt_cmpR op_ne (pe_bm PySem.F.plainAttrs_list PySem.F.slot_list_count PySem.F.type_list_count (mt_countB (K := K) rfl) (pv 1) (pa_cons pe_bl pa_nil)) pe_int (nomark _)) (pw_or1 (pt_not (pt_val (pe_callB (isxK (K := K) rfl) (by rfl) T.n_isinstance (by decide +kernel) (pa_cons (pv 0) (pa_cons (pe_bltn (v := .ty "ValueError") (u := .type "ValueError") (by rfl) T.n_ValueError (by decide +kernel) rfl) pa_nil))))))))
      (pss_one (ps_ret pe_str))
      pss_nil)
    (pss_one (ps_ret (pe_ix (ixlK (K := K) rfl) (pe_lst (pa_cons pe_str (pa_cons pe_str (pa_cons pe_str pa_nil)))) (pe_bm PySem.F.plainAttrs_list PySem.F.slot_list_index PySem.F.type_list_index mt_index (pv 1) (pa_cons pe_bl pa_nil)) (fun _ _ => rfl)))))), ?_⟩
    rcases hc with ⟨rfl, rfl⟩ | ⟨rfl, rfl⟩ | ⟨rfl, rfl⟩
    · refine q_asgL (xs := [true, false, false].map V.bl) (el_lst (ea_cons (ev_cb (ea_cons (ev_var rfl) (ea_cons ev_c ea_nil)) (rc_isx he T.e_NoParting (.own _) T.q_NoParting_NoParting)) (ea_cons (ev_cb (ea_cons (ev_var rfl) (ea_cons ev_c ea_nil)) (rc_isx he T.e_NoParting (.own _) T.q_NoParting_NoFit)) (ea_cons (ev_cb (ea_cons (ev_var rfl) (ea_cons ev_c ea_nil)) (rc_isx he T.e_NoParting (.own _) T.q_NoParting_NoNumber)) ea_nil))) (by decide)) fun p H1 np e1 hp => ?_
      refine q_when (et_or (et_test (ev_ne (ev_countB (ev_var rfl) (sq_of hp) (ea_cons ev_c ea_nil)) ev_c rfl)) fun _ => et_not (et_B (ev_cb (ea_cons (ev_var rfl) (ea_cons ev_c ea_nil)) (rc_isx (e1 _ _ he) T.e_NoParting (.ty _) T.q_NoParting_ValueError)))) (fun hb => absurd hb (by decide)) (fun _ H2 e2 => ?_)
      refine s_ret (ev_ixN (i := 0) (el_lst (ea_cons ev_c (ea_cons ev_c (ea_cons ev_c ea_nil))) (by decide)) (fun H3 e3 => ev_indexB (n := 0) (ev_var rfl) (sq_of (e3 _ _ (e2 _ _ hp))) (ea_cons ev_c ea_nil) rfl (fun m c hm hc => ?_)) rfl) fun H3 e3 => q H3 ((e1.trans e2).trans e3)
      omega
    · refine q_asgL (xs := [false, true, false].map V.bl) (el_lst (ea_cons (ev_cb (ea_cons (ev_var rfl) (ea_cons ev_c ea_nil)) (rc_isx he T.e_NoFit (.own _) T.q_NoFit_NoParting)) (ea_cons (ev_cb (ea_cons (ev_var rfl) (ea_cons ev_c ea_nil)) (rc_isx he T.e_NoFit (.own _) T.q_NoFit_NoFit)) (ea_cons (ev_cb (ea_cons (ev_var rfl) (ea_cons ev_c ea_nil)) (rc_isx he T.e_NoFit (.own _) T.q_NoFit_NoNumber)) ea_nil))) (by decide)) fun p H1 np e1 hp => ?_
      refine q_when (et_or (et_test (ev_ne (ev_countB (ev_var rfl) (sq_of hp) (ea_cons ev_c ea_nil)) ev_c rfl)) fun _ => et_not (et_B (ev_cb (ea_cons (ev_var rfl) (ea_cons ev_c ea_nil)) (rc_isx (e1 _ _ he) T.e_NoFit (.ty _) T.q_NoFit_ValueError)))) (fun hb => absurd hb (by decide)) (fun _ H2 e2 => ?_)
      refine s_ret (ev_ixN (i := 1) (el_lst (ea_cons ev_c (ea_cons ev_c (ea_cons ev_c ea_nil))) (by decide)) (fun H3 e3 => ev_indexB (n := 1) (ev_var rfl) (sq_of (e3 _ _ (e2 _ _ hp))) (ea_cons ev_c ea_nil) rfl (fun m c hm hc => ?_)) rfl) fun H3 e3 => q H3 ((e1.trans e2).trans e3)
      obtain rfl : m = 0 := by omega
      cases hc
      exact Bool.false_ne_true
    · refine q_asgL (xs := [false, false, true].map V.bl) (el_lst (ea_cons (ev_cb (ea_cons (ev_var rfl) (ea_cons ev_c ea_nil)) (rc_isx he T.e_NoNumber (.own _) T.q_NoNumber_NoParting)) (ea_cons (ev_cb (ea_cons (ev_var rfl) (ea_cons ev_c ea_nil)) (rc_isx he T.e_NoNumber (.own _) T.q_NoNumber_NoFit)) (ea_cons (ev_cb (ea_cons (ev_var rfl) (ea_cons ev_c ea_nil)) (rc_isx he T.e_NoNumber (.own _) T.q_NoNumber_NoNumber)) ea_nil))) (by decide)) fun p H1 np e1 hp => ?_
      refine q_when (et_or (et_test (ev_ne (ev_countB (ev_var rfl) (sq_of hp) (ea_cons ev_c ea_nil)) ev_c rfl)) fun _ => et_not (et_B (ev_cb (ea_cons (ev_var rfl) (ea_cons ev_c ea_nil)) (rc_isx (e1 _ _ he) T.e_NoNumber (.ty _) T.q_NoNumber_ValueError)))) (fun hb => absurd hb (by decide)) (fun _ H2 e2 => ?_)
      refine s_ret (ev_ixN (i := 2) (el_lst (ea_cons ev_c (ea_cons ev_c (ea_cons ev_c ea_nil))) (by decide)) (fun H3 e3 => ev_indexB (n := 2) (ev_var rfl) (sq_of (e3 _ _ (e2 _ _ hp))) (ea_cons ev_c ea_nil) rfl (fun m c hm hc => ?_)) rfl) fun H3 e3 => q H3 ((e1.trans e2).trans e3)
      have : m = 0 ∨ m = 1 := by omega
      rcases this with rfl | rfl
      · cases hc
        exact Bool.false_ne_true
      · cases hc
        exact Bool.false_ne_true
theorem spv_name {NP NF NN C e : Addr} {t : Str} {H : Hp} (he : H e = some (ErrO (.ref C) e)) (hc : NameOf NP NF NN C t) : SpV (sp_law_name NP NF NN) [.ref e] H (.str t) := fun H1 ex _ q _ => ⟨e, C, t, rfl, ex _ _ he, hc, q⟩
theorem ret_name {NP NF NN C e : Addr} {t : Str} {E : XK} {σ : L2.St} {D : Ends} {H : Hp} (hx : σ[3]? = some (some (.ref e))) (he : H e = some (ErrO (.ref C) e)) (hc : NameOf NP NF NN C t) (q : ∀ H2, Ex H H2 → D.rt (.str t) H2) :
    tRet (tIf (tTest (tOp (fun x y H Q => y = .non ∧ Q (.bl (decide (x = .non))) H) (tVar 3) (tC .non))) (tC (.str "")) (tCall (sp_law_name NP NF NN) [] E (tCons (tVar 3) tNil))) D σ H :=
  s_ret (ev_if (et_test (ev_isN (ev_var hx))) (fun z => by simp at z) fun _ => ev_call (ea_cons (ev_var hx) ea_nil) (spv_name he hc)) q
theorem ret_none {NP NF NN : Addr} {E : XK} {σ : L2.St} {D : Ends} {H : Hp} (hx : σ[3]? = some (some .non)) (q : ∀ H2, Ex H H2 → D.rt (.str "") H2) :
    tRet (tIf (tTest (tOp (fun x y H Q => y = .non ∧ Q (.bl (decide (x = .non))) H) (tVar 3) (tC .non))) (tC (.str "")) (tCall (sp_law_name NP NF NN) [] E (tCons (tVar 3) tNil))) D σ H :=
  s_ret (ev_if (et_test (ev_isN (ev_var hx))) (fun _ => ev_c) fun z => by simp at z) q
def sp_law_told (K : PySem.W.Frag) : Sp := fun vs H Q _ => ∃ (w : Int) (x y : V), vs = [.int w, x, y] ∧ ((AskBad K H w x y ∧ RetV (.str "parting") H Q) ∨ (SameP H x y ∧ ∀ t : Str, (t = "" ∨ t = "fit" ∨ t = "number") → RetV (.str t) H Q))
theorem ok_law_told (T : Tx K mg) : FnOk P w K mg base CX0 8 T.a_law_told T.d_law_told ["_law_which", "_law_one", "_law_other"] (sp_law_told K) := by
  refine T.F_law_told.ok sc_law_told (fun vs H Q E h => ?_) (fun cdv A outer s H vs Q E hr h => ?_)
  · obtain ⟨w, x, y, rfl, _⟩ := h
    rfl
  · obtain ⟨w, x, y, rfl, h⟩ := h
    refine ⟨_, (pss_cons (ps_set (i := 3) sc_law_told.nd rfl (Or.inl rfl) pe_non)
    (pss_cons (ps_try_keep (tb := (fun W => tDrop (tCallS (sp_asked K T.C_NoParting T.C_NoFit T.C_NoNumber) (WE W) (tCons (tVar 0) (tCons (tVar 1) (tCons (tVar 2) tNil)))))) (Wout := fun _ _ _ _ => False) (i := 4) (j := 3) rfl rfl rfl sc_law_told.nd rfl rfl rfl rfl ⟨rfl, by decide, Or.inl T.g_PartError⟩ takes0
      (fun W pn xe tk _ => (pss_one (ps_expr (pe_callS (ok_law_asked T) (hr.mono (by decide)) (by rfl) T.g_law_asked T.F_law_asked.kp T.b_law_asked (fun σ => passAt tk σ) (by exact (pa_cons (pv 0) (pa_cons (pv 1) (pa_cons (pv 2) pa_nil)))))))))
    (pss_one (ps_ret (pe_ifExp (pt_cmpR op_isN (pv 3) pe_non (nomark _)) pe_str (pe_call (ok_law_name T) (hr.mono (by decide)) (by rfl) T.g_law_name T.F_law_name.kp T.b_law_name .nil pass0 (pa_cons (pv 3) pa_nil))))))), ?_⟩
    refine q_asg ev_c fun H1 e1 => ?_
    rcases h with ⟨hb, q⟩ | ⟨hs, q⟩
    · refine ⟨.int w, rfl, x, rfl, y, rfl, w, x, y, rfl, .inl ⟨hb.mono e1, fun H3 e3 => ⟨true, T.m_NoParting_PartError, fun _ => ⟨rfl, fun e he => ?_⟩, fun z => by cases z⟩⟩⟩
      exact ret_name rfl upd_same (.inl ⟨rfl, rfl⟩) fun H4 e4 => q H4 (((e1.trans e3).trans (Ex.new he)).trans e4)
    · refine ⟨.int w, rfl, x, rfl, y, rfl, w, x, y, rfl, .inr ⟨hs.mono e1, fun H3 e3 => ⟨⟨true, T.m_NoFit_PartError, fun _ => ⟨rfl, fun e he => ?_⟩, fun z => by cases z⟩, ⟨true, T.m_NoNumber_PartError, fun _ => ⟨rfl, fun e he => ?_⟩, fun z => by cases z⟩, ?_⟩⟩⟩
      · exact ret_name rfl upd_same (.inr (.inl ⟨rfl, rfl⟩)) fun H4 e4 => q _ (.inr (.inl rfl)) H4 (((e1.trans e3).trans (Ex.new he)).trans e4)
      · exact ret_name rfl upd_same (.inr (.inr ⟨rfl, rfl⟩)) fun H4 e4 => q _ (.inr (.inr rfl)) H4 (((e1.trans e3).trans (Ex.new he)).trans e4)
      · exact ret_none rfl fun H4 e4 => q _ (.inl rfl) H4 ((e1.trans e3).trans e4)
/-- a whole and a number of its partings: which is none, is answered; else the parting -/
def sp_parting_ofA (K : PySem.W.Frag) (C : Addr) : Sp := fun vs H Q E => spBWN K C (fun _ => True) vs H Q E ∨ sp_parting_of C vs H Q E
theorem ok_parting_ofA (T : Tx K mg) : FnOk P w K mg base (L2.CX P w) 5 T.a_parting_of T.d_parting_of ["whole", "number"] (sp_parting_ofA K T.C_NoNumber) := fnOk_or (ok_parting_of_bad T) (ok_parting_of T)
def IsWh (x : V) : Prop := ∃ i : Int, x = .int i ∧ 0 ≤ i ∧ i ≤ 200
/-- what _law_counted is to be answered by NoNumber -/
def CntBad (K : PySem.W.Frag) (H : Hp) (w : Int) (x y : V) : Prop := (w = 0 ∧ BadW K H x) ∨ (w = 1 ∧ (BadW K H x ∨ (IsWh x ∧ y ≠ .non ∧ BadN K H y))) ∨ (w = 2 ∧ (BadW K H x ∨ (IsWh x ∧ True ∧ BadN K H y))) ∨
  (w = 2 ∧ ∃ W a : Nat, x = .int (W : Int) ∧ y = .int (a : Int) ∧ W ≤ 200 ∧ pt W W ≤ a) ∨ (w = 3 ∧ BadN K H x)
def sp_law_counted (K : PySem.W.Frag) : Sp := fun vs H Q _ => ∃ (w : Int) (x y : V), vs = [.int w, x, y] ∧ ((CntBad K H w x y ∧ RetV (.str "number") H Q) ∨ ((w = 2 ∧ ∃ W a : Nat, x = .int (W : Int) ∧ y = .int (a : Int) ∧ W ≤ 200 ∧ a < pt W W) ∧ RetV (.str "") H Q))
theorem isP_three : IsP [3] := ⟨by decide, by simp, by decide⟩
theorem isP_nine : IsP [9] := ⟨by decide, by simp, by decide⟩
theorem ok_law_counted (T : Tx K mg) : FnOk P w K mg base CX0 6 T.a_law_counted T.d_law_counted ["_law_which", "_law_first", "_law_second"] (sp_law_counted K) := by
  refine T.F_law_counted.ok sc_law_counted (fun vs H Q E h => ?_) (fun cdv A outer s H vs Q E hr h => ?_)
  · obtain ⟨w, x, y, rfl, _⟩ := h
    rfl
  · obtain ⟨w, x, y, rfl, h⟩ := h
    refine ⟨_, (pss_cons (ps_set (i := 3) sc_law_counted.nd rfl (Or.inl rfl) pe_non)
    (pss_cons (ps_try_keep (tb := (fun W => tIfS (tTest (tOp rEq (tVar 0) (tC (.int 0)))) (tDrop (tCallSD (spBWN K T.C_NoNumber (· ≠ .non)) [.non] (WE W) (tCons (tVar 1) tNil))) (tIfS (tTest (tOp rEq (tVar 0) (tC (.int 1)))) (tDrop (tCallS (spBWN K T.C_NoNumber (· ≠ .non)) (WE W) (tCons (tVar 1) (tCons (tVar 2) tNil)))) (tIfS (tTest (tOp rEq (tVar 0) (tC (.int 2)))) (tDrop (tCallS (sp_parting_ofA K T.C_NoNumber) (WE W) (tCons (tVar 1) (tCons (tVar 2) tNil)))) (tDrop (tCallS (spB4 K T.C_NoParting T.C_NoNumber) (WE W) (tCons (tLst (tCons (tC (.int 3)) tNil)) (tCons (tLst (tCons (tC (.int 9)) tNil)) (tCons (tVar 1) tNil))))))))) (Wout := fun _ _ _ _ => False) (i := 4) (j := 3) rfl rfl rfl sc_law_counted.nd rfl rfl rfl rfl ⟨rfl, by decide, Or.inl T.g_PartError⟩ takes0
      (fun W pn xe tk _ => (pss_one (ps_if (pt_cmpR op_eq (pv 0) pe_int (nomark _))
        (pss_one (ps_expr (pe_callSD (ok_how_many_bad T) (hr.mono (by decide)) (by rfl) T.g_how_many T.F_how_many.kp T.b1_how_many T.w_how_many (fun σ => passAt tk σ) (by exact (pa_cons (pv 1) pa_nil)))))
        (pss_one (ps_if (pt_cmpR op_eq (pv 0) pe_int (nomark _))
          (pss_one (ps_expr (pe_callS (ok_how_many_bad T) (hr.mono (by decide)) (by rfl) T.g_how_many T.F_how_many.kp T.b_how_many (fun σ => passAt tk σ) (by exact (pa_cons (pv 1) (pa_cons (pv 2) pa_nil))))))
          (pss_one (ps_if (pt_cmpR op_eq (pv 0) pe_int (nomark _))
            (pss_one (ps_expr (pe_callS (ok_parting_ofA T) (hr.mono (by decide)) (by rfl) T.g_parting_of T.F_parting_of.kp T.b_parting_of (fun σ => passAt tk σ) (by exact (pa_cons (pv 1) (pa_cons (pv 2) pa_nil))))))
            (pss_one (ps_expr (pe_callS (ok_put_square_bad T) (hr.mono (by decide)) (by rfl) T.g_put_square T.F_put_square.kp T.b_put_square (fun σ => passAt tk σ) (by exact (pa_cons (pe_lst (pa_cons pe_int pa_nil)) (pa_cons (pe_lst (pa_cons pe_int pa_nil)) (pa_cons (pv 1) pa_nil)))))))))))))))
    (pss_one (ps_ret (pe_ifExp (pt_cmpR op_isN (pv 3) pe_non (nomark _)) pe_str (pe_call (ok_law_name T) (hr.mono (by decide)) (by rfl) T.g_law_name T.F_law_name.kp T.b_law_name .nil pass0 (pa_cons (pv 3) pa_nil))))))), ?_⟩
    refine q_asg ev_c fun H1 e1 => ?_
    show tIfS _ _ _ _ _ _
    rcases h with ⟨hb, q⟩ | ⟨⟨rfl, W, a, rfl, rfl, hW, ha⟩, q⟩
    · refine s_ifw rfl (fun hw H2 e2 => ?_) (fun n0 => ?_) H1 (Ex.refl H1)
      · have e12 := e1.trans e2
        have b : BadW K H x := by
          rcases hb with h | h | h | h | h
          · exact h.2
          all_goals exfalso; have := h.1; omega
        refine ⟨x, rfl, x, .non, rfl, .inl (b.mono e12), fun H3 e3 => ⟨true, T.m_NoNumber_PartError, fun _ => ⟨rfl, fun e he => ?_⟩, fun z => by cases z⟩⟩
        exact ret_name rfl upd_same (.inr (.inr ⟨rfl, rfl⟩)) fun H4 e4 => q H4 (((e12.trans e3).trans (Ex.new he)).trans e4)
      refine s_ifw rfl (fun hw H2 e2 => ?_) (fun n1 => ?_)
      · have e12 := e1.trans e2
        have b : BadW K H x ∨ (IsWh x ∧ y ≠ .non ∧ BadN K H y) := by
          rcases hb with h | h | h | h | h
          · exfalso; have := h.1; omega
          · exact h.2
          all_goals exfalso; have := h.1; omega
        refine ⟨x, rfl, y, rfl, x, y, rfl, b.imp (·.mono e12) fun z => ⟨z.1, z.2.1, z.2.2.mono e12⟩, fun H3 e3 => ⟨true, T.m_NoNumber_PartError, fun _ => ⟨rfl, fun e he => ?_⟩, fun z => by cases z⟩⟩
        exact ret_name rfl upd_same (.inr (.inr ⟨rfl, rfl⟩)) fun H4 e4 => q H4 (((e12.trans e3).trans (Ex.new he)).trans e4)
      refine s_ifw rfl (fun hw H2 e2 => ?_) (fun n2 H2 e2 => ?_)
      · have e12 := e1.trans e2
        rcases hb with h | h | h | h | h
        · exfalso; have := h.1; omega
        · exfalso; have := h.1; omega
        · refine ⟨x, rfl, y, rfl, .inl ⟨x, y, rfl, h.2.imp (·.mono e12) fun z => ⟨z.1, z.2.1, z.2.2.mono e12⟩, fun H3 e3 => ⟨true, T.m_NoNumber_PartError, fun _ => ⟨rfl, fun e he => ?_⟩, fun z => by cases z⟩⟩⟩
          exact ret_name rfl upd_same (.inr (.inr ⟨rfl, rfl⟩)) fun H4 e4 => q H4 (((e12.trans e3).trans (Ex.new he)).trans e4)
        · obtain ⟨_, W, a, rfl, rfl, hW, ha⟩ := h
          refine ⟨_, rfl, _, rfl, .inr ⟨W, a, rfl, hW, fun _ H3 e3 => ⟨true, T.m_NoNumber_PartError, fun _ => ⟨rfl, fun e he => ?_⟩, fun z => by cases z⟩, fun z => by omega⟩⟩
          exact ret_name rfl upd_same (.inr (.inr ⟨rfl, rfl⟩)) fun H4 e4 => q H4 (((e12.trans e3).trans (Ex.new he)).trans e4)
        · exfalso; have := h.1; omega
      · have e12 := e1.trans e2
        have b : BadN K H x := by
          rcases hb with h | h | h | h | h
          · exfalso; have := h.1; omega
          · exfalso; have := h.1; omega
          · exfalso; have := h.1; omega
          · exfalso; have := h.1; omega
          · exact h.2
        refine ⟨by show 1 ≤ sizeLine; decide, fun p3 np3 => ⟨by show 1 ≤ sizeLine; decide, fun p9 np9 => ⟨x, rfl, ?_⟩⟩⟩
        have e5 : Ex H (upd (upd H2 p3 (.lst [.int 3])) p9 (.lst [.int 9])) := (e12.trans (Ex.new np3)).trans (Ex.new np9)
        refine ⟨_, _, x, rfl, .inr ⟨⟨p3, [3], rfl, Ex.new np9 _ _ upd_same, isP_three⟩, ⟨p9, [9], rfl, upd_same, isP_nine⟩, b.mono e5, fun H3 e3 => ⟨true, T.m_NoNumber_PartError, fun _ => ⟨rfl, fun e he => ?_⟩, fun z => by cases z⟩⟩⟩
        exact ret_name rfl upd_same (.inr (.inr ⟨rfl, rfl⟩)) fun H4 e4 => q H4 (((e5.trans e3).trans (Ex.new he)).trans e4)
    · refine s_ifw rfl (fun hw => absurd hw (by decide)) (fun n0 => ?_) H1 (Ex.refl H1)
      refine s_ifw rfl (fun hw => absurd hw (by decide)) (fun n1 => ?_)
      refine s_ifw rfl (fun hw H2 e2 => ?_) (fun n2 => absurd rfl n2)
      refine ⟨_, rfl, _, rfl, .inr ⟨W, a, rfl, hW, fun z => by omega, fun _ p f H3 _ e3 _ _ => ?_⟩⟩
      exact ret_none rfl fun H4 e4 => q H4 (((e1.trans e2).trans e3).trans e4)
theorem spv_counted {w : Int} {x y : V} {H : Hp} (h : CntBad K H w x y) : SpV (sp_law_counted K) [.int w, x, y] H (.str "number") := fun H1 e _ q _ => ⟨w, x, y, rfl, .inl ⟨by
  rcases h with h | h | h | h | h
  · exact .inl ⟨h.1, h.2.mono e⟩
  · exact .inr (.inl ⟨h.1, h.2.imp (·.mono e) fun z => ⟨z.1, z.2.1, z.2.2.mono e⟩⟩)
  · exact .inr (.inr (.inl ⟨h.1, h.2.imp (·.mono e) fun z => ⟨z.1, z.2.1, z.2.2.mono e⟩⟩))
  · exact .inr (.inr (.inr (.inl h)))
  · exact .inr (.inr (.inr (.inr ⟨h.1, h.2.mono e⟩))), q⟩⟩
theorem spv_told {w : Int} {x y : V} {H : Hp} (h : AskBad K H w x y) : SpV (sp_law_told K) [.int w, x, y] H (.str "parting") := fun H1 e _ q _ => ⟨w, x, y, rfl, .inl ⟨h.mono e, q⟩⟩
end
/-! ### _law_numbers -/
section
variable {P : Program} {w : World} {K : PySem.W.Frag} {mg : Str → Option Value} {base : Heap}
/-- what is no whole, and no number either, but for 201 -/
def OddN (K : PySem.W.Frag) (H : Hp) (v : V) : Prop := BadW K H v ∧ ∃ (d : PyData) (c n : Bool), Dp K H v d ∧ SeqAt.shaped d = true ∧ d.depth ≤ 8 ∧ PyData.eqv d (.int 201) = c ∧ PyData.eqv (.int 201) d = c ∧ PyData.eqv .none d = n ∧ (c = false → BadN K H v) ∧ (n = false → v ≠ .non)
theorem OddN.mono {H H' : Hp} {v : V} (e : Ex H H') (h : OddN K H v) : OddN K H' v := by
  obtain ⟨hb, d, c, n, hd, hs, h8, h1, h2, h3, h4, h5⟩ := h
  exact ⟨hb.mono e, d, c, n, Dp.mono e _ _ hd, hs, h8, h1, h2, h3, fun z => (h4 z).mono e, h5⟩
theorem oddN_int {H : Hp} {i : Int} (h : i < 0) : OddN K H (.int i) :=
  ⟨.inl ⟨numV_int, fun j e => by cases e; exact h⟩, .int i, false, false, .int i, by simp [SeqAt.shaped, PyData.canLay0, PyData.depth], by simp [PyData.depth], by simp [PyData.eqv]; omega, by simp [PyData.eqv]; omega, by simp [PyData.eqv], fun _ => ⟨numV_int, fun j e => by cases e; exact h⟩, fun _ z => by cases z⟩
theorem oddN_201 {H : Hp} : OddN K H (.int 201) :=
  ⟨.inr ⟨201, rfl, by decide⟩, .int 201, true, false, .int 201, by simp [SeqAt.shaped, PyData.canLay0, PyData.depth], by simp [PyData.depth], by simp [PyData.eqv], by simp [PyData.eqv], by simp [PyData.eqv], (fun z => by cases z), fun _ z => by cases z⟩
theorem oddN_bl {H : Hp} {b : Bool} : OddN K H (.bl b) :=
  ⟨.inl ⟨numV_bl, fun j e => by cases e⟩, .bool b, false, false, .bl b, by simp [SeqAt.shaped, PyData.canLay0, PyData.depth], by simp [PyData.depth], by cases b <;> simp [PyData.eqv], by cases b <;> simp [PyData.eqv], by simp [PyData.eqv], fun _ => ⟨numV_bl, fun j e => by cases e⟩, fun _ z => by cases z⟩
theorem oddN_non {H : Hp} : OddN K H .non :=
  ⟨.inl ⟨numV_non, fun j e => by cases e⟩, .none, false, true, .non, by simp [SeqAt.shaped, PyData.canLay0, PyData.depth], by simp [PyData.depth], by simp [PyData.eqv], by simp [PyData.eqv], by simp [PyData.eqv], fun _ => ⟨numV_non, fun j e => by cases e⟩, fun z => by cases z⟩
theorem oddN_str {H : Hp} {s : Str} (h : PyData.strOk s = true) : OddN K H (.str s) :=
  ⟨.inl ⟨numV_str, fun j e => by cases e⟩, .str s, false, false, .str s, by simp [SeqAt.shaped, PyData.canLay0, PyData.depth, h], by simp [PyData.depth], by simp [PyData.eqv], by simp [PyData.eqv], by simp [PyData.eqv], fun _ => ⟨numV_str, fun j e => by cases e⟩, fun _ z => by cases z⟩
theorem oddN_lst {H : Hp} {a : Addr} {ns : List Int} (h : Ll H a ns) : OddN K H (.ref a) :=
  ⟨.inl ⟨numV_lst h, fun j e => by cases e⟩, .list (ns.map PyData.int), false, false, dp_ints h.sq, shaped_ints ns, by have := SeqAt.depth_of_shaped (shaped_ints ns); simp [PyData.depth, PySem.W.ke_depthAll], by simp [PyData.eqv], by simp [PyData.eqv], by simp [PyData.eqv], fun _ => ⟨numV_lst h, fun j e => by cases e⟩, fun _ z => by cases z⟩
theorem numV_tup {H : Hp} {a : Addr} {zs : List V} (h : H a = some (.tup zs)) : NumV K H (.ref a) := ⟨.type "tuple", false, false, fun _ e => .base (.tup (e _ _ h)), kit_ty (by decide +kernel), kit_ty (by decide +kernel), rfl⟩
theorem oddN_tup {H : Hp} {a : Addr} {i : Int} (h : H a = some (.tup [.int i])) : OddN K H (.ref a) :=
  ⟨.inl ⟨numV_tup h, fun j e => by cases e⟩, .tuple [.int i], false, false, .tup (st_of h) (.cons (.int i) .nil), by simp [SeqAt.shaped, PyData.canLay0, PyData.canLayAll0, PyData.depth, PyData.depthAll], by simp [PyData.depth, PyData.depthAll], by simp [PyData.eqv], by simp [PyData.eqv], by simp [PyData.eqv], fun _ => ⟨numV_tup h, fun j e => by cases e⟩, fun _ z => by cases z⟩
theorem spv_counted0 {H : Hp} : SpV (sp_law_counted K) [.int 2, .int 5, .int 6] H (.str "") := fun H1 _ _ q _ => ⟨2, _, _, rfl, .inr ⟨⟨rfl, 5, 6, rfl, rfl, by decide, by decide +kernel⟩, q⟩⟩
def sp_law_numbers : Sp := fun vs H Q _ => ∃ n : Int, vs = [.int n] ∧ 0 ≤ n ∧ RetV (.bl true) H Q
theorem ok_law_numbers (T : Tx K mg) : FnOk P w K mg base CX0 7 T.a_law_numbers T.d_law_numbers ["_law_number_here"] sp_law_numbers := by
  refine T.F_law_numbers.ok sc_law_numbers (fun vs H Q E h => ?_) (fun cdv A outer s H vs Q E hr h => ?_)
  · obtain ⟨n, rfl, _⟩ := h
    rfl
  · obtain ⟨n, rfl, h0, q⟩ := h
    refine ⟨_, (pss_cons (ps_set (i := 1) sc_law_numbers.nd rfl (Or.inl rfl) (pe_ix (ixlK (K := K) rfl) (pe_lst (pa_cons (pe_un un_neg pe_int) (pa_cons pe_bl (pa_cons pe_non (pa_cons pe_str (pa_cons (pe_lst (pa_cons pe_int pa_nil)) (pa_cons (pe_un un_neg (pe_op op_pow pe_int pe_int)) (pa_cons (pe_tup (pa_cons pe_int pa_nil)) (pa_cons pe_int pa_nil))))))))) (pe_op op_mod (pv 0) pe_int) (fun _ _ => rfl)))
    (pss_cons (ps_for PassesOwn.never rfl (pi_range1 rfl T.n_range (pa_cons pe_int pa_nil)) (pg_name (i := 2) sc_law_numbers.nd rfl (Or.inl rfl))
      (pss_one (ps_if (PW.pt (pw_or (pt_cmpR op_ne (pe_call (ok_law_counted T) (hr.mono (by decide)) (by rfl) T.g_law_counted T.F_law_counted.kp T.b_law_counted .nil pass0 (pa_cons (pv 2) (pa_cons (pv 1) (pa_cons pe_int pa_nil)))) pe_str (nomark _)) (pw_or1 (pt_cmpR op_ne (pe_call (ok_law_counted T) (hr.mono (by decide)) (by rfl) T.g_law_counted T.F_law_counted.kp T.b_law_counted .nil pass0 (pa_cons (pv 2) (pa_cons (pv 1) (pa_cons pe_non pa_nil)))) pe_str (nomark _)))))
        (pss_one (ps_ret pe_bl))
        pss_nil)))
    (pss_cons (ps_if (PW.pt (pw_and (pt_cmpR (neAK (K := K) rfl hr.units) (pv 1) pe_int (nomark _)) (pw_and1 (PW.pt (pw_or (pt_cmpR op_ne (pe_call (ok_law_counted T) (hr.mono (by decide)) (by rfl) T.g_law_counted T.F_law_counted.kp T.b_law_counted .nil pass0 (pa_cons pe_int (pa_cons (pv 1) (pa_cons pe_int pa_nil)))) pe_str (nomark _)) (pw_or1 (pt_cmpR op_ne (pe_call (ok_law_counted T) (hr.mono (by decide)) (by rfl) T.g_law_counted T.F_law_counted.kp T.b_law_counted .nil pass0 (pa_cons pe_int (pa_cons pe_int (pa_cons (pv 1) pa_nil)))) pe_str (nomark _))))))))
      (pss_one (ps_ret pe_bl))
      pss_nil)
    (pss_cons (ps_if (PW.pt (pw_and (pt_cmpR (notInTK (K := K) rfl hr.units) (pv 1) (pe_tup (pa_cons pe_non (pa_cons pe_int pa_nil))) (by rfl)) (pw_and1 (pt_cmpR op_ne (pe_call (ok_law_counted T) (hr.mono (by decide)) (by rfl) T.g_law_counted T.F_law_counted.kp T.b_law_counted .nil pass0 (pa_cons pe_int (pa_cons pe_int (pa_cons (pv 1) pa_nil)))) pe_str (nomark _)))))
      (pss_one (ps_ret pe_bl))
      pss_nil)
    (pss_one (ps_ret (pe_and (pe_cmpR op_eq (pe_call (ok_law_counted T) (hr.mono (by decide)) (by rfl) T.g_law_counted T.F_law_counted.kp T.b_law_counted .nil pass0 (pa_cons pe_int (pa_cons pe_int (pa_cons (pe_op op_add pe_int (pe_op op_mod (pe_op op_fdiv (pv 0) pe_int) pe_int)) pa_nil)))) pe_str (nomark _)) (pe_one (pe_cmpR op_eq (pe_call (ok_law_counted T) (hr.mono (by decide)) (by rfl) T.g_law_counted T.F_law_counted.kp T.b_law_counted .nil pass0 (pa_cons pe_int (pa_cons pe_int (pa_cons pe_int pa_nil)))) pe_str (nomark _)))))))))), ?_⟩
    have i0 : 0 ≤ n % 8 := by omega
    have i1 : n % 8 < 8 := by omega
    refine q_asgP (P := fun v H1 => OddN K H1 v) ?_ fun v H1 e1 hv => ?_
    · generalize hi : n % 8 = i at i0 i1
      refine evP_ixP (i := i) (ep_lst (eap_cons (ev_un ev_c ru_neg) (eap_cons ev_c (eap_cons ev_c (eap_cons ev_c (eap_consL (zs := [5].map V.int) (el_lst (ea_cons ev_c ea_nil) (by show 1 ≤ 100000; decide)) (eap_cons (ev_un (ev_rI ev_c ev_c ⟨by decide, by decide, by decide⟩) ru_neg) (eap_consU (eu_tup (ea_cons ev_c ea_nil) (by show 1 ≤ 100000; decide)) (eap_cons ev_c eap_nil)))))))) (mono_cons (mono_cons (mono_cons (mono_cons (mono_consL (mono_cons (mono_consU (mono_cons mono_nil)))))))) ?_)
        (fun v H1 e1 _ => ev_is (ev_rI (ev_var rfl) ev_c (by decide)) (by rw [hi])) (fun v H1 H2 e h => h.mono e) ?_
      · rintro vs H1 ⟨_, rfl, _, rfl, _, rfl, _, rfl, _, _, rfl, _, _, _, rfl, _, _, rfl, _, _, _, rfl, rfl⟩
        show 8 ≤ 100000
        decide
      · rintro v H1 e1 ⟨o, vs, rfl, _, ho, ⟨_, rfl, _, rfl, _, rfl, _, rfl, b, _, rfl, _, hb, _, rfl, t, _, rfl, _, ht, _, rfl, rfl⟩⟩
        have c8 : i = 0 ∨ i = 1 ∨ i = 2 ∨ i = 3 ∨ i = 4 ∨ i = 5 ∨ i = 6 ∨ i = 7 := by omega
        rcases c8 with rfl | rfl | rfl | rfl | rfl | rfl | rfl | rfl
        · exact ⟨o, _, _, rfl, ho, rfl, oddN_int (by decide)⟩
        · exact ⟨o, _, _, rfl, ho, rfl, oddN_bl⟩
        · exact ⟨o, _, _, rfl, ho, rfl, oddN_non⟩
        · exact ⟨o, _, _, rfl, ho, rfl, oddN_str (by decide +kernel)⟩
        · exact ⟨o, _, _, rfl, ho, rfl, oddN_lst hb⟩
        · exact ⟨o, _, _, rfl, ho, rfl, oddN_int (by decide)⟩
        · exact ⟨o, _, _, rfl, ho, rfl, oddN_tup ht⟩
        · exact ⟨o, _, _, rfl, ho, rfl, oddN_201⟩
    refine q_forR1 (n := 3) (ea_cons ev_c ea_nil) ⟨by decide, by decide⟩ (fun i σ' H' => ∃ y : Option V, σ' = [some (.int n), some v, y] ∧ Ex H1 H') (fun H2 e2 => ⟨none, rfl, e2⟩) (fun i σ' H' hi hP => ?_) (fun σ' H' hP => ?_)
    · obtain ⟨y, rfl, eH⟩ := hP
      have hw := (hv.mono eH).1
      have cb : ∀ z : V, CntBad K H' (i : Int) v z := fun z => by
        have c3 : i = 0 ∨ i = 1 ∨ i = 2 := by omega
        rcases c3 with rfl | rfl | rfl
        · exact .inl ⟨rfl, hw⟩
        · exact .inr (.inl ⟨rfl, .inl hw⟩)
        · exact .inr (.inr (.inl ⟨rfl, .inl hw⟩))
      refine s_when (b := false) (et_is (et_or (et_test (ev_ne (ev_call (ea_cons (ev_var rfl) (ea_cons (ev_var rfl) (ea_cons ev_c ea_nil))) (spv_counted (cb _))) ev_c rfl)) fun _ => et_test (ev_ne (ev_call (ea_cons (ev_var rfl) (ea_cons (ev_var rfl) (ea_cons ev_c ea_nil))) (spv_counted (cb _))) ev_c rfl)) rfl) (fun z => by cases z) (fun _ H2 e2 => ⟨_, rfl, eH.trans e2⟩)
    · obtain ⟨y, rfl, eH⟩ := hP
      obtain ⟨hw, d, c, m, hd, hs, h8, k1, k2, k3, k4, k5⟩ := hv.mono eH
      have e1H := e1.trans eH
      refine q_when (b := false) (et_is (et_and (b := false) (et_test (ev_op (ev_var rfl) ev_c (rv_neC hd hs (.int 201) (by simp [SeqAt.shaped, PyData.canLay0, PyData.depth])))) fun hc => ?_) (Bool.and_false _)) (fun z => by cases z) (fun _ H2 e2 => ?_)
      · have hn := k4 (by rw [k1] at hc; simpa using hc)
        refine et_is (et_or (et_test (ev_ne (ev_call (ea_cons ev_c (ea_cons (ev_var rfl) (ea_cons ev_c ea_nil))) (spv_counted (.inr (.inr (.inr (.inr ⟨rfl, hn⟩)))))) ev_c rfl)) fun _ => et_test (ev_ne (ev_call (ea_cons ev_c (ea_cons ev_c (ea_cons (ev_var rfl) ea_nil))) (spv_counted (.inr (.inr (.inl ⟨rfl, .inr ⟨⟨7, rfl, by decide, by decide⟩, trivial, hn⟩⟩))))) ev_c rfl)) rfl
      refine q_when (b := false) (et_is (et_and (b := false) (et_test (ev_opU (ev_var rfl) (eu_tup (ea_cons ev_c (ea_cons ev_c ea_nil)) (by show 2 ≤ 100000; decide)) fun t H3 ht e3 H4 e4 Q q => ⟨d, [.none, .int 201], Dp.mono ((e2.trans e3).trans e4) _ _ hd, .tup (st_of (e4 _ _ ht)) (.cons .non (.cons (.int 201) .nil)), SeqAt.canLay_of_shaped hs, h8, by simp [PyData.canLayAll0, PyData.canLay0], q H4 (Ex.refl H4)⟩)) fun hc => ?_) (Bool.and_false _)) (fun z => by cases z) (fun _ H3 e3 => ?_)
      · have hc' : (m || c) = false := by
          have : (!([PyData.none, PyData.int 201].any fun z => PyData.eqv z d)) = true := hc
          simpa [List.any_cons, k2, k3] using this
        rw [Bool.or_eq_false_iff] at hc'
        exact et_is (et_test (ev_ne (ev_call (ea_cons ev_c (ea_cons ev_c (ea_cons (ev_var rfl) ea_nil))) (spv_counted (.inr (.inl ⟨rfl, .inr ⟨⟨7, rfl, by decide, by decide⟩, k5 hc'.1, (k4 hc'.2).mono e2⟩⟩)))) ev_c rfl)) rfl
      · have ha : 0 ≤ n / 8 % 3 := by omega
        have b7 : CntBad K H3 2 (.int 5) (.int (7 + n / 8 % 3)) := .inr (.inr (.inr (.inl ⟨rfl, 5, (7 + n / 8 % 3).toNat, rfl, by rw [Int.toNat_of_nonneg (by omega)], by decide, by
          have : pt 5 5 = 7 := by decide +kernel
          omega⟩)))
        refine s_ret (ev_is (ev_andV (ev_eq (ev_call (ea_cons ev_c (ea_cons ev_c (ea_cons (ev_rI0 ev_c (ev_rI (ev_rI (ev_var rfl) ev_c ⟨by decide, by decide⟩) ev_c (by decide))) ea_nil))) (spv_counted b7)) ev_c rfl) fun _ => ev_eq (ev_call (ea_cons ev_c (ea_cons ev_c (ea_cons ev_c ea_nil))) spv_counted0) ev_c rfl) rfl) fun H4 e4 => q H4 (((e1H.trans e2).trans e3).trans e4)
end
/-! ### _law_spoilt -/
theorem strOk_of (s : String) : PyData.strOk (Str.ofString s) = true := by
  show (Str.ofString s).cps.all (· < 0x110000) = true
  rw [Str.ofString_eq_toList]
  rw [Array.all_eq_true']
  intro x hx
  simp only [List.mem_toArray, List.mem_map] at hx
  obtain ⟨c, _, rfl⟩ := hx
  have h := c.valid
  have : c.toNat < 0x110000 := by
    rcases h with h | h
    · show c.val.toNat < _
      omega
    · exact h.2
  simpa using this
section
variable {P : Program} {w : World} {K : PySem.W.Frag} {mg : Str → Option Value} {base : Heap}
/-- an item of a list of which it is known what it is -/
def ItV (K : PySem.W.Frag) (H : Hp) (z : V) : Prop := NumV K H z ∧ ∃ d, Dp K H z d ∧ flD d = true
theorem ItV.mono {H H' : Hp} {z : V} (e : Ex H H') (h : ItV K H z) : ItV K H' z := by
  obtain ⟨hn, d, hd, hf⟩ := h
  exact ⟨hn.mono e, d, Dp.mono e _ _ hd, hf⟩
theorem itV_int {H : Hp} {i : Int} : ItV K H (.int i) := ⟨numV_int, .int i, .int i, rfl⟩
theorem itAll {H : Hp} : ∀ zs : List V, (∀ z ∈ zs, ItV K H z) → ∃ ds, DpAll K H zs ds ∧ ds.all flD = true
  | [], _ => ⟨[], .nil, rfl⟩
  | z :: zs, h => by
    obtain ⟨_, d, hd, hf⟩ := h z List.mem_cons_self
    obtain ⟨ds, hds, hfs⟩ := itAll zs fun y hy => h y (List.mem_cons_of_mem _ hy)
    exact ⟨d :: ds, .cons hd hds, by rw [List.all_cons, hf, hfs]; rfl⟩
def NoV (K : PySem.W.Frag) (H : Hp) (x : V) : Prop := NoL K H x ∧ ((∃ d, Dp K H x d ∧ SeqAt.shaped d = true ∧ d.plain = true) ∨ ∃ (a : Addr) (ks : List (Key × V)), x = .ref a ∧ H a = some (.dK ks) ∧ ∀ p ∈ ks, valV ks p.1 = some p.2 ∧ flatB p.2 = true)
def LsV (K : PySem.W.Frag) (H : Hp) (x : V) : Prop := ∃ (a : Addr) (zs : List V), x = .ref a ∧ H a = some (.lst zs) ∧ (∀ z ∈ zs, ItV K H z) ∧ partV 200 0 zs = false
def Spo (K : PySem.W.Frag) (H : Hp) (x : V) : Prop := NoV K H x ∨ LsV K H x
theorem NoL.mono {H H' : Hp} {x : V} (e : Ex H H') (h : NoL K H x) : NoL K H' x := by
  obtain ⟨t, ty, k⟩ := h
  exact ⟨t, fun H1 e1 => ty H1 (e.trans e1), k⟩
theorem NoV.mono {H H' : Hp} {x : V} (e : Ex H H') (h : NoV K H x) : NoV K H' x := by
  obtain ⟨hn, ⟨d, hd, h1, h2⟩ | ⟨a, ks, hx, ha, hk⟩⟩ := h
  · exact ⟨hn.mono e, .inl ⟨d, Dp.mono e _ _ hd, h1, h2⟩⟩
  · exact ⟨hn.mono e, .inr ⟨a, ks, hx, e _ _ ha, hk⟩⟩
theorem LsV.mono {H H' : Hp} {x : V} (e : Ex H H') (h : LsV K H x) : LsV K H' x := by
  obtain ⟨a, zs, hx, ha, hi, hp⟩ := h
  exact ⟨a, zs, hx, e _ _ ha, fun z hz => (hi z hz).mono e, hp⟩
theorem Spo.mono {H H' : Hp} {x : V} (e : Ex H H') (h : Spo K H x) : Spo K H' x := h.imp (·.mono e) (·.mono e)
theorem Spo.bad {H : Hp} {x : V} (h : Spo K H x) : BadP K H x := by
  rcases h with h | ⟨a, zs, hx, ha, hi, hp⟩
  · exact .inl ⟨h.1, rfl⟩
  · exact .inr ⟨a, zs, hx, ha, fun z hz => (hi z hz).1, hp⟩
/-- behind numbers that go, what does not go stays bad -/
theorem partV_app {r : List V} (h : ∀ a w : Int, a ≤ 200 → partV a w r = false) : ∀ (ns : List Int) (a w : Int), a ≤ 200 → partV a w (ns.map V.int ++ r) = false
  | [], a, w, ha => h a w ha
  | x :: ns, a, w, ha => by
    show (if x < 1 ∨ a < x then false else if 200 < w + x then false else partV x (w + x) (ns.map V.int ++ r)) = false
    by_cases c : x < 1 ∨ a < x
    · rw [if_pos c]
    · rw [if_neg c]
      by_cases c2 : 200 < w + x
      · rw [if_pos c2]
      · rw [if_neg c2]
        exact partV_app h ns x (w + x) (by omega)
/-- an item that spoils a parting wherever it stands -/
def OddI (K : PySem.W.Frag) (H : Hp) (v : V) : Prop := ItV K H v ∧ ∀ (a w : Int) (r : List V), a ≤ 200 → partV a w (v :: r) = false
theorem OddI.mono {H H' : Hp} {v : V} (e : Ex H H') (h : OddI K H v) : OddI K H' v := ⟨h.1.mono e, h.2⟩
theorem oddI_no {H : Hp} {v : V} (h : ItV K H v) (hi : isI v = false) : OddI K H v := ⟨h, fun _ _ _ _ => partV_no hi⟩
theorem oddI_int {H : Hp} {i : Int} (h : i < 1 ∨ 200 < i) : OddI K H (.int i) := ⟨itV_int, fun a w r ha => by
  show (if i < 1 ∨ a < i then false else _) = false
  rw [if_pos (by omega)]⟩
theorem itV_lst {H : Hp} {a : Addr} {i : Int} (h : H a = some (.lst [.int i])) : ItV K H (.ref a) := ⟨numV_lst h, .list [.int i], .lst (sq_of h) (.cons (.int i) .nil), rfl⟩
theorem partV_sum {ns : List Int} (h : 200 < ns.sum) : partV 200 0 (ns.map V.int) = false := by
  rw [partV_ints]
  show isPart ns = false
  cases c : isPart ns with
  | false => rfl
  | true =>
    have := (isPart_iff.mp c).2.2
    omega
/-- a list that a statement tells: numbers, odd things, numbers -/
theorem lsV_mid {H : Hp} {p : Addr} {as bs : List Int} {ms : List V} (hp : H p = some (.lst (as.map V.int ++ ms ++ bs.map V.int))) (hm : ∀ z ∈ ms, ItV K H z) (hb : ∀ a w : Int, a ≤ 200 → partV a w (ms ++ bs.map V.int) = false) : LsV K H (.ref p) := by
  refine ⟨p, _, rfl, hp, fun z hz => ?_, ?_⟩
  · rcases List.mem_append.mp hz with hz | hz
    · rcases List.mem_append.mp hz with hz | hz
      · obtain ⟨i, _, rfl⟩ := List.mem_map.mp hz
        exact itV_int
      · exact hm z hz
    · obtain ⟨i, _, rfl⟩ := List.mem_map.mp hz
      exact itV_int
  · rw [List.append_assoc]
    exact partV_app hb as 200 0 (by decide)
theorem noL_of {H : Hp} {x : V} {t : String} (ty : ∀ H1, Ex H H1 → TyX K H1 x (.type t)) (hk : PySem.W.kitOne K (.type t) (.type "list") = some false) : NoL K H x := ⟨.type t, ty, hk⟩
theorem noV_non {H : Hp} : NoV K H .non := ⟨noL_of (fun _ _ => .base .non) (kit_ty (by decide +kernel)), .inl ⟨.none, .non, by simp [SeqAt.shaped, PyData.canLay0, PyData.depth], rfl⟩⟩
theorem noV_int {H : Hp} {i : Int} : NoV K H (.int i) := ⟨noL_of (fun _ _ => .base (.int _)) (kit_ty (by decide +kernel)), .inl ⟨.int i, .int i, by simp [SeqAt.shaped, PyData.canLay0, PyData.depth], rfl⟩⟩
theorem noV_str {H : Hp} {s : Str} (h : PyData.strOk s = true) : NoV K H (.str s) := ⟨noL_of (fun _ _ => .base (.str _)) (kit_ty (by decide +kernel)), .inl ⟨.str s, .str s, by simp [SeqAt.shaped, PyData.canLay0, PyData.depth, h], rfl⟩⟩
theorem noV_tup {H : Hp} {a : Addr} {ns : List Int} (h : H a = some (.tup (ns.map V.int))) : NoV K H (.ref a) := ⟨noL_of (fun _ e => .base (.tup (e _ _ h))) (kit_ty (by decide +kernel)), .inl ⟨.tuple (ns.map PyData.int), .tup (st_of h) (dpall_ints ns),
  by simp [SeqAt.shaped, PyData.canLay0, PyData.depth, PySem.W.ke_canLayAll0, PySem.W.ke_depthAll], PyData.plain_of_canLay0 _ (by simp [PyData.canLay0, PySem.W.ke_canLayAll0])⟩⟩
theorem noV_dict {H : Hp} {a : Addr} {ks : List (Key × V)} (h : H a = some (.dK ks)) (hk : ∀ p ∈ ks, valV ks p.1 = some p.2 ∧ flatB p.2 = true) : NoV K H (.ref a) := ⟨noL_of (fun _ e => .base (.dK (e _ _ h))) (kit_ty (by decide +kernel)), .inr ⟨a, ks, rfl, h, hk⟩⟩
theorem mx_zero {ns : List Int} {k : Int} (hk : k ∈ 0 :: ns) (h : ∀ y ∈ 0 :: ns, y ≤ k) : k = mx ns := by
  have h0 := h 0 List.mem_cons_self
  rcases List.mem_cons.mp hk with e | hk
  · have h1 := mx_nn ns
    have h2 := foldl_max_le ns 0 0 (Int.le_refl _) fun x hx => by
      have := h x (List.mem_cons_of_mem _ hx)
      omega
    unfold mx at *
    omega
  · exact mx_eq h0 hk fun y hy => h y (List.mem_cons_of_mem _ hy)
theorem rc_str {i : Int} {H : Hp} (h : i.natAbs.log2 < 1920) : RC (fun xs H Q => ∃ i, xs = [.int i] ∧ i.natAbs.log2 < 1920 ∧ Q (.str (toString i)) H) [.int i] H (.str (toString i)) := fun H1 _ _ q => ⟨i, rfl, h, q H1 (Ex.refl H1)⟩
def sp_law_spoilt (K : PySem.W.Frag) : Sp := fun vs H Q _ => ∃ (a : Addr) (ns : List Int) (n : Int), vs = [.ref a, .int n] ∧ Ll H a ns ∧ IsP ns ∧ 0 ≤ n ∧ ∀ v H', Ex H H' → Spo K H' v → Q v H'
theorem ok_law_spoilt (T : Tx K mg) : FnOk P w K mg base CX0 1 T.a_law_spoilt T.d_law_spoilt ["_law_parting", "_law_number_here"] (sp_law_spoilt K) := by
  refine T.F_law_spoilt.ok sc_law_spoilt (fun vs H Q E h => ?_) (fun cdv A outer s H vs Q E hr h => ?_)
  · obtain ⟨a, ns, n, rfl, _⟩ := h
    rfl
  · obtain ⟨a, ns, n, rfl, hL, hp, h0, q⟩ := h
    refine ⟨_, (pss_cons (ps_set (i := 2) sc_law_spoilt.nd rfl (Or.inl rfl) (pe_op op_mod (pe_op op_fdiv (pv 1) pe_int) (pe_op op_add (pe_callB (lenK (K := K) rfl) (by rfl) T.n_len PySem.boot_len (pa_cons (pv 0) pa_nil)) pe_int)))
    (pss_cons (ps_set (i := 3) sc_law_spoilt.nd rfl (Or.inl rfl) (pe_lst (pa_cons pe_int (pa_cons (pe_un un_neg pe_int) (pa_cons (pe_un un_neg pe_int) (pa_cons pe_bl (pa_cons pe_bl (pa_cons pe_str (pa_cons pe_non (pa_cons (pe_lst (pa_cons pe_int pa_nil)) (pa_cons (pe_op op_pow pe_int pe_int) pa_nil)))))))))))
    (pss_cons (ps_set (i := 4) sc_law_spoilt.nd rfl (Or.inl rfl) (pe_op op_mod (pv 1) pe_int))
    (pss_cons (ps_if (pt_cmpR op_lt (pv 4) pe_int (nomark _))
      (pss_one (ps_ret (pe_op op_cat (pe_op op_cat (pe_slice (sllK (K := K) rfl) (pv 0) po_none (po_some (pv 2))) (pe_lst (pa_cons (pe_ix (ixlK (K := K) rfl) (pv 3) (pv 4) (fun _ _ => rfl)) pa_nil))) (pe_slice (sllK (K := K) rfl) (pv 0) (po_some (pv 2)) po_none))))
      pss_nil)
    (pss_cons (ps_if (pt_cmpR op_eq (pv 4) pe_int (nomark _))
      (pss_cons (ps_set (i := 5) sc_law_spoilt.nd rfl (Or.inl rfl) (pe_ifExp (pt_cmpR op_gt (pv 2) pe_int (nomark _)) (pe_ix (ixlK (K := K) rfl) (pv 0) (pe_op op_sub (pv 2) pe_int) (fun _ _ => rfl)) pe_int))
      (pss_one (ps_ret (pe_op op_cat (pe_op op_cat (pe_slice (sllK (K := K) rfl) (pv 0) po_none (po_some (pv 2))) (pe_lst (pa_cons (pv 5) (pa_cons (pe_op op_add (pv 5) pe_int) pa_nil)))) (pe_slice (sllK (K := K) rfl) (pv 0) (po_some (pv 2)) po_none)))))
      pss_nil)
    (pss_cons (ps_if (pt_cmpR op_eq (pv 4) pe_int (nomark _))
      (pss_one (ps_ret (pe_op op_cat (pe_lst (pa_cons (pe_op op_add (pe_op op_sub pe_int (pe_callB (sumK (K := K) rfl rfl) (by rfl) T.n_sum (by decide +kernel) (pa_cons (pv 0) pa_nil))) (pe_callB (maxK (K := K) rfl rfl) (by rfl) T.n_max (by decide +kernel) (pa_cons (pe_op op_cat (pe_lst (pa_cons pe_int pa_nil)) (pv 0)) pa_nil))) pa_nil)) (pv 0))))
      pss_nil)
    (pss_cons (ps_if (pt_cmpR op_eq (pv 4) pe_int (nomark _))
      (pss_one (ps_ret (pe_op op_rep (pe_lst (pa_cons pe_int pa_nil)) pe_int)))
      pss_nil)
    (pss_cons (ps_if (pt_cmpR op_eq (pv 4) pe_int (nomark _))
      (pss_one (ps_ret (pe_op op_cat (pe_lc (own := [("_law_part", 6)]) (g := gName 6) (by rfl) sc_law_spoilt.nd (pi_list (pv 0)) (blkOk_by (own := [("_law_part", 6)]) (N := ["_law_parting", "_law_number_here", "_law_at", "_law_odd", "_law_kind", "_law_ahead", "_law_part"]) (sc := defScope s_law_spoilt) (by decide +kernel)) (fun _ _ _ _ _ => (pg_name (i := 6) sc_law_spoilt.nd rfl (Or.inl rfl))) (fun _ _ _ _ _ => pts_nil) (fun _ _ _ _ _ => (pe_callTy call_str_int (by rfl) T.n_str (by decide +kernel) (pa_cons (pv 6) pa_nil)))) (pe_lst (pa_cons pe_str pa_nil)))))
      pss_nil)
    (pss_one (ps_ret (pe_ix (ixlK (K := K) rfl) (pe_lst (pa_cons pe_non (pa_cons (pe_callTy (tupleK (K := K) rfl) (by rfl) T.n_tuple (by decide +kernel) (pa_cons (pv 0) pa_nil)) (pa_cons pe_str (pa_cons pe_dnewK (pa_cons pe_int (pa_cons (pe_disp (pps_cons pe_int pe_int pps_nil) (by rfl) (by rfl) (by simp) (by decide)) pa_nil))))))) (pe_op op_mod (pe_op op_fdiv (pv 1) pe_int) pe_int) (fun _ _ => rfl)))))))))))), ?_⟩
    have hl := hp.len
    have s0 := sum_nn (p := ns) fun x hx => by have := hp.1 x hx; omega
    have s1 := hp.2.2
    have a0 : 0 ≤ n / 14 % ((ns.length : Int) + 1) := Int.emod_nonneg _ (by omega)
    have a1 : n / 14 % ((ns.length : Int) + 1) < (ns.length : Int) + 1 := Int.emod_lt_of_pos _ (by omega)
    obtain ⟨at', hat⟩ : ∃ k : Nat, n / 14 % ((ns.length : Int) + 1) = (k : Int) := ⟨_, (Int.toNat_of_nonneg a0).symm⟩
    rw [hat] at a0 a1
    refine q_asg (v := .int (at' : Int)) (ev_is (ev_rI (ev_rI (ev_var rfl) ev_c ⟨by decide, by decide⟩) (ev_rI0 (ev_cb (ea_cons (ev_var rfl) ea_nil) (rc_len hL.sq)) ev_c) (by rw [List.length_map]; omega)) (by rw [List.length_map, hat])) fun H1 e1 => ?_
    refine q_asgP (P := fun v H' => ∃ (o l : Addr), v = .ref o ∧ H' o = some (.lst [.int 0, .int (-1), .int (-7), .bl true, .bl false, .str "3", .non, .ref l, .int (10 ^ 20)]) ∧ H' l = some (.lst [.int 2])) ?_ fun v H2 e2 hv => ?_
    · intro H2 e2 Q q
      refine (ep_lst (eap_cons ev_c (eap_cons (ev_un ev_c ru_neg) (eap_cons (ev_un ev_c ru_neg) (eap_cons ev_c (eap_cons ev_c (eap_cons ev_c (eap_cons ev_c (eap_consL (el_lst (ea_cons ev_c ea_nil) (by show 1 ≤ 100000; decide)) (eap_cons (ev_rI ev_c ev_c ⟨by decide, by decide, by decide⟩) eap_nil))))))))) (mono_cons (mono_cons (mono_cons (mono_cons (mono_cons (mono_cons (mono_cons (mono_consL (mono_cons mono_nil))))))))) ?_) H2 e2 Q ?_
      · rintro vs H1 ⟨_, rfl, _, rfl, _, rfl, _, rfl, _, rfl, _, rfl, _, rfl, _, _, rfl, _, _, _, rfl, rfl⟩
        show 9 ≤ 100000
        decide
      · rintro v H3 e3 ⟨o, vs, rfl, _, ho, ⟨_, rfl, _, rfl, _, rfl, _, rfl, _, rfl, _, rfl, _, rfl, l, _, rfl, _, hl', _, rfl, rfl⟩⟩
        exact q _ H3 e3 ⟨o, l, rfl, ho, hl'⟩
    obtain ⟨o, l, rfl, ho, hl2⟩ := hv
    have e12 := e1.trans e2
    have k0 : 0 ≤ n % 14 := by omega
    have k1 : n % 14 < 14 := by omega
    refine q_asg (ev_rI (ev_var rfl) ev_c (by decide)) fun H3 e3 => ?_
    have e13 := e12.trans e3
    generalize hk : n % 14 = k at k0 k1
    have low : ∀ {σ : L2.St} {H' : Hp}, Ex H H' → σ[0]? = some (some (.ref a)) → σ[2]? = some (some (.int (at' : Int))) → EvL (tSl (rSlL K) (tVar 0) tNoPart (tPart (tVar 2))) σ H' ((ns.take at').map V.int) := fun e h0 h2 =>
      el_is (el_sl (ev_var h0) eo_none (eo_some (ev_var h2)) (ex_l e hL.sq)) (by rw [cut_upto, ← List.map_take])
    have high : ∀ {σ : L2.St} {H' : Hp}, Ex H H' → σ[0]? = some (some (.ref a)) → σ[2]? = some (some (.int (at' : Int))) → EvL (tSl (rSlL K) (tVar 0) (tPart (tVar 2)) tNoPart) σ H' ((ns.drop at').map V.int) := fun e h0 h2 =>
      el_is (el_sl (ev_var h0) (eo_some (ev_var h2)) eo_none (ex_l e hL.sq)) (by rw [cut_from, ← List.map_drop])
    have lt : (ns.take at').length ≤ 200 := by rw [List.length_take]; omega
    have ld : (ns.drop at').length ≤ 200 := by rw [List.length_drop]; omega
    refine q_when (et_test (ev_rI0 (ev_var rfl) ev_c)) (fun hb H4 e4 => ?_) (fun hb H4 e4 => ?_)
    · have hk9 : k < 9 := of_decide_eq_true hb
      have e14 := e13.trans e4
      have ho4 := (e3.trans e4) _ _ ho
      have hl4 := (e3.trans e4) _ _ hl2
      obtain ⟨v, hv, hov⟩ : ∃ v, atI [V.int 0, .int (-1), .int (-7), .bl true, .bl false, .str "3", .non, .ref l, .int (10 ^ 20)] k = some v ∧ OddI K H4 v := by
        have c9 : k = 0 ∨ k = 1 ∨ k = 2 ∨ k = 3 ∨ k = 4 ∨ k = 5 ∨ k = 6 ∨ k = 7 ∨ k = 8 := by omega
        rcases c9 with rfl | rfl | rfl | rfl | rfl | rfl | rfl | rfl | rfl
        · exact ⟨_, rfl, oddI_int (by decide)⟩
        · exact ⟨_, rfl, oddI_int (by decide)⟩
        · exact ⟨_, rfl, oddI_int (by decide)⟩
        · exact ⟨_, rfl, oddI_no ⟨numV_bl, .bool true, .bl _, rfl⟩ rfl⟩
        · exact ⟨_, rfl, oddI_no ⟨numV_bl, .bool false, .bl _, rfl⟩ rfl⟩
        · exact ⟨_, rfl, oddI_no ⟨numV_str, .str "3", .str _, strOk_of _⟩ rfl⟩
        · exact ⟨_, rfl, oddI_no ⟨numV_non, .none, .non, rfl⟩ rfl⟩
        · exact ⟨_, rfl, oddI_no (itV_lst hl4) rfl⟩
        · exact ⟨_, rfl, oddI_int (by decide)⟩
      refine s_retL (el_catNN (el_catNN (low e14 rfl rfl) (el_lst (ea_cons (ev_op (ev_var rfl) (ev_var rfl) (rv_ixL (sq_of ho4) hv)) ea_nil) (by show 1 ≤ 100000; decide)) (by rw [List.length_map]; show _ + 1 ≤ _; omega)) (high e14 rfl rfl) (by rw [List.length_append, List.length_map, List.length_map]; show _ + 1 + _ ≤ _; omega)) fun p H5 np e5 hp5 => ?_
      exact q _ H5 (e14.trans e5) (.inr (lsV_mid hp5 (fun z hz => by rw [List.mem_singleton.mp hz]; exact hov.1.mono e5) fun a w ha => hov.2 a w _ ha))
    have hk9 : ¬ k < 9 := of_decide_eq_false hb
    have e14 := e13.trans e4
    refine q_when (b := decide (V.int k = V.int 9)) (et_test (ev_eq (ev_var rfl) ev_c rfl)) (fun hb H5 e5 => ?_) (fun hb H5 e5 => ?_)
    · have e15 := e14.trans e5
      refine q_asg (v := .int (if 0 < at' then ns.getD (at' - 1) 0 else 1)) (ev_if (et_test (ev_rI0 (ev_var rfl) ev_c)) (fun c => ?_) (fun c => ?_)) fun H6 e6 => ?_
      · have c' : 0 < (at' : Int) := of_decide_eq_true c
        rw [if_pos (by omega)]
        exact ev_is (ev_ixI (ev_var rfl) (ev_rI0 (ev_var rfl) ev_c) (ex_l e15 hL.sq) (by omega) (by omega)) (by congr 2; omega)
      · have c' : ¬ 0 < (at' : Int) := of_decide_eq_false c
        rw [if_neg (by omega)]
        exact ev_c
      · generalize (if 0 < at' then ns.getD (at' - 1) 0 else 1) = ah
        have e16 := e15.trans e6
        refine s_retL (el_catNN (el_catNN (low e16 rfl rfl) (el_lst (ea_cons (ev_var rfl) (ea_cons (ev_rI0 (ev_var rfl) ev_c) ea_nil)) (by show 2 ≤ 100000; decide)) (by rw [List.length_map]; show _ + 2 ≤ _; omega)) (high e16 rfl rfl) (by rw [List.length_append, List.length_map, List.length_map]; show _ + 2 + _ ≤ _; omega)) fun p H7 np e7 hp7 => ?_
        refine q _ H7 (e16.trans e7) (.inr (lsV_mid hp7 (fun z hz => ?_) fun a w ha => ?_))
        · rcases List.mem_cons.mp hz with rfl | hz
          · exact itV_int
          · rw [List.mem_singleton.mp hz]
            exact itV_int
        · show (if ah < 1 ∨ a < ah then false else if 200 < w + ah then false else if ah + 1 < 1 ∨ ah < ah + 1 then false else _) = false
          rw [if_pos (show ah + 1 < 1 ∨ ah < ah + 1 by omega)]
          split <;> simp
    have nk9 : k ≠ 9 := fun z => by rw [z] at hb; simp at hb
    have e15 := e14.trans e5
    refine q_when (b := decide (V.int k = V.int 10)) (et_test (ev_eq (ev_var rfl) ev_c rfl)) (fun hb H6 e6 => ?_) (fun hb H6 e6 => ?_)
    · have e16 := e15.trans e6
      have h6 := e16 _ _ hL
      refine s_retL (el_catN (zs := [V.int (201 - ns.sum + mx ns)]) (el_lst (ea_cons (ev_rI0 (ev_rI0 ev_c (ev_cb (ea_cons (ev_var rfl) ea_nil) (rc_sum (Ll.sq h6)))) (ev_cbL (zs := (0 :: ns).map V.int) (el_catN (zs := [V.int 0]) (el_lst (ea_cons ev_c ea_nil) (by show 1 ≤ 100000; decide)) (ev_var rfl) h6 (by rw [List.length_map]; show 1 + _ ≤ _; omega)) fun p H7 _ hp7 => rc_maxOf (sq_of hp7) (by show 0 < ns.length + 1; omega) fun k hk hy => mx_zero hk hy)) ea_nil) (by show 1 ≤ 100000; decide)) (ev_var rfl) h6 (by rw [List.length_map]; show 1 + _ ≤ _; omega)) fun p H7 np e7 hp7 => ?_
      refine q _ H7 (e16.trans e7) (.inr ⟨p, _, rfl, hp7, fun z hz => ?_, ?_⟩)
      · have hz' : z ∈ ((201 - ns.sum + mx ns) :: ns).map V.int := hz
        obtain ⟨i, _, rfl⟩ := List.mem_map.mp hz'
        exact itV_int
      · have hm := mx_nn ns
        exact partV_sum (ns := (201 - ns.sum + mx ns) :: ns) (by rw [List.sum_cons]; omega)
    have nk10 : k ≠ 10 := fun z => by rw [z] at hb; simp at hb
    have e16 := e15.trans e6
    refine q_when (b := decide (V.int k = V.int 11)) (et_test (ev_eq (ev_var rfl) ev_c rfl)) (fun hb H7 e7 => ?_) (fun hb H7 e7 => ?_)
    · refine s_retL (el_is (ws := (List.replicate 201 (1 : Int)).map V.int) (el_rep (zs := [V.int 1]) (k := 201) (el_lst (ea_cons ev_c ea_nil) (by show 1 ≤ 100000; decide)) ev_c (by decide) (by decide)) (by rfl)) fun p H8 np e8 hp8 => ?_
      refine q _ H8 ((e16.trans e7).trans e8) (.inr ⟨p, _, rfl, hp8, fun z hz => ?_, partV_sum (by decide +kernel)⟩)
      obtain ⟨i, _, rfl⟩ := List.mem_map.mp hz
      exact itV_int
    have nk11 : k ≠ 11 := fun z => by rw [z] at hb; simp at hb
    have e17 := e16.trans e7
    refine q_when (b := decide (V.int k = V.int 12)) (et_test (ev_eq (ev_var rfl) ev_c rfl)) (fun hb H8 e8 => ?_) (fun hb H8 e8 => ?_)
    · have e18 := e17.trans e8
      refine s_retL (el_catNN (el_lcIA (fun z => V.str (toString z)) (ev_var rfl) (ex_l e18 hL.sq) (by omega) (fun _ => rfl) fun z H9 _ hz => ev_cb (ea_cons (ev_var rfl) ea_nil) (rc_str ?_)) (el_lst (ea_cons ev_c ea_nil) (by show 1 ≤ 100000; decide)) (by rw [List.length_map]; show _ + 1 ≤ _; omega)) fun p H9 np e9 hp9 => ?_
      · have h1 := hp.1 z hz
        have h2 := le_sum (fun y hy => (by have := hp.1 y hy; omega)) z hz
        have := Nat.log2_le_self z.natAbs
        omega
      · refine q _ H9 (e18.trans e9) (.inr ⟨p, _, rfl, hp9, fun z hz => ?_, ?_⟩)
        · rcases List.mem_append.mp hz with hz | hz
          · obtain ⟨i, _, rfl⟩ := List.mem_map.mp hz
            exact ⟨numV_str, .str _, .str _, strOk_of _⟩
          · rw [List.mem_singleton.mp hz]
            exact ⟨numV_str, .str _, .str _, strOk_of _⟩
        · cases ns with
          | nil => rfl
          | cons x r => rfl
    have nk12 : k ≠ 12 := fun z => by rw [z] at hb; simp at hb
    have e18 := e17.trans e8
    have j0 : 0 ≤ n / 14 % 6 := by omega
    have j1 : n / 14 % 6 < 6 := by omega
    generalize hj : n / 14 % 6 = j at j0 j1
    refine (evP_ixP (i := j) (R := fun v H' => NoV K H' v) (ep_lst (eap_cons ev_c (eap_consP (P1 := fun v H' => ∃ t : Addr, v = .ref t ∧ H' t = some (.tup (ns.map V.int))) ?_ ?_ (eap_cons ev_c (eap_consP (P1 := fun v H' => ∃ t : Addr, v = .ref t ∧ H' t = some (.dK [])) ?_ ?_ (eap_cons ev_c (eap_consP (P1 := fun v H' => ∃ t : Addr, v = .ref t ∧ H' t = some (.dK [(.inl 2, .int 1)])) ?_ ?_ eap_nil)))))) (mono_cons (mono_consP ?_ (mono_cons (mono_consP ?_ (mono_cons (mono_consP ?_ mono_nil)))))) ?_)
      (fun v H9 e9 _ => ev_is (ev_rI (ev_rI (ev_var rfl) ev_c ⟨by decide, by decide⟩) ev_c (by decide)) (by rw [hj])) (fun v H1 H2 e h => h.mono e) ?_) H8 (Ex.refl H8) _ fun v H9 e9 hv => q v H9 (e18.trans e9) (.inl hv)
    · intro H9 e9 Q q
      exact ⟨.ref a, rfl, a, _, rfl, .inl ⟨ex_l (e18.trans e9) hL.sq, fun t nt => q _ _ (Ex.new nt) ⟨t, rfl, upd_same⟩⟩⟩
    · rintro v Ha Hb e ⟨t, rfl, ht⟩
      exact ⟨t, rfl, e _ _ ht⟩
    · intro H9 e9 Q q t nt
      exact q _ _ (Ex.new nt) ⟨t, rfl, upd_same⟩
    · rintro v Ha Hb e ⟨t, rfl, ht⟩
      exact ⟨t, rfl, e _ _ ht⟩
    · intro H9 e9 Q q t nt
      refine ⟨upd_same, [(.inl 2, .int 1)], rfl, by decide, q _ _ ?_ ⟨t, rfl, upd_same⟩⟩
      exact (Ex.new nt).mut nt
    · rintro v Ha Hb e ⟨t, rfl, ht⟩
      exact ⟨t, rfl, e _ _ ht⟩
    · rintro v Ha Hb e ⟨t, rfl, ht⟩
      exact ⟨t, rfl, e _ _ ht⟩
    · rintro v Ha Hb e ⟨t, rfl, ht⟩
      exact ⟨t, rfl, e _ _ ht⟩
    · rintro v Ha Hb e ⟨t, rfl, ht⟩
      exact ⟨t, rfl, e _ _ ht⟩
    · rintro vs H9 ⟨_, rfl, _, _, rfl, _, _, rfl, _, _, rfl, _, _, rfl, _, _, rfl, _, rfl⟩
      show 6 ≤ 100000
      decide
    · rintro v H9 e9 ⟨o', vs, rfl, _, ho', ⟨_, rfl, _, _, rfl, ⟨t1, rfl, h1⟩, _, rfl, _, _, rfl, ⟨t2, rfl, h2⟩, _, rfl, _, _, rfl, ⟨t3, rfl, h3⟩, rfl⟩⟩
      have c6 : j = 0 ∨ j = 1 ∨ j = 2 ∨ j = 3 ∨ j = 4 ∨ j = 5 := by omega
      rcases c6 with rfl | rfl | rfl | rfl | rfl | rfl
      · exact ⟨o', _, _, rfl, ho', rfl, noV_non⟩
      · exact ⟨o', _, _, rfl, ho', rfl, noV_tup h1⟩
      · exact ⟨o', _, _, rfl, ho', rfl, noV_str (strOk_of _)⟩
      · exact ⟨o', _, _, rfl, ho', rfl, noV_dict h2 (fun p hp => by cases hp)⟩
      · exact ⟨o', _, _, rfl, ho', rfl, noV_int⟩
      · exact ⟨o', _, _, rfl, ho', rfl, noV_dict h3 (fun p hp => by rw [List.mem_singleton.mp hp]; exact ⟨rfl, rfl⟩)⟩
end
/-! ### the law -/
section
variable {P : Program} {w : World} {K : PySem.W.Frag} {mg : Str → Option Value} {base : Heap}
theorem ev_callL1 {σ : L2.St} {H : Hp} {te : TE} {sp : Sp} {E : XK} {zs : List V} {z : V} (h : EvL te σ H zs) (hs : ∀ p H1, H1 p = some (.lst zs) → SpV sp [.ref p] H1 z) : Ev (tCall sp [] E (tCons te tNil)) σ H z := fun H1 e Q q =>
  h H1 e _ fun p H2 _ e2 hp => hs p H2 hp H2 (Ex.refl H2) Q (fun H3 e3 => q H3 (e2.trans e3)) E
theorem ev_opPN {σ : L2.St} {H : Hp} {ta tb : TE} {r : R2} {zs : List V} {z : V} {P : V → Prop} (ha : EvP ta σ H (fun v _ => P v)) (hb : EvL tb σ H zs) (hr : ∀ v p H1, P v → H1 p = some (.lst zs) → RV r v (.ref p) H1 z) : Ev (tOp r ta tb) σ H z := fun H1 e Q q =>
  ha H1 e _ fun v H2 e2 hv => hb H2 (e.trans e2) _ fun p H3 _ e3 hp => hr v p H3 hv hp H3 (Ex.refl H3) Q fun H4 e4 => q H4 ((e2.trans e3).trans e4)
/-- what is handed in, and the same again -/
def Twin (K : PySem.W.Frag) (H : Hp) (v x : V) : Prop := (v = x ∧ NoV K H x) ∨ ∃ (a b : Addr) (zs : List V), v = .ref b ∧ x = .ref a ∧ H a = some (.lst zs) ∧ H b = some (.lst zs) ∧ (∀ z ∈ zs, ItV K H z) ∧ partV 200 0 zs = false
theorem Twin.mono {H H' : Hp} {v x : V} (e : Ex H H') (h : Twin K H v x) : Twin K H' v x := by
  rcases h with ⟨h1, h2⟩ | ⟨a, b, zs, h1, h2, h3, h4, h5, h6⟩
  · exact .inl ⟨h1, h2.mono e⟩
  · exact .inr ⟨a, b, zs, h1, h2, e _ _ h3, e _ _ h4, fun z hz => (h5 z hz).mono e, h6⟩
theorem Twin.bad {H : Hp} {v x : V} (h : Twin K H v x) : BadP K H v := by
  rcases h with ⟨rfl, h2⟩ | ⟨a, b, zs, h1, h2, h3, h4, h5, h6⟩
  · exact .inl ⟨h2.1, rfl⟩
  · exact .inr ⟨b, zs, h1, h4, fun z hz => (h5 z hz).1, h6⟩
theorem rv_twin {H : Hp} {v x : V} (h : Twin K H v x) : RV (rNeA K) v x H (.bl false) := by
  rcases h with ⟨rfl, _, ⟨d, hd, hs, hp⟩ | ⟨a, ks, rfl, ha, hk⟩⟩ | ⟨a, b, zs, rfl, rfl, h3, h4, h5, h6⟩
  · exact rv_neSelf hd hs hp
  · exact rv_neDict ha hk
  · obtain ⟨ds, hds, hf⟩ := itAll zs h5
    exact rv_neSame h4 h3 hds hf
theorem evP_spoilt {a : Addr} {ns : List Int} {n : Int} {σ : L2.St} {H : Hp} {ta : TA} {E : XK} (h : EvA ta σ H [.ref a, .int n]) (hL : Ll H a ns) (hp : IsP ns) (h0 : 0 ≤ n) : EvP (tCall (sp_law_spoilt K) [] E ta) σ H (fun v H1 => Spo K H1 v) :=
  evP_call h fun H1 e Q q E => ⟨a, ns, n, rfl, e _ _ hL, hp, h0, fun v H2 e2 hv => q v H2 e2 hv⟩
theorem evP_same {i : Int} {a : Addr} {ns : List Int} {σ : L2.St} {H : Hp} {ta : TA} {E : XK} (h : EvA ta σ H [.int i, .ref a, .ref a]) (hL : Ll H a ns) (hp : IsP ns) : EvP (tCall (sp_law_told K) [] E ta) σ H (fun v _ => ∃ t : Str, v = .str t ∧ (t = "" ∨ t = "fit" ∨ t = "number")) :=
  evP_call h fun H1 e Q q E => ⟨i, _, _, rfl, .inr ⟨⟨a, ns, rfl, rfl, e _ _ hL, hp⟩, fun t ht H2 e2 => q _ H2 e2 ⟨t, rfl, ht⟩⟩⟩
theorem which_in : ∀ i : Nat, i < 13 → inV (V.int (i : Int)) [.int 1, .int 2, .int 4, .int 11] = true → i = 1 ∨ i = 2 ∨ i = 4 ∨ i = 11 := by decide +kernel
theorem spv_numbers {n : Int} {H : Hp} (h : 0 ≤ n) : SpV sp_law_numbers [.int n] H (.bl true) := fun _ _ _ q _ => ⟨n, rfl, h, q⟩
def sp_law (K : PySem.W.Frag) : Sp := fun vs H Q _ => ∃ (a : Addr) (ns : List Int), vs = [.ref a] ∧ SqL K H a (ns.map V.int) ∧ ns.length ≤ 63 ∧ ∀ H', Q (.bl true) H'
theorem ok_law (T : Tx K mg) : FnOk P w K mg base CX0 9 T.a_law T.d_law ["_law_script"] (sp_law K) := by
  refine T.F_law.ok sc_law (fun vs H Q E h => ?_) (fun cdv A outer s H vs Q E hr h => ?_)
  · obtain ⟨a, ns, rfl, _⟩ := h
    rfl
  · obtain ⟨a, ns, rfl, hS, hlen, q⟩ := h
    refine ⟨_, (pss_cons (ps_set (i := 1) sc_law.nd rfl (Or.inl rfl) (pe_call (ok_law_parting_by T) (hr.mono (by decide)) (by rfl) T.g_law_parting_by T.F_law_parting_by.kp T.b_law_parting_by .nil pass0 (pa_cons (pv 0) (pa_cons pe_int pa_nil))))
    (pss_cons (ps_set (i := 2) sc_law.nd rfl (Or.inl rfl) (pe_call (ok_law_spoilt T) (hr.mono (by decide)) (by rfl) T.g_law_spoilt T.F_law_spoilt.kp T.b_law_spoilt .nil pass0 (pa_cons (pv 1) (pa_cons (pe_call (ok_law_number T) (hr.mono (by decide)) (by rfl) T.g_law_number T.F_law_number.kp T.b_law_number .nil pass0 (pa_cons (pv 0) (pa_cons pe_int pa_nil))) pa_nil))))
    (pss_cons (ps_if (PW.pt (pw_or (pt_cmpR op_notBl (pe_call (ok_is_partingA T) (hr.mono (by decide)) (by rfl) T.g_is_parting T.F_is_parting.kp T.b_is_parting .nil pass0 (pa_cons (pv 1) pa_nil)) pe_bl (nomark _)) (pw_or1 (pt_cmpR op_notBl (pe_call (ok_is_partingA T) (hr.mono (by decide)) (by rfl) T.g_is_parting T.F_is_parting.kp T.b_is_parting .nil pass0 (pa_cons (pv 2) pa_nil)) pe_bl (nomark _)))))
      (pss_one (ps_ret pe_bl))
      pss_nil)
    (pss_cons (ps_if (PW.pt (pw_or (pt_cmpR op_notBl (pe_call (ok_is_partingA T) (hr.mono (by decide)) (by rfl) T.g_is_parting T.F_is_parting.kp T.b_is_parting .nil pass0 (pa_cons (pe_op op_rep (pe_lst (pa_cons pe_int pa_nil)) pe_int) pa_nil)) pe_bl (nomark _)) (pw_or1 (pt_cmpR op_notBl (pe_call (ok_is_partingA T) (hr.mono (by decide)) (by rfl) T.g_is_parting T.F_is_parting.kp T.b_is_parting .nil pass0 (pa_cons (pe_lst (pa_cons pe_int pa_nil)) pa_nil)) pe_bl (nomark _)))))
      (pss_one (ps_ret pe_bl))
      pss_nil)
    (pss_cons (ps_set (i := 3) sc_law.nd rfl (Or.inl rfl) (pe_ifExp (pt_val (pe_callB (isiK (K := K) rfl) (by rfl) T.n_isinstance (by decide +kernel) (pa_cons (pv 2) (pa_cons (pe_bltn (v := .ty "list") (u := .type "list") (by rfl) T.n_list (by decide +kernel) rfl) pa_nil)))) (pe_callTy (listK (K := K) rfl) (by rfl) T.n_list (by decide +kernel) (pa_cons (pv 2) pa_nil)) (pv 2)))
    (pss_cons (ps_for PassesOwn.never rfl (pi_range1 rfl T.n_range (pa_cons pe_int pa_nil)) (pg_name (i := 4) sc_law.nd rfl (Or.inl rfl))
      (pss_cons (ps_if (PW.pt (pw_or (pt_cmpR op_ne (pe_call (ok_law_told T) (hr.mono (by decide)) (by rfl) T.g_law_told T.F_law_told.kp T.b_law_told .nil pass0 (pa_cons (pv 4) (pa_cons (pv 3) (pa_cons (pe_ix (ixlK (K := K) rfl) (pe_lst (pa_cons (pe_lst (pa_cons pe_int pa_nil)) (pa_cons pe_int (pa_cons (pv 2) pa_nil)))) (pe_op op_mod (pv 4) pe_int) (fun _ _ => rfl)) pa_nil)))) pe_str (nomark _)) (pw_or1 (pt_cmpR (neAK (K := K) rfl hr.units) (pv 3) (pv 2) (nomark _)))))
        (pss_one (ps_ret pe_bl))
        pss_nil)
      (pss_cons (ps_if (PW.pt (pw_and (pt_cmpR (inK (K := K) rfl) (pv 4) (pe_tup (pa_cons pe_int (pa_cons pe_int (pa_cons pe_int (pa_cons pe_int pa_nil))))) (by rfl)) (pw_and1 (pt_cmpR op_ne (pe_call (ok_law_told T) (hr.mono (by decide)) (by rfl) T.g_law_told T.F_law_told.kp T.b_law_told .nil pass0 (pa_cons (pv 4) (pa_cons (pv 1) (pa_cons (pv 3) pa_nil)))) pe_str (nomark _)))))
        (pss_one (ps_ret pe_bl))
        pss_nil)
      (pss_one (ps_if (pt_cmpR (notInK (K := K) rfl) (pe_call (ok_law_told T) (hr.mono (by decide)) (by rfl) T.g_law_told T.F_law_told.kp T.b_law_told .nil pass0 (pa_cons (pv 4) (pa_cons (pv 1) (pa_cons (pv 1) pa_nil)))) (pe_lst (pa_cons pe_str (pa_cons pe_str (pa_cons pe_str pa_nil)))) (by rfl))
        (pss_one (ps_ret pe_bl))
        pss_nil)))))
    (pss_one (ps_ret (pe_call (ok_law_numbers T) (hr.mono (by decide)) (by rfl) T.g_law_numbers T.F_law_numbers.kp T.b_law_numbers .nil pass0 (pa_cons (pe_call (ok_law_number T) (hr.mono (by decide)) (by rfl) T.g_law_number T.F_law_number.kp T.b_law_number .nil pass0 (pa_cons (pv 0) (pa_cons pe_int pa_nil))) pa_nil)))))))))), ?_⟩
    refine q_asgP (evP_parting (ea_cons (ev_var rfl) (ea_cons ev_c ea_nil)) hS hlen (by decide) (by decide)) fun v H1 e1 hv => ?_
    obtain ⟨p, ys, rfl, np, hp, ip⟩ := hv
    refine q_asgP (evP_spoilt (ea_cons (ev_var rfl) (ea_cons (ev_call (ea_cons (ev_var rfl) (ea_cons ev_c ea_nil)) (spv_number (ex_l e1 hS) (by decide) (by decide))) ea_nil)) hp ip (numb_nn _ _)) fun x H2 e2 hx => ?_
    have e12 := e1.trans e2
    have hp2 := e2 _ _ hp
    refine q_when (b := false) (et_is (et_or (et_test (ev_notB (ev_call (ea_cons (ev_var rfl) ea_nil) (spv_any (anyV_ints hp2))) ev_c)) fun _ => et_test (ev_notB (ev_call (ea_cons (ev_var rfl) ea_nil) (spv_any hx.bad)) ev_c)) (by rw [ip.is]; rfl)) (fun z => by cases z) (fun _ H3 e3 => ?_)
    refine q_when (b := false) (et_is (et_or (et_test (ev_notB (ev_callL1 (zs := (List.replicate 200 (1 : Int)).map V.int) (el_is (el_rep (zs := [V.int 1]) (k := 200) (el_lst (ea_cons ev_c ea_nil) (by show 1 ≤ 100000; decide)) ev_c (by decide) (by decide)) (by rfl)) fun l H4 hl => spv_any (anyV_ints hl)) ev_c)) fun _ => et_test (ev_notB (ev_callL1 (zs := [(200 : Int)].map V.int) (el_lst (ea_cons ev_c ea_nil) (by show 1 ≤ 100000; decide)) fun l H4 hl => spv_any (anyV_ints hl)) ev_c)) (by decide +kernel)) (fun z => by cases z) (fun _ H4 e4 => ?_)
    have e24 := e3.trans e4
    have e14 := e12.trans e24
    have hx4 := hx.mono e24
    refine q_asgP (P := fun v H' => Twin K H' v x) ?_ fun v H5 e5 hv => ?_
    · intro H5 e5 Q q
      rcases hx4 with hx4 | ⟨b, zs, rfl, hb, hi, hq⟩
      · obtain ⟨t, ty, hk⟩ := hx4.1
        exact ev_if (et_B (ev_cb (ea_cons (ev_var rfl) (ea_cons ev_c ea_nil)) (rc_isi (.ty _) ty hk))) (fun z => by cases z) (fun _ => ev_var rfl) H5 e5 Q fun H6 e6 => q _ H6 e6 (.inl ⟨rfl, hx4.mono (e5.trans e6)⟩)
      · refine el_if (et_B (ev_cb (ea_cons (ev_var rfl) (ea_cons ev_c ea_nil)) (rc_isiL hb))) (fun _ => el_cb (ea_cons (ev_var rfl) ea_nil) (rcl_list (sq_of hb))) (fun z => by cases z) H5 e5 Q fun l H6 _ e6 hl => q _ H6 e6 (.inr ⟨b, l, zs, rfl, rfl, (e5.trans e6) _ _ hb, hl, fun z hz => (hi z hz).mono (e5.trans e6), hq⟩)
    have e15 := e14.trans e5
    refine q_forR1 (n := 13) (ea_cons ev_c ea_nil) ⟨by decide, by decide⟩ (fun i σ' H' => ∃ y : Option V, σ' = [some (.ref a), some (.ref p), some x, some v, y] ∧ Ex H5 H') (fun H6 e6 => ⟨none, rfl, e6⟩) (fun i σ' H' hi hP => ?_) (fun σ' H' hP => ?_)
    · obtain ⟨y, rfl, eH⟩ := hP
      have tw := hv.mono eH
      have e2H := (e24.trans e5).trans eH
      have hpH := e2H _ _ hp2
      refine q_when (b := false) (et_is (et_or (et_test (ev_ne (x := .str "parting") (ev_callP (eap_cons (ev_var rfl) (eap_cons (ev_var rfl) (eap_consP (P1 := fun _ _ => True) ?_ (fun _ _ _ _ h => h) eap_nil))) (fun vs H6 e6 hvs => ?_)) ev_c rfl)) fun _ => et_test (ev_op (ev_var rfl) (ev_var rfl) (rv_twin tw))) rfl) (fun z => by cases z) (fun _ H6 e6 => ?_)
      · have j0 : 0 ≤ (i : Int) % 3 := by omega
        have j1 : (i : Int) % 3 < 3 := by omega
        generalize hj : (i : Int) % 3 = j at j0 j1
        refine evP_ixP (i := j) (ep_lst (eap_consL (el_lst (ea_cons ev_c ea_nil) (by show 1 ≤ 100000; decide)) (eap_cons ev_c (eap_cons (ev_var rfl) eap_nil))) (mono_consL (mono_cons (mono_cons mono_nil))) ?_) (fun v H1 e1 _ => ev_is (ev_rI (ev_var rfl) ev_c (by decide)) (by rw [hj])) (fun _ _ _ _ h => h) ?_
        · rintro vs H7 ⟨_, _, rfl, _, _, _, rfl, _, rfl, rfl⟩
          show 3 ≤ 100000
          decide
        · rintro u H7 e7 ⟨o, vs, rfl, _, ho, ⟨_, _, rfl, _, _, _, rfl, _, rfl, rfl⟩⟩
          have c3 : j = 0 ∨ j = 1 ∨ j = 2 := by omega
          rcases c3 with rfl | rfl | rfl
          · exact ⟨o, _, _, rfl, ho, rfl, trivial⟩
          · exact ⟨o, _, _, rfl, ho, rfl, trivial⟩
          · exact ⟨o, _, _, rfl, ho, rfl, trivial⟩
      · obtain ⟨_, rfl, _, rfl, u, _, rfl, _, rfl⟩ := hvs
        exact spv_told (.inl (tw.bad.mono e6))
      refine q_when (b := false) (et_is (et_and (b := false) (et_test (ev_opU (ev_var rfl) (eu_tup (ea_cons ev_c (ea_cons ev_c (ea_cons ev_c (ea_cons ev_c ea_nil)))) (by show 4 ≤ 100000; decide)) fun t H7 ht e7 H8 e8 Q q => ⟨t, _, rfl, .inr (st_of (e8 _ _ ht)), rfl, rfl, q H8 (Ex.refl H8)⟩)) fun hc => ?_) (Bool.and_false _)) (fun z => by cases z) (fun _ H7 e7 => ?_)
      · have hw := which_in i (by omega) hc
        exact et_is (et_test (ev_ne (ev_call (ea_cons (ev_var rfl) (ea_cons (ev_var rfl) (ea_cons (ev_var rfl) ea_nil))) (spv_told (.inr ⟨by omega, ⟨p, ys, rfl, e6 _ _ hpH, ip⟩, tw.bad.mono e6⟩))) ev_c rfl)) rfl
      refine s_when (b := false) (et_test (ev_opPN (evP_same (ea_cons (ev_var rfl) (ea_cons (ev_var rfl) (ea_cons (ev_var rfl) ea_nil))) ((e6.trans e7) _ _ hpH) ip) (el_lst (ea_cons ev_c (ea_cons ev_c (ea_cons ev_c ea_nil))) (by show 3 ≤ 100000; decide)) fun u l H8 hu hl H9 e9 Q q => ?_)) (fun z => by cases z) (fun _ H8 e8 => ⟨_, rfl, ((eH.trans e6).trans e7).trans e8⟩)
      obtain ⟨t, rfl, ht⟩ := hu
      refine ⟨l, _, rfl, .inl (sq_of (e9 _ _ hl)), rfl, rfl, ?_⟩
      have : inV (.str t) [.str "", .str "fit", .str "number"] = true := by rcases ht with rfl | rfl | rfl <;> decide +kernel
      show Q (.bl (!inV (.str t) [.str "", .str "fit", .str "number"])) H9
      rw [this]
      exact q H9 (Ex.refl H9)
    · obtain ⟨y, rfl, eH⟩ := hP
      exact s_ret (ev_call (ea_cons (ev_call (ea_cons (ev_var rfl) (ea_cons ev_c ea_nil)) (spv_number (ex_l (e15.trans eH) hS) (by decide) (by decide))) ea_nil) (spv_numbers (numb_nn _ _))) fun H7 e7 => q H7
end
theorem all_mk {l : PySem.W.OpenLaw} {w : World} {K : PySem.W.Frag} {h : Heap} {mg : Str → Option Value} {fa : Addr} (X : K.In h) (G : h.Ns mainGlobals mg) (hfa : mg "law" = some (.ref fa))
    {f1 : Addr} {od1 an1 : Option Addr} {sl1 : Array (Option Value)} {oc1 kV1 dc1 pm1 cd1 ct1 : Value}
    {f2 : Addr} {od2 an2 : Option Addr} {sl2 : Array (Option Value)} {oc2 kV2 dc2 pm2 cd2 ct2 : Value}
    {f3 : Addr} {od3 an3 : Option Addr} {sl3 : Array (Option Value)} {oc3 kV3 dc3 pm3 cd3 ct3 : Value}
    {f4 : Addr} {od4 an4 : Option Addr} {sl4 : Array (Option Value)} {oc4 kV4 dc4 pm4 cd4 ct4 : Value}
    {f5 : Addr} {od5 an5 : Option Addr} {sl5 : Array (Option Value)} {oc5 kV5 dc5 pm5 cd5 ct5 : Value}
    {f6 : Addr} {od6 an6 : Option Addr} {sl6 : Array (Option Value)} {oc6 kV6 dc6 pm6 cd6 ct6 : Value}
    {f7 : Addr} {od7 an7 : Option Addr} {sl7 : Array (Option Value)} {oc7 kV7 dc7 pm7 cd7 ct7 : Value}
    {t7 : Addr} {tc7 : Value} {td7 : Option Addr} {tn7 : Nat} {ts7 : Array (Option Value)}
    {f8 : Addr} {od8 an8 : Option Addr} {sl8 : Array (Option Value)} {oc8 kV8 dc8 pm8 cd8 ct8 : Value}
    {f9 : Addr} {od9 an9 : Option Addr} {sl9 : Array (Option Value)} {oc9 kV9 dc9 pm9 cd9 ct9 : Value}
    {f10 : Addr} {od10 an10 : Option Addr} {sl10 : Array (Option Value)} {oc10 kV10 dc10 pm10 cd10 ct10 : Value}
    {f11 : Addr} {od11 an11 : Option Addr} {sl11 : Array (Option Value)} {oc11 kV11 dc11 pm11 cd11 ct11 : Value}
    {f12 : Addr} {od12 an12 : Option Addr} {sl12 : Array (Option Value)} {oc12 kV12 dc12 pm12 cd12 ct12 : Value}
    {f13 : Addr} {od13 an13 : Option Addr} {sl13 : Array (Option Value)} {oc13 kV13 dc13 pm13 cd13 ct13 : Value}
    {f14 : Addr} {od14 an14 : Option Addr} {sl14 : Array (Option Value)} {oc14 kV14 dc14 pm14 cd14 ct14 : Value}
    {f15 : Addr} {od15 an15 : Option Addr} {sl15 : Array (Option Value)} {oc15 kV15 dc15 pm15 cd15 ct15 : Value}
    {f16 : Addr} {od16 an16 : Option Addr} {sl16 : Array (Option Value)} {oc16 kV16 dc16 pm16 cd16 ct16 : Value}
    {f17 : Addr} {od17 an17 : Option Addr} {sl17 : Array (Option Value)} {oc17 kV17 dc17 pm17 cd17 ct17 : Value}
    {f18 : Addr} {od18 an18 : Option Addr} {sl18 : Array (Option Value)} {oc18 kV18 dc18 pm18 cd18 ct18 : Value}
    {f19 : Addr} {od19 an19 : Option Addr} {sl19 : Array (Option Value)} {oc19 kV19 dc19 pm19 cd19 ct19 : Value}
    {f20 : Addr} {od20 an20 : Option Addr} {sl20 : Array (Option Value)} {oc20 kV20 dc20 pm20 cd20 ct20 : Value}
    {f21 : Addr} {od21 an21 : Option Addr} {sl21 : Array (Option Value)} {oc21 kV21 dc21 pm21 cd21 ct21 : Value}
    {f22 : Addr} {od22 an22 : Option Addr} {sl22 : Array (Option Value)} {oc22 kV22 dc22 pm22 cd22 ct22 : Value}
    {f23 : Addr} {od23 an23 : Option Addr} {sl23 : Array (Option Value)} {oc23 kV23 dc23 pm23 cd23 ct23 : Value}
    {f24 : Addr} {od24 an24 : Option Addr} {sl24 : Array (Option Value)} {oc24 kV24 dc24 pm24 cd24 ct24 : Value}
    {f25 : Addr} {od25 an25 : Option Addr} {sl25 : Array (Option Value)} {oc25 kV25 dc25 pm25 cd25 ct25 : Value}
    {f26 : Addr} {od26 an26 : Option Addr} {sl26 : Array (Option Value)} {oc26 kV26 dc26 pm26 cd26 ct26 : Value}
    {f27 : Addr} {od27 an27 : Option Addr} {sl27 : Array (Option Value)} {oc27 kV27 dc27 pm27 cd27 ct27 : Value}
    {f28 : Addr} {od28 an28 : Option Addr} {sl28 : Array (Option Value)} {oc28 kV28 dc28 pm28 cd28 ct28 : Value}
    {f29 : Addr} {od29 an29 : Option Addr} {sl29 : Array (Option Value)} {oc29 kV29 dc29 pm29 cd29 ct29 : Value}
    {f30 : Addr} {od30 an30 : Option Addr} {sl30 : Array (Option Value)} {oc30 kV30 dc30 pm30 cd30 ct30 : Value}
    {f31 : Addr} {od31 an31 : Option Addr} {sl31 : Array (Option Value)} {oc31 kV31 dc31 pm31 cd31 ct31 : Value}
    {f32 : Addr} {od32 an32 : Option Addr} {sl32 : Array (Option Value)} {oc32 kV32 dc32 pm32 cd32 ct32 : Value}
    {f33 : Addr} {od33 an33 : Option Addr} {sl33 : Array (Option Value)} {oc33 kV33 dc33 pm33 cd33 ct33 : Value}
    {f34 : Addr} {od34 an34 : Option Addr} {sl34 : Array (Option Value)} {oc34 kV34 dc34 pm34 cd34 ct34 : Value}
    {f35 : Addr} {od35 an35 : Option Addr} {sl35 : Array (Option Value)} {oc35 kV35 dc35 pm35 cd35 ct35 : Value}
    {f36 : Addr} {od36 an36 : Option Addr} {sl36 : Array (Option Value)} {oc36 kV36 dc36 pm36 cd36 ct36 : Value}
    {f37 : Addr} {od37 an37 : Option Addr} {sl37 : Array (Option Value)} {oc37 kV37 dc37 pm37 cd37 ct37 : Value}
    {f38 : Addr} {od38 an38 : Option Addr} {sl38 : Array (Option Value)} {oc38 kV38 dc38 pm38 cd38 ct38 : Value}
    {f39 : Addr} {od39 an39 : Option Addr} {sl39 : Array (Option Value)} {oc39 kV39 dc39 pm39 cd39 ct39 : Value}
    {f40 : Addr} {od40 an40 : Option Addr} {sl40 : Array (Option Value)} {oc40 kV40 dc40 pm40 cd40 ct40 : Value}
    {f41 : Addr} {od41 an41 : Option Addr} {sl41 : Array (Option Value)} {oc41 kV41 dc41 pm41 cd41 ct41 : Value}
    {t_GREATEST_WHOLE : Tok}
    {C_NoFit : Addr}
    {C_NoNumber : Addr}
    {C_NoParting : Addr}
    {C_PartError : Addr}
    (a1 : PySem.W.nsIn K mainGlobals "is_number" = some (some (.ref f1)))
    (l1 : K.lookup f1 = some ⟨oc1, od1, .func (PySem.W.fnOf "is_number" "is_number" (defArgs s_is_number) (defBody s_is_number) (defScope s_is_number) .none kV1 dc1 pm1 an1 cd1 ct1), sl1⟩)
    (c1 : PySem.W.codeIn K cd1 "is_number" = true) (k1 : PySem.W.keepIn K (.ref f1) = true)
    (a2 : PySem.W.nsIn K mainGlobals "check_number" = some (some (.ref f2)))
    (l2 : K.lookup f2 = some ⟨oc2, od2, .func (PySem.W.fnOf "check_number" "check_number" (defArgs s_check_number) (defBody s_check_number) (defScope s_check_number) .none kV2 dc2 pm2 an2 cd2 ct2), sl2⟩)
    (c2 : PySem.W.codeIn K cd2 "check_number" = true) (k2 : PySem.W.keepIn K (.ref f2) = true)
    (a3 : PySem.W.nsIn K mainGlobals "is_parting" = some (some (.ref f3)))
    (l3 : K.lookup f3 = some ⟨oc3, od3, .func (PySem.W.fnOf "is_parting" "is_parting" (defArgs s_is_parting) (defBody s_is_parting) (defScope s_is_parting) .none kV3 dc3 pm3 an3 cd3 ct3), sl3⟩)
    (c3 : PySem.W.codeIn K cd3 "is_parting" = true) (k3 : PySem.W.keepIn K (.ref f3) = true)
    (a4 : PySem.W.nsIn K mainGlobals "check_parting" = some (some (.ref f4)))
    (l4 : K.lookup f4 = some ⟨oc4, od4, .func (PySem.W.fnOf "check_parting" "check_parting" (defArgs s_check_parting) (defBody s_check_parting) (defScope s_check_parting) .none kV4 dc4 pm4 an4 cd4 ct4), sl4⟩)
    (c4 : PySem.W.codeIn K cd4 "check_parting" = true) (k4 : PySem.W.keepIn K (.ref f4) = true)
    (a5 : PySem.W.nsIn K mainGlobals "turned" = some (some (.ref f5)))
    (l5 : K.lookup f5 = some ⟨oc5, od5, .func (PySem.W.fnOf "turned" "turned" (defArgs s_turned) (defBody s_turned) (defScope s_turned) .none kV5 dc5 pm5 an5 cd5 ct5), sl5⟩)
    (c5 : PySem.W.codeIn K cd5 "turned" = true) (k5 : PySem.W.keepIn K (.ref f5) = true)
    (a6 : PySem.W.nsIn K mainGlobals "_column_height" = some (some (.ref f6)))
    (l6 : K.lookup f6 = some ⟨oc6, od6, .func (PySem.W.fnOf "_column_height" "_column_height" (defArgs s_column_height) (defBody s_column_height) (defScope s_column_height) .none kV6 dc6 pm6 an6 cd6 ct6), sl6⟩)
    (c6 : PySem.W.codeIn K cd6 "_column_height" = true) (k6 : PySem.W.keepIn K (.ref f6) = true)
    (a7 : PySem.W.nsIn K mainGlobals "how_many" = some (some (.ref f7)))
    (l7 : K.lookup f7 = some ⟨oc7, od7, .func (PySem.W.fnOf "how_many" "how_many" (defArgs s_how_many) (defBody s_how_many) (defScope s_how_many) (.ref t7) kV7 dc7 pm7 an7 cd7 ct7), sl7⟩)
    (m7 : K.lookup t7 = some ⟨tc7, td7, .seq #[.none] tn7, ts7⟩)
    (c7 : PySem.W.codeIn K cd7 "how_many" = true) (k7 : PySem.W.keepIn K (.ref f7) = true)
    (a8 : PySem.W.nsIn K mainGlobals "number_of" = some (some (.ref f8)))
    (l8 : K.lookup f8 = some ⟨oc8, od8, .func (PySem.W.fnOf "number_of" "number_of" (defArgs s_number_of) (defBody s_number_of) (defScope s_number_of) .none kV8 dc8 pm8 an8 cd8 ct8), sl8⟩)
    (c8 : PySem.W.codeIn K cd8 "number_of" = true) (k8 : PySem.W.keepIn K (.ref f8) = true)
    (a9 : PySem.W.nsIn K mainGlobals "parting_of" = some (some (.ref f9)))
    (l9 : K.lookup f9 = some ⟨oc9, od9, .func (PySem.W.fnOf "parting_of" "parting_of" (defArgs s_parting_of) (defBody s_parting_of) (defScope s_parting_of) .none kV9 dc9 pm9 an9 cd9 ct9), sl9⟩)
    (c9 : PySem.W.codeIn K cd9 "parting_of" = true) (k9 : PySem.W.keepIn K (.ref f9) = true)
    (a10 : PySem.W.nsIn K mainGlobals "_check_whole" = some (some (.ref f10)))
    (l10 : K.lookup f10 = some ⟨oc10, od10, .func (PySem.W.fnOf "_check_whole" "_check_whole" (defArgs s_check_whole) (defBody s_check_whole) (defScope s_check_whole) .none kV10 dc10 pm10 an10 cd10 ct10), sl10⟩)
    (c10 : PySem.W.codeIn K cd10 "_check_whole" = true) (k10 : PySem.W.keepIn K (.ref f10) = true)
    (a11 : PySem.W.nsIn K mainGlobals "_count_rows" = some (some (.ref f11)))
    (l11 : K.lookup f11 = some ⟨oc11, od11, .func (PySem.W.fnOf "_count_rows" "_count_rows" (defArgs s_count_rows) (defBody s_count_rows) (defScope s_count_rows) .none kV11 dc11 pm11 an11 cd11 ct11), sl11⟩)
    (c11 : PySem.W.codeIn K cd11 "_count_rows" = true) (k11 : PySem.W.keepIn K (.ref f11) = true)
    (a12 : PySem.W.nsIn K mainGlobals "_first_part" = some (some (.ref f12)))
    (l12 : K.lookup f12 = some ⟨oc12, od12, .func (PySem.W.fnOf "_first_part" "_first_part" (defArgs s_first_part) (defBody s_first_part) (defScope s_first_part) .none kV12 dc12 pm12 an12 cd12 ct12), sl12⟩)
    (c12 : PySem.W.codeIn K cd12 "_first_part" = true) (k12 : PySem.W.keepIn K (.ref f12) = true)
    (a13 : PySem.W.nsIn K mainGlobals "unlike_of" = some (some (.ref f13)))
    (l13 : K.lookup f13 = some ⟨oc13, od13, .func (PySem.W.fnOf "unlike_of" "unlike_of" (defArgs s_unlike_of) (defBody s_unlike_of) (defScope s_unlike_of) .none kV13 dc13 pm13 an13 cd13 ct13), sl13⟩)
    (c13 : PySem.W.codeIn K cd13 "unlike_of" = true) (k13 : PySem.W.keepIn K (.ref f13) = true)
    (a14 : PySem.W.nsIn K mainGlobals "odd_of" = some (some (.ref f14)))
    (l14 : K.lookup f14 = some ⟨oc14, od14, .func (PySem.W.fnOf "odd_of" "odd_of" (defArgs s_odd_of) (defBody s_odd_of) (defScope s_odd_of) .none kV14 dc14 pm14 an14 cd14 ct14), sl14⟩)
    (c14 : PySem.W.codeIn K cd14 "odd_of" = true) (k14 : PySem.W.keepIn K (.ref f14) = true)
    (a15 : PySem.W.nsIn K mainGlobals "bends_of" = some (some (.ref f15)))
    (l15 : K.lookup f15 = some ⟨oc15, od15, .func (PySem.W.fnOf "bends_of" "bends_of" (defArgs s_bends_of) (defBody s_bends_of) (defScope s_bends_of) .none kV15 dc15 pm15 an15 cd15 ct15), sl15⟩)
    (c15 : PySem.W.codeIn K cd15 "bends_of" = true) (k15 : PySem.W.keepIn K (.ref f15) = true)
    (a16 : PySem.W.nsIn K mainGlobals "unbent" = some (some (.ref f16)))
    (l16 : K.lookup f16 = some ⟨oc16, od16, .func (PySem.W.fnOf "unbent" "unbent" (defArgs s_unbent) (defBody s_unbent) (defScope s_unbent) .none kV16 dc16 pm16 an16 cd16 ct16), sl16⟩)
    (c16 : PySem.W.codeIn K cd16 "unbent" = true) (k16 : PySem.W.keepIn K (.ref f16) = true)
    (a17 : PySem.W.nsIn K mainGlobals "_check_odd" = some (some (.ref f17)))
    (l17 : K.lookup f17 = some ⟨oc17, od17, .func (PySem.W.fnOf "_check_odd" "_check_odd" (defArgs s_check_odd) (defBody s_check_odd) (defScope s_check_odd) .none kV17 dc17 pm17 an17 cd17 ct17), sl17⟩)
    (c17 : PySem.W.codeIn K cd17 "_check_odd" = true) (k17 : PySem.W.keepIn K (.ref f17) = true)
    (a18 : PySem.W.nsIn K mainGlobals "_check_unlike" = some (some (.ref f18)))
    (l18 : K.lookup f18 = some ⟨oc18, od18, .func (PySem.W.fnOf "_check_unlike" "_check_unlike" (defArgs s_check_unlike) (defBody s_check_unlike) (defScope s_check_unlike) .none kV18 dc18 pm18 an18 cd18 ct18), sl18⟩)
    (c18 : PySem.W.codeIn K cd18 "_check_unlike" = true) (k18 : PySem.W.keepIn K (.ref f18) = true)
    (a19 : PySem.W.nsIn K mainGlobals "_powers_in" = some (some (.ref f19)))
    (l19 : K.lookup f19 = some ⟨oc19, od19, .func (PySem.W.fnOf "_powers_in" "_powers_in" (defArgs s_powers_in) (defBody s_powers_in) (defScope s_powers_in) .none kV19 dc19 pm19 an19 cd19 ct19), sl19⟩)
    (c19 : PySem.W.codeIn K cd19 "_powers_in" = true) (k19 : PySem.W.keepIn K (.ref f19) = true)
    (a20 : PySem.W.nsIn K mainGlobals "_greatest_power_within" = some (some (.ref f20)))
    (l20 : K.lookup f20 = some ⟨oc20, od20, .func (PySem.W.fnOf "_greatest_power_within" "_greatest_power_within" (defArgs s_greatest_power_within) (defBody s_greatest_power_within) (defScope s_greatest_power_within) .none kV20 dc20 pm20 an20 cd20 ct20), sl20⟩)
    (c20 : PySem.W.codeIn K cd20 "_greatest_power_within" = true) (k20 : PySem.W.keepIn K (.ref f20) = true)
    (a21 : PySem.W.nsIn K mainGlobals "lies_above" = some (some (.ref f21)))
    (l21 : K.lookup f21 = some ⟨oc21, od21, .func (PySem.W.fnOf "lies_above" "lies_above" (defArgs s_lies_above) (defBody s_lies_above) (defScope s_lies_above) .none kV21 dc21 pm21 an21 cd21 ct21), sl21⟩)
    (c21 : PySem.W.codeIn K cd21 "lies_above" = true) (k21 : PySem.W.keepIn K (.ref f21) = true)
    (a22 : PySem.W.nsIn K mainGlobals "lacking_count" = some (some (.ref f22)))
    (l22 : K.lookup f22 = some ⟨oc22, od22, .func (PySem.W.fnOf "lacking_count" "lacking_count" (defArgs s_lacking_count) (defBody s_lacking_count) (defScope s_lacking_count) .none kV22 dc22 pm22 an22 cd22 ct22), sl22⟩)
    (c22 : PySem.W.codeIn K cd22 "lacking_count" = true) (k22 : PySem.W.keepIn K (.ref f22) = true)
    (a23 : PySem.W.nsIn K mainGlobals "let_down" = some (some (.ref f23)))
    (l23 : K.lookup f23 = some ⟨oc23, od23, .func (PySem.W.fnOf "let_down" "let_down" (defArgs s_let_down) (defBody s_let_down) (defScope s_let_down) .none kV23 dc23 pm23 an23 cd23 ct23), sl23⟩)
    (c23 : PySem.W.codeIn K cd23 "let_down" = true) (k23 : PySem.W.keepIn K (.ref f23) = true)
    (a24 : PySem.W.nsIn K mainGlobals "way_down" = some (some (.ref f24)))
    (l24 : K.lookup f24 = some ⟨oc24, od24, .func (PySem.W.fnOf "way_down" "way_down" (defArgs s_way_down) (defBody s_way_down) (defScope s_way_down) .none kV24 dc24 pm24 an24 cd24 ct24), sl24⟩)
    (c24 : PySem.W.codeIn K cd24 "way_down" = true) (k24 : PySem.W.keepIn K (.ref f24) = true)
    (a25 : PySem.W.nsIn K mainGlobals "_check_pair" = some (some (.ref f25)))
    (l25 : K.lookup f25 = some ⟨oc25, od25, .func (PySem.W.fnOf "_check_pair" "_check_pair" (defArgs s_check_pair) (defBody s_check_pair) (defScope s_check_pair) .none kV25 dc25 pm25 an25 cd25 ct25), sl25⟩)
    (c25 : PySem.W.codeIn K cd25 "_check_pair" = true) (k25 : PySem.W.keepIn K (.ref f25) = true)
    (a26 : PySem.W.nsIn K mainGlobals "_gaps" = some (some (.ref f26)))
    (l26 : K.lookup f26 = some ⟨oc26, od26, .func (PySem.W.fnOf "_gaps" "_gaps" (defArgs s_gaps) (defBody s_gaps) (defScope s_gaps) .none kV26 dc26 pm26 an26 cd26 ct26), sl26⟩)
    (c26 : PySem.W.codeIn K cd26 "_gaps" = true) (k26 : PySem.W.keepIn K (.ref f26) = true)
    (a27 : PySem.W.nsIn K mainGlobals "_are_places" = some (some (.ref f27)))
    (l27 : K.lookup f27 = some ⟨oc27, od27, .func (PySem.W.fnOf "_are_places" "_are_places" (defArgs s_are_places) (defBody s_are_places) (defScope s_are_places) .none kV27 dc27 pm27 an27 cd27 ct27), sl27⟩)
    (c27 : PySem.W.codeIn K cd27 "_are_places" = true) (k27 : PySem.W.keepIn K (.ref f27) = true)
    (a28 : PySem.W.nsIn K mainGlobals "_nearer" = some (some (.ref f28)))
    (l28 : K.lookup f28 = some ⟨oc28, od28, .func (PySem.W.fnOf "_nearer" "_nearer" (defArgs s_nearer) (defBody s_nearer) (defScope s_nearer) .none kV28 dc28 pm28 an28 cd28 ct28), sl28⟩)
    (c28 : PySem.W.codeIn K cd28 "_nearer" = true) (k28 : PySem.W.keepIn K (.ref f28) = true)
    (a29 : PySem.W.nsIn K mainGlobals "square_of" = some (some (.ref f29)))
    (l29 : K.lookup f29 = some ⟨oc29, od29, .func (PySem.W.fnOf "square_of" "square_of" (defArgs s_square_of) (defBody s_square_of) (defScope s_square_of) .none kV29 dc29 pm29 an29 cd29 ct29), sl29⟩)
    (c29 : PySem.W.codeIn K cd29 "square_of" = true) (k29 : PySem.W.keepIn K (.ref f29) = true)
    (a30 : PySem.W.nsIn K mainGlobals "cut_square" = some (some (.ref f30)))
    (l30 : K.lookup f30 = some ⟨oc30, od30, .func (PySem.W.fnOf "cut_square" "cut_square" (defArgs s_cut_square) (defBody s_cut_square) (defScope s_cut_square) .none kV30 dc30 pm30 an30 cd30 ct30), sl30⟩)
    (c30 : PySem.W.codeIn K cd30 "cut_square" = true) (k30 : PySem.W.keepIn K (.ref f30) = true)
    (a31 : PySem.W.nsIn K mainGlobals "put_square" = some (some (.ref f31)))
    (l31 : K.lookup f31 = some ⟨oc31, od31, .func (PySem.W.fnOf "put_square" "put_square" (defArgs s_put_square) (defBody s_put_square) (defScope s_put_square) .none kV31 dc31 pm31 an31 cd31 ct31), sl31⟩)
    (c31 : PySem.W.codeIn K cd31 "put_square" = true) (k31 : PySem.W.keepIn K (.ref f31) = true)
    (a32 : PySem.W.nsIn K mainGlobals "_law_mixed" = some (some (.ref f32)))
    (l32 : K.lookup f32 = some ⟨oc32, od32, .func (PySem.W.fnOf "_law_mixed" "_law_mixed" (defArgs s_law_mixed) (defBody s_law_mixed) (defScope s_law_mixed) .none kV32 dc32 pm32 an32 cd32 ct32), sl32⟩)
    (c32 : PySem.W.codeIn K cd32 "_law_mixed" = true) (k32 : PySem.W.keepIn K (.ref f32) = true)
    (a33 : PySem.W.nsIn K mainGlobals "_law_number" = some (some (.ref f33)))
    (l33 : K.lookup f33 = some ⟨oc33, od33, .func (PySem.W.fnOf "_law_number" "_law_number" (defArgs s_law_number) (defBody s_law_number) (defScope s_law_number) .none kV33 dc33 pm33 an33 cd33 ct33), sl33⟩)
    (c33 : PySem.W.codeIn K cd33 "_law_number" = true) (k33 : PySem.W.keepIn K (.ref f33) = true)
    (a34 : PySem.W.nsIn K mainGlobals "_law_parting_by" = some (some (.ref f34)))
    (l34 : K.lookup f34 = some ⟨oc34, od34, .func (PySem.W.fnOf "_law_parting_by" "_law_parting_by" (defArgs s_law_parting_by) (defBody s_law_parting_by) (defScope s_law_parting_by) .none kV34 dc34 pm34 an34 cd34 ct34), sl34⟩)
    (c34 : PySem.W.codeIn K cd34 "_law_parting_by" = true) (k34 : PySem.W.keepIn K (.ref f34) = true)
    (a35 : PySem.W.nsIn K mainGlobals "_law_name" = some (some (.ref f35)))
    (l35 : K.lookup f35 = some ⟨oc35, od35, .func (PySem.W.fnOf "_law_name" "_law_name" (defArgs s_law_name) (defBody s_law_name) (defScope s_law_name) .none kV35 dc35 pm35 an35 cd35 ct35), sl35⟩)
    (c35 : PySem.W.codeIn K cd35 "_law_name" = true) (k35 : PySem.W.keepIn K (.ref f35) = true)
    (a36 : PySem.W.nsIn K mainGlobals "_law_spoilt" = some (some (.ref f36)))
    (l36 : K.lookup f36 = some ⟨oc36, od36, .func (PySem.W.fnOf "_law_spoilt" "_law_spoilt" (defArgs s_law_spoilt) (defBody s_law_spoilt) (defScope s_law_spoilt) .none kV36 dc36 pm36 an36 cd36 ct36), sl36⟩)
    (c36 : PySem.W.codeIn K cd36 "_law_spoilt" = true) (k36 : PySem.W.keepIn K (.ref f36) = true)
    (a37 : PySem.W.nsIn K mainGlobals "_law_asked" = some (some (.ref f37)))
    (l37 : K.lookup f37 = some ⟨oc37, od37, .func (PySem.W.fnOf "_law_asked" "_law_asked" (defArgs s_law_asked) (defBody s_law_asked) (defScope s_law_asked) .none kV37 dc37 pm37 an37 cd37 ct37), sl37⟩)
    (c37 : PySem.W.codeIn K cd37 "_law_asked" = true) (k37 : PySem.W.keepIn K (.ref f37) = true)
    (a38 : PySem.W.nsIn K mainGlobals "_law_told" = some (some (.ref f38)))
    (l38 : K.lookup f38 = some ⟨oc38, od38, .func (PySem.W.fnOf "_law_told" "_law_told" (defArgs s_law_told) (defBody s_law_told) (defScope s_law_told) .none kV38 dc38 pm38 an38 cd38 ct38), sl38⟩)
    (c38 : PySem.W.codeIn K cd38 "_law_told" = true) (k38 : PySem.W.keepIn K (.ref f38) = true)
    (a39 : PySem.W.nsIn K mainGlobals "_law_counted" = some (some (.ref f39)))
    (l39 : K.lookup f39 = some ⟨oc39, od39, .func (PySem.W.fnOf "_law_counted" "_law_counted" (defArgs s_law_counted) (defBody s_law_counted) (defScope s_law_counted) .none kV39 dc39 pm39 an39 cd39 ct39), sl39⟩)
    (c39 : PySem.W.codeIn K cd39 "_law_counted" = true) (k39 : PySem.W.keepIn K (.ref f39) = true)
    (a40 : PySem.W.nsIn K mainGlobals "_law_numbers" = some (some (.ref f40)))
    (l40 : K.lookup f40 = some ⟨oc40, od40, .func (PySem.W.fnOf "_law_numbers" "_law_numbers" (defArgs s_law_numbers) (defBody s_law_numbers) (defScope s_law_numbers) .none kV40 dc40 pm40 an40 cd40 ct40), sl40⟩)
    (c40 : PySem.W.codeIn K cd40 "_law_numbers" = true) (k40 : PySem.W.keepIn K (.ref f40) = true)
    (a41 : PySem.W.nsIn K mainGlobals "law" = some (some (.ref f41)))
    (l41 : K.lookup f41 = some ⟨oc41, od41, .func (PySem.W.fnOf "law" "law" (defArgs s_law) (defBody s_law) (defScope s_law) .none kV41 dc41 pm41 an41 cd41 ct41), sl41⟩)
    (c41 : PySem.W.codeIn K cd41 "law" = true) (k41 : PySem.W.keepIn K (.ref f41) = true)
    (z_ValueError : PySem.W.nsIn K mainGlobals "ValueError" = some none)
    (z_any : PySem.W.nsIn K mainGlobals "any" = some none)
    (z_bool : PySem.W.nsIn K mainGlobals "bool" = some none)
    (z_enumerate : PySem.W.nsIn K mainGlobals "enumerate" = some none)
    (z_int : PySem.W.nsIn K mainGlobals "int" = some none)
    (z_isinstance : PySem.W.nsIn K mainGlobals "isinstance" = some none)
    (z_len : PySem.W.nsIn K mainGlobals "len" = some none)
    (z_list : PySem.W.nsIn K mainGlobals "list" = some none)
    (z_max : PySem.W.nsIn K mainGlobals "max" = some none)
    (z_min : PySem.W.nsIn K mainGlobals "min" = some none)
    (z_range : PySem.W.nsIn K mainGlobals "range" = some none)
    (z_set : PySem.W.nsIn K mainGlobals "set" = some none)
    (z_sorted : PySem.W.nsIn K mainGlobals "sorted" = some none)
    (z_str : PySem.W.nsIn K mainGlobals "str" = some none)
    (z_sum : PySem.W.nsIn K mainGlobals "sum" = some none)
    (z_tuple : PySem.W.nsIn K mainGlobals "tuple" = some none)
    (y_zip_longest : PySem.W.nsIn K mainGlobals "zip_longest" = some (some (.type "itertools.zip_longest")))
    (v_GREATEST_WHOLE : PySem.W.nsIn K mainGlobals "GREATEST_WHOLE" = some (some (.int 200 t_GREATEST_WHOLE)))
    (g_NoFit : PySem.W.nsIn K mainGlobals "NoFit" = some (some (.ref C_NoFit)))
    (g_NoNumber : PySem.W.nsIn K mainGlobals "NoNumber" = some (some (.ref C_NoNumber)))
    (g_NoParting : PySem.W.nsIn K mainGlobals "NoParting" = some (some (.ref C_NoParting)))
    (g_PartError : PySem.W.nsIn K mainGlobals "PartError" = some (some (.ref C_PartError)))
    (x_NoFit : PySem.W.excIn K C_NoFit [.type "ValueError", .type "Exception", .type "BaseException", .type "object"] "ValueError.__new__" = true)
    (k_NoFit : PySem.W.keepIn K (.ref C_NoFit) = true)
    (s_NoFit : PySem.W.subIn K (.ref C_NoFit) (.type "BaseException") = some true)
    (t_NoFit : PySem.W.typeIn K (.ref C_NoFit) = some (.type "type"))
    (ehg_NoFit : PySem.W.findIn K (.ref C_NoFit) "__getattribute__" = some (some (.builtin "BaseException.__getattribute__")))
    (ehk_NoFit : PySem.W.findIn K (.ref C_NoFit) "__getattr__" = some none)
    (ehd_NoFit : PySem.W.hasDictIn K C_NoFit = true)
    (eha_NoFit : PySem.W.findIn K (.ref C_NoFit) "__class__" = some (some (.builtin "object.__class__")))
    (ehm_NoFit : PySem.W.mroIn K C_NoFit (.type "object") = some true)
    (x_NoParting : PySem.W.excIn K C_NoParting [.type "ValueError", .type "Exception", .type "BaseException", .type "object"] "ValueError.__new__" = true)
    (k_NoParting : PySem.W.keepIn K (.ref C_NoParting) = true)
    (s_NoParting : PySem.W.subIn K (.ref C_NoParting) (.type "BaseException") = some true)
    (t_NoParting : PySem.W.typeIn K (.ref C_NoParting) = some (.type "type"))
    (ehg_NoParting : PySem.W.findIn K (.ref C_NoParting) "__getattribute__" = some (some (.builtin "BaseException.__getattribute__")))
    (ehk_NoParting : PySem.W.findIn K (.ref C_NoParting) "__getattr__" = some none)
    (ehd_NoParting : PySem.W.hasDictIn K C_NoParting = true)
    (eha_NoParting : PySem.W.findIn K (.ref C_NoParting) "__class__" = some (some (.builtin "object.__class__")))
    (ehm_NoParting : PySem.W.mroIn K C_NoParting (.type "object") = some true)
    (x_NoNumber : PySem.W.excIn K C_NoNumber [.type "ValueError", .type "Exception", .type "BaseException", .type "object"] "ValueError.__new__" = true)
    (k_NoNumber : PySem.W.keepIn K (.ref C_NoNumber) = true)
    (s_NoNumber : PySem.W.subIn K (.ref C_NoNumber) (.type "BaseException") = some true)
    (t_NoNumber : PySem.W.typeIn K (.ref C_NoNumber) = some (.type "type"))
    (ehg_NoNumber : PySem.W.findIn K (.ref C_NoNumber) "__getattribute__" = some (some (.builtin "BaseException.__getattribute__")))
    (ehk_NoNumber : PySem.W.findIn K (.ref C_NoNumber) "__getattr__" = some none)
    (ehd_NoNumber : PySem.W.hasDictIn K C_NoNumber = true)
    (eha_NoNumber : PySem.W.findIn K (.ref C_NoNumber) "__class__" = some (some (.builtin "object.__class__")))
    (ehm_NoNumber : PySem.W.mroIn K C_NoNumber (.type "object") = some true)
    (e_hn : PySem.W.specialIn K (.builtin "object.__class__") "__get__" = some (some (.builtin "getset_descriptor.__get__")))
    (e_ht : PySem.W.takesIn K (.builtin "object.__class__") = some true)
    (ns_PartError : PySem.W.subIn K (.ref C_PartError) (.type "BaseException") = some true)
    (nd_PartError : PySem.W.hasDictIn K C_PartError = true)
    (nt_PartError : PySem.W.typeIn K (.ref C_PartError) = some (.type "type"))
    (m_NoParting_PartError : PySem.W.subIn K (.ref C_NoParting) (.ref C_PartError) = some true)
    (m_NoFit_PartError : PySem.W.subIn K (.ref C_NoFit) (.ref C_PartError) = some true)
    (m_NoNumber_PartError : PySem.W.subIn K (.ref C_NoNumber) (.ref C_PartError) = some true)
    (q_NoParting_NoFit : PySem.W.subIn K (.ref C_NoParting) (.ref C_NoFit) = some false)
    (u_NoParting_NoFit : (Value.ref C_NoParting == Value.ref C_NoFit) = false)
    (q_NoParting_NoNumber : PySem.W.subIn K (.ref C_NoParting) (.ref C_NoNumber) = some false)
    (u_NoParting_NoNumber : (Value.ref C_NoParting == Value.ref C_NoNumber) = false)
    (q_NoFit_NoParting : PySem.W.subIn K (.ref C_NoFit) (.ref C_NoParting) = some false)
    (u_NoFit_NoParting : (Value.ref C_NoFit == Value.ref C_NoParting) = false)
    (q_NoFit_NoNumber : PySem.W.subIn K (.ref C_NoFit) (.ref C_NoNumber) = some false)
    (u_NoFit_NoNumber : (Value.ref C_NoFit == Value.ref C_NoNumber) = false)
    (q_NoNumber_NoParting : PySem.W.subIn K (.ref C_NoNumber) (.ref C_NoParting) = some false)
    (u_NoNumber_NoParting : (Value.ref C_NoNumber == Value.ref C_NoParting) = false)
    (q_NoNumber_NoFit : PySem.W.subIn K (.ref C_NoNumber) (.ref C_NoFit) = some false)
    (u_NoNumber_NoFit : (Value.ref C_NoNumber == Value.ref C_NoFit) = false)
    (q_NoParting_ValueError : PySem.W.subIn K (.ref C_NoParting) (.type "ValueError") = some true)
    (q_NoFit_ValueError : PySem.W.subIn K (.ref C_NoFit) (.type "ValueError") = some true)
    (q_NoNumber_ValueError : PySem.W.subIn K (.ref C_NoNumber) (.type "ValueError") = some true)
    : ∃ fd : FuncData, (∀ (s : Shared) (v : Value), BindsTo s fd ⟨[v], []⟩ [("_law_script", v)]) ∧ ∀ base : Heap, K.In base → base.Ns mainGlobals mg → FnOk l.prog w K mg base CX0 9 fa fd ["_law_script"] (sp_law K) := by
  have e := hfa.symm.trans (PySem.W.mg_of X G a41)
  cases e
  have F1 := fun_mk (st := s_is_number) l1 c1 k1
  have b1 := F1.binds (ps := ["thing"]) fun _ _ _ _ _ _ us hl => match us, hl with | [_], _ => rfl
  have F2 := fun_mk (st := s_check_number) l2 c2 k2
  have b2 := F2.binds (ps := ["thing"]) fun _ _ _ _ _ _ us hl => match us, hl with | [_], _ => rfl
  have F3 := fun_mk (st := s_is_parting) l3 c3 k3
  have b3 := F3.binds (ps := ["thing"]) fun _ _ _ _ _ _ us hl => match us, hl with | [_], _ => rfl
  have F4 := fun_mk (st := s_check_parting) l4 c4 k4
  have b4 := F4.binds (ps := ["thing"]) fun _ _ _ _ _ _ us hl => match us, hl with | [_], _ => rfl
  have F5 := fun_mk (st := s_turned) l5 c5 k5
  have b5 := F5.binds (ps := ["parting"]) fun _ _ _ _ _ _ us hl => match us, hl with | [_], _ => rfl
  have F6 := fun_mk (st := s_column_height) l6 c6 k6
  have b6 := F6.binds (ps := ["parting", "column"]) fun _ _ _ _ _ _ us hl => match us, hl with | [_, _], _ => rfl
  have F7 : FunD K "how_many" "how_many" (defArgs s_how_many) (defBody s_how_many) (defScope s_how_many) [.non] [] f7 _ := ⟨⟨oc7, od7, .ref t7, kV7, dc7, pm7, an7, cd7, ct7, sl7, rfl, l7, c7, .inr ⟨by simp, t7, _, [.none], tn7, rfl, m7, rfl, .cons rfl .nil⟩, .inl rfl⟩, k7⟩
  obtain ⟨vz7, wz7, bz7⟩ := F7.binds1 (ps := ["whole", "most"]) 2 1 (by simp) rfl fun T kV doc pm an cdv ct us its h1 h2 => match us, its, h1, h2 with | [_, _], [_], _, _ => ⟨_, rfl, rfl⟩
  cases wz7
  obtain ⟨vy7, wy7, by7⟩ := F7.binds1 (ps := ["whole", "most"]) 1 0 (by simp) rfl fun T kV doc pm an cdv ct us its h1 h2 => match us, its, h1, h2 with | [_], [_], _, _ => ⟨_, rfl, rfl⟩
  have F8 := fun_mk (st := s_number_of) l8 c8 k8
  have b8 := F8.binds (ps := ["parting"]) fun _ _ _ _ _ _ us hl => match us, hl with | [_], _ => rfl
  have F9 := fun_mk (st := s_parting_of) l9 c9 k9
  have b9 := F9.binds (ps := ["whole", "number"]) fun _ _ _ _ _ _ us hl => match us, hl with | [_, _], _ => rfl
  have F10 := fun_mk (st := s_check_whole) l10 c10 k10
  have b10 := F10.binds (ps := ["thing"]) fun _ _ _ _ _ _ us hl => match us, hl with | [_], _ => rfl
  have F11 := fun_mk (st := s_count_rows) l11 c11 k11
  have b11 := F11.binds (ps := ["whole", "greatest"]) fun _ _ _ _ _ _ us hl => match us, hl with | [_, _], _ => rfl
  have F12 := fun_mk (st := s_first_part) l12 c12 k12
  have b12 := F12.binds (ps := ["rows", "whole", "number"]) fun _ _ _ _ _ _ us hl => match us, hl with | [_, _, _], _ => rfl
  have F13 := fun_mk (st := s_unlike_of) l13 c13 k13
  have b13 := F13.binds (ps := ["parting"]) fun _ _ _ _ _ _ us hl => match us, hl with | [_], _ => rfl
  have F14 := fun_mk (st := s_odd_of) l14 c14 k14
  have b14 := F14.binds (ps := ["parting"]) fun _ _ _ _ _ _ us hl => match us, hl with | [_], _ => rfl
  have F15 := fun_mk (st := s_bends_of) l15 c15 k15
  have b15 := F15.binds (ps := ["parting"]) fun _ _ _ _ _ _ us hl => match us, hl with | [_], _ => rfl
  have F16 := fun_mk (st := s_unbent) l16 c16 k16
  have b16 := F16.binds (ps := ["parting"]) fun _ _ _ _ _ _ us hl => match us, hl with | [_], _ => rfl
  have F17 := fun_mk (st := s_check_odd) l17 c17 k17
  have b17 := F17.binds (ps := ["parting"]) fun _ _ _ _ _ _ us hl => match us, hl with | [_], _ => rfl
  have F18 := fun_mk (st := s_check_unlike) l18 c18 k18
  have b18 := F18.binds (ps := ["parting"]) fun _ _ _ _ _ _ us hl => match us, hl with | [_], _ => rfl
  have F19 := fun_mk (st := s_powers_in) l19 c19 k19
  have b19 := F19.binds (ps := ["many"]) fun _ _ _ _ _ _ us hl => match us, hl with | [_], _ => rfl
  have F20 := fun_mk (st := s_greatest_power_within) l20 c20 k20
  have b20 := F20.binds (ps := ["part"]) fun _ _ _ _ _ _ us hl => match us, hl with | [_], _ => rfl
  have F21 := fun_mk (st := s_lies_above) l21 c21 k21
  have b21 := F21.binds (ps := ["one", "other"]) fun _ _ _ _ _ _ us hl => match us, hl with | [_, _], _ => rfl
  have F22 := fun_mk (st := s_lacking_count) l22 c22 k22
  have b22 := F22.binds (ps := ["one", "other"]) fun _ _ _ _ _ _ us hl => match us, hl with | [_, _], _ => rfl
  have F23 := fun_mk (st := s_let_down) l23 c23 k23
  have b23 := F23.binds (ps := ["parting", "first", "second"]) fun _ _ _ _ _ _ us hl => match us, hl with | [_, _, _], _ => rfl
  have F24 := fun_mk (st := s_way_down) l24 c24 k24
  have b24 := F24.binds (ps := ["one", "other"]) fun _ _ _ _ _ _ us hl => match us, hl with | [_, _], _ => rfl
  have F25 := fun_mk (st := s_check_pair) l25 c25 k25
  have b25 := F25.binds (ps := ["one", "other"]) fun _ _ _ _ _ _ us hl => match us, hl with | [_, _], _ => rfl
  have F26 := fun_mk (st := s_gaps) l26 c26 k26
  have b26 := F26.binds (ps := ["one", "other"]) fun _ _ _ _ _ _ us hl => match us, hl with | [_, _], _ => rfl
  have F27 := fun_mk (st := s_are_places) l27 c27 k27
  have b27 := F27.binds (ps := ["parting", "first", "second"]) fun _ _ _ _ _ _ us hl => match us, hl with | [_, _, _], _ => rfl
  have F28 := fun_mk (st := s_nearer) l28 c28 k28
  have b28 := F28.binds (ps := ["parting", "goal"]) fun _ _ _ _ _ _ us hl => match us, hl with | [_, _], _ => rfl
  have F29 := fun_mk (st := s_square_of) l29 c29 k29
  have b29 := F29.binds (ps := ["parting"]) fun _ _ _ _ _ _ us hl => match us, hl with | [_], _ => rfl
  have F30 := fun_mk (st := s_cut_square) l30 c30 k30
  have b30 := F30.binds (ps := ["parting"]) fun _ _ _ _ _ _ us hl => match us, hl with | [_], _ => rfl
  have F31 := fun_mk (st := s_put_square) l31 c31 k31
  have b31 := F31.binds (ps := ["beside", "beneath", "number"]) fun _ _ _ _ _ _ us hl => match us, hl with | [_, _, _], _ => rfl
  have F32 := fun_mk (st := s_law_mixed) l32 c32 k32
  have b32 := F32.binds (ps := ["_law_number_here", "_law_k"]) fun _ _ _ _ _ _ us hl => match us, hl with | [_, _], _ => rfl
  have F33 := fun_mk (st := s_law_number) l33 c33 k33
  have b33 := F33.binds (ps := ["_law_script", "_law_k"]) fun _ _ _ _ _ _ us hl => match us, hl with | [_, _], _ => rfl
  have F34 := fun_mk (st := s_law_parting_by) l34 c34 k34
  have b34 := F34.binds (ps := ["_law_script", "_law_first"]) fun _ _ _ _ _ _ us hl => match us, hl with | [_, _], _ => rfl
  have F35 := fun_mk (st := s_law_name) l35 c35 k35
  have b35 := F35.binds (ps := ["_law_error"]) fun _ _ _ _ _ _ us hl => match us, hl with | [_], _ => rfl
  have F36 := fun_mk (st := s_law_spoilt) l36 c36 k36
  have b36 := F36.binds (ps := ["_law_parting", "_law_number_here"]) fun _ _ _ _ _ _ us hl => match us, hl with | [_, _], _ => rfl
  have F37 := fun_mk (st := s_law_asked) l37 c37 k37
  have b37 := F37.binds (ps := ["_law_which", "_law_one", "_law_other"]) fun _ _ _ _ _ _ us hl => match us, hl with | [_, _, _], _ => rfl
  have F38 := fun_mk (st := s_law_told) l38 c38 k38
  have b38 := F38.binds (ps := ["_law_which", "_law_one", "_law_other"]) fun _ _ _ _ _ _ us hl => match us, hl with | [_, _, _], _ => rfl
  have F39 := fun_mk (st := s_law_counted) l39 c39 k39
  have b39 := F39.binds (ps := ["_law_which", "_law_first", "_law_second"]) fun _ _ _ _ _ _ us hl => match us, hl with | [_, _, _], _ => rfl
  have F40 := fun_mk (st := s_law_numbers) l40 c40 k40
  have b40 := F40.binds (ps := ["_law_number_here"]) fun _ _ _ _ _ _ us hl => match us, hl with | [_], _ => rfl
  have F41 := fun_mk (st := s_law) l41 c41 k41
  have b41 := F41.binds (ps := ["_law_script"]) fun _ _ _ _ _ _ us hl => match us, hl with | [_], _ => rfl
  let T : Tx K mg := { a_is_number := f1, d_is_number := _, F_is_number := F1, b_is_number := b1, g_is_number := PySem.W.mg_of X G a1, a_check_number := f2, d_check_number := _, F_check_number := F2, b_check_number := b2, g_check_number := PySem.W.mg_of X G a2, a_is_parting := f3, d_is_parting := _, F_is_parting := F3, b_is_parting := b3, g_is_parting := PySem.W.mg_of X G a3, a_check_parting := f4, d_check_parting := _, F_check_parting := F4, b_check_parting := b4, g_check_parting := PySem.W.mg_of X G a4, a_turned := f5, d_turned := _, F_turned := F5, b_turned := b5, g_turned := PySem.W.mg_of X G a5, a_column_height := f6, d_column_height := _, F_column_height := F6, b_column_height := b6, g_column_height := PySem.W.mg_of X G a6, a_how_many := f7, d_how_many := _, F_how_many := F7, b_how_many := bz7, v_how_many := vy7, w_how_many := wy7, b1_how_many := by7, g_how_many := PySem.W.mg_of X G a7, a_number_of := f8, d_number_of := _, F_number_of := F8, b_number_of := b8, g_number_of := PySem.W.mg_of X G a8, a_parting_of := f9, d_parting_of := _, F_parting_of := F9, b_parting_of := b9, g_parting_of := PySem.W.mg_of X G a9, a_check_whole := f10, d_check_whole := _, F_check_whole := F10, b_check_whole := b10, g_check_whole := PySem.W.mg_of X G a10, a_count_rows := f11, d_count_rows := _, F_count_rows := F11, b_count_rows := b11, g_count_rows := PySem.W.mg_of X G a11, a_first_part := f12, d_first_part := _, F_first_part := F12, b_first_part := b12, g_first_part := PySem.W.mg_of X G a12, a_unlike_of := f13, d_unlike_of := _, F_unlike_of := F13, b_unlike_of := b13, g_unlike_of := PySem.W.mg_of X G a13, a_odd_of := f14, d_odd_of := _, F_odd_of := F14, b_odd_of := b14, g_odd_of := PySem.W.mg_of X G a14, a_bends_of := f15, d_bends_of := _, F_bends_of := F15, b_bends_of := b15, g_bends_of := PySem.W.mg_of X G a15, a_unbent := f16, d_unbent := _, F_unbent := F16, b_unbent := b16, g_unbent := PySem.W.mg_of X G a16, a_check_odd := f17, d_check_odd := _, F_check_odd := F17, b_check_odd := b17, g_check_odd := PySem.W.mg_of X G a17, a_check_unlike := f18, d_check_unlike := _, F_check_unlike := F18, b_check_unlike := b18, g_check_unlike := PySem.W.mg_of X G a18, a_powers_in := f19, d_powers_in := _, F_powers_in := F19, b_powers_in := b19, g_powers_in := PySem.W.mg_of X G a19, a_greatest_power_within := f20, d_greatest_power_within := _, F_greatest_power_within := F20, b_greatest_power_within := b20, g_greatest_power_within := PySem.W.mg_of X G a20, a_lies_above := f21, d_lies_above := _, F_lies_above := F21, b_lies_above := b21, g_lies_above := PySem.W.mg_of X G a21, a_lacking_count := f22, d_lacking_count := _, F_lacking_count := F22, b_lacking_count := b22, g_lacking_count := PySem.W.mg_of X G a22, a_let_down := f23, d_let_down := _, F_let_down := F23, b_let_down := b23, g_let_down := PySem.W.mg_of X G a23, a_way_down := f24, d_way_down := _, F_way_down := F24, b_way_down := b24, g_way_down := PySem.W.mg_of X G a24, a_check_pair := f25, d_check_pair := _, F_check_pair := F25, b_check_pair := b25, g_check_pair := PySem.W.mg_of X G a25, a_gaps := f26, d_gaps := _, F_gaps := F26, b_gaps := b26, g_gaps := PySem.W.mg_of X G a26, a_are_places := f27, d_are_places := _, F_are_places := F27, b_are_places := b27, g_are_places := PySem.W.mg_of X G a27, a_nearer := f28, d_nearer := _, F_nearer := F28, b_nearer := b28, g_nearer := PySem.W.mg_of X G a28, a_square_of := f29, d_square_of := _, F_square_of := F29, b_square_of := b29, g_square_of := PySem.W.mg_of X G a29, a_cut_square := f30, d_cut_square := _, F_cut_square := F30, b_cut_square := b30, g_cut_square := PySem.W.mg_of X G a30, a_put_square := f31, d_put_square := _, F_put_square := F31, b_put_square := b31, g_put_square := PySem.W.mg_of X G a31, a_law_mixed := f32, d_law_mixed := _, F_law_mixed := F32, b_law_mixed := b32, g_law_mixed := PySem.W.mg_of X G a32, a_law_number := f33, d_law_number := _, F_law_number := F33, b_law_number := b33, g_law_number := PySem.W.mg_of X G a33, a_law_parting_by := f34, d_law_parting_by := _, F_law_parting_by := F34, b_law_parting_by := b34, g_law_parting_by := PySem.W.mg_of X G a34, a_law_name := f35, d_law_name := _, F_law_name := F35, b_law_name := b35, g_law_name := PySem.W.mg_of X G a35, a_law_spoilt := f36, d_law_spoilt := _, F_law_spoilt := F36, b_law_spoilt := b36, g_law_spoilt := PySem.W.mg_of X G a36, a_law_asked := f37, d_law_asked := _, F_law_asked := F37, b_law_asked := b37, g_law_asked := PySem.W.mg_of X G a37, a_law_told := f38, d_law_told := _, F_law_told := F38, b_law_told := b38, g_law_told := PySem.W.mg_of X G a38, a_law_counted := f39, d_law_counted := _, F_law_counted := F39, b_law_counted := b39, g_law_counted := PySem.W.mg_of X G a39, a_law_numbers := f40, d_law_numbers := _, F_law_numbers := F40, b_law_numbers := b40, g_law_numbers := PySem.W.mg_of X G a40, a_law := fa, d_law := _, F_law := F41, b_law := b41, g_law := PySem.W.mg_of X G a41, n_ValueError := PySem.W.mg_none_of X G z_ValueError, n_any := PySem.W.mg_none_of X G z_any, n_bool := PySem.W.mg_none_of X G z_bool, n_enumerate := PySem.W.mg_none_of X G z_enumerate, n_int := PySem.W.mg_none_of X G z_int, n_isinstance := PySem.W.mg_none_of X G z_isinstance, n_len := PySem.W.mg_none_of X G z_len, n_list := PySem.W.mg_none_of X G z_list, n_max := PySem.W.mg_none_of X G z_max, n_min := PySem.W.mg_none_of X G z_min, n_range := PySem.W.mg_none_of X G z_range, n_set := PySem.W.mg_none_of X G z_set, n_sorted := PySem.W.mg_none_of X G z_sorted, n_str := PySem.W.mg_none_of X G z_str, n_sum := PySem.W.mg_none_of X G z_sum, n_tuple := PySem.W.mg_none_of X G z_tuple, g_zip_longest := PySem.W.mg_of X G y_zip_longest, u_GREATEST_WHOLE := _, c_GREATEST_WHOLE := PySem.W.mg_of X G v_GREATEST_WHOLE, r_GREATEST_WHOLE := ⟨_, rfl⟩, C_NoFit := C_NoFit, g_NoFit := PySem.W.mg_of X G g_NoFit, C_NoNumber := C_NoNumber, g_NoNumber := PySem.W.mg_of X G g_NoNumber, C_NoParting := C_NoParting, g_NoParting := PySem.W.mg_of X G g_NoParting, C_PartError := C_PartError, g_PartError := PySem.W.mg_of X G g_PartError, x_NoFit := x_NoFit, k_NoFit := k_NoFit, s_NoFit := s_NoFit, t_NoFit := t_NoFit, e_NoFit := ⟨ehg_NoFit, ehk_NoFit, s_NoFit, ehd_NoFit, eha_NoFit, e_hn, e_ht, ehm_NoFit⟩, x_NoParting := x_NoParting, k_NoParting := k_NoParting, s_NoParting := s_NoParting, t_NoParting := t_NoParting, e_NoParting := ⟨ehg_NoParting, ehk_NoParting, s_NoParting, ehd_NoParting, eha_NoParting, e_hn, e_ht, ehm_NoParting⟩, x_NoNumber := x_NoNumber, k_NoNumber := k_NoNumber, s_NoNumber := s_NoNumber, t_NoNumber := t_NoNumber, e_NoNumber := ⟨ehg_NoNumber, ehk_NoNumber, s_NoNumber, ehd_NoNumber, eha_NoNumber, e_hn, e_ht, ehm_NoNumber⟩, m_NoParting_PartError := PySem.W.exm_ref ns_PartError nd_PartError nt_PartError m_NoParting_PartError, m_NoFit_PartError := PySem.W.exm_ref ns_PartError nd_PartError nt_PartError m_NoFit_PartError, m_NoNumber_PartError := PySem.W.exm_ref ns_PartError nd_PartError nt_PartError m_NoNumber_PartError, q_NoParting_NoParting := kit_same, q_NoParting_NoFit := kit_own u_NoParting_NoFit ehd_NoFit t_NoFit q_NoParting_NoFit, q_NoParting_NoNumber := kit_own u_NoParting_NoNumber ehd_NoNumber t_NoNumber q_NoParting_NoNumber, q_NoFit_NoParting := kit_own u_NoFit_NoParting ehd_NoParting t_NoParting q_NoFit_NoParting, q_NoFit_NoFit := kit_same, q_NoFit_NoNumber := kit_own u_NoFit_NoNumber ehd_NoNumber t_NoNumber q_NoFit_NoNumber, q_NoNumber_NoParting := kit_own u_NoNumber_NoParting ehd_NoParting t_NoParting q_NoNumber_NoParting, q_NoNumber_NoFit := kit_own u_NoNumber_NoFit ehd_NoFit t_NoFit q_NoNumber_NoFit, q_NoNumber_NoNumber := kit_same, q_NoParting_ValueError := kit_built (by decide +kernel) q_NoParting_ValueError, q_NoFit_ValueError := kit_built (by decide +kernel) q_NoFit_ValueError, q_NoNumber_ValueError := kit_built (by decide +kernel) q_NoNumber_ValueError }
  exact ⟨PySem.W.fnOf "law" "law" (defArgs s_law) (defBody s_law) (defScope s_law) .none kV41 dc41 pm41 an41 cd41 ct41, fun s v => .of_eq rfl, fun base _ _ => ok_law T⟩
end K1
open PySem PySem.W PyProof.Rows
set_option maxHeartbeats 0 in
theorem PySem.Challenge.cw_stairparts_k01_what_is_refused_holds : PySem.Challenge.rw_stairparts_k01_what_is_refused.Holds := by
  w_on; o_law; k_head; (case hw => w_witness2)
  k_fill
  refine L2.walk_of (l := PySem.Challenge.rw_stairparts_k01_what_is_refused) (n := 63) (k := 9) (x := "_law_script") (CX := fun _ => L2.CX0) (sp := fun w => K1.sp_law _) rfl (by decide) rfl ⟨rfl, by decide, by decide⟩ (fun w h Y => PySem.W.kIn_of Y) ?F (fun _ _ a ns hl _ hS => ⟨a, ns, rfl, hS, hl, fun _ => rfl⟩) (fun _ _ _ _ _ h => h)
  case F =>
    intro w mg fa h KX G hmg
    refine' K1.all_mk KX G hmg ?a1 ?l1 ?c1 ?k1 ?a2 ?l2 ?c2 ?k2 ?a3 ?l3 ?c3 ?k3 ?a4 ?l4 ?c4 ?k4 ?a5 ?l5 ?c5 ?k5 ?a6 ?l6 ?c6 ?k6 ?a7 ?l7 ?m7 ?c7 ?k7 ?a8 ?l8 ?c8 ?k8 ?a9 ?l9 ?c9 ?k9 ?a10 ?l10 ?c10 ?k10 ?a11 ?l11 ?c11 ?k11 ?a12 ?l12 ?c12 ?k12 ?a13 ?l13 ?c13 ?k13 ?a14 ?l14 ?c14 ?k14 ?a15 ?l15 ?c15 ?k15 ?a16 ?l16 ?c16 ?k16 ?a17 ?l17 ?c17 ?k17 ?a18 ?l18 ?c18 ?k18 ?a19 ?l19 ?c19 ?k19 ?a20 ?l20 ?c20 ?k20 ?a21 ?l21 ?c21 ?k21 ?a22 ?l22 ?c22 ?k22 ?a23 ?l23 ?c23 ?k23 ?a24 ?l24 ?c24 ?k24 ?a25 ?l25 ?c25 ?k25 ?a26 ?l26 ?c26 ?k26 ?a27 ?l27 ?c27 ?k27 ?a28 ?l28 ?c28 ?k28 ?a29 ?l29 ?c29 ?k29 ?a30 ?l30 ?c30 ?k30 ?a31 ?l31 ?c31 ?k31 ?a32 ?l32 ?c32 ?k32 ?a33 ?l33 ?c33 ?k33 ?a34 ?l34 ?c34 ?k34 ?a35 ?l35 ?c35 ?k35 ?a36 ?l36 ?c36 ?k36 ?a37 ?l37 ?c37 ?k37 ?a38 ?l38 ?c38 ?k38 ?a39 ?l39 ?c39 ?k39 ?a40 ?l40 ?c40 ?k40 ?a41 ?l41 ?c41 ?k41 ?z_ValueError ?z_any ?z_bool ?z_enumerate ?z_int ?z_isinstance ?z_len ?z_list ?z_max ?z_min ?z_range ?z_set ?z_sorted ?z_str ?z_sum ?z_tuple ?y_zip_longest ?v_GREATEST_WHOLE ?g_NoFit ?g_NoNumber ?g_NoParting ?g_PartError ?x_NoFit ?k_NoFit ?s_NoFit ?t_NoFit ?ehg_NoFit ?ehk_NoFit ?ehd_NoFit ?eha_NoFit ?ehm_NoFit ?x_NoParting ?k_NoParting ?s_NoParting ?t_NoParting ?ehg_NoParting ?ehk_NoParting ?ehd_NoParting ?eha_NoParting ?ehm_NoParting ?x_NoNumber ?k_NoNumber ?s_NoNumber ?t_NoNumber ?ehg_NoNumber ?ehk_NoNumber ?ehd_NoNumber ?eha_NoNumber ?ehm_NoNumber ?e_hn ?e_ht ?ns_PartError ?nd_PartError ?nt_PartError ?m_NoParting_PartError ?m_NoFit_PartError ?m_NoNumber_PartError ?q_NoParting_NoFit ?u_NoParting_NoFit ?q_NoParting_NoNumber ?u_NoParting_NoNumber ?q_NoFit_NoParting ?u_NoFit_NoParting ?q_NoFit_NoNumber ?u_NoFit_NoNumber ?q_NoNumber_NoParting ?u_NoNumber_NoParting ?q_NoNumber_NoFit ?u_NoNumber_NoFit ?q_NoParting_ValueError ?q_NoFit_ValueError ?q_NoNumber_ValueError
    (case a1 => k_is); (case l1 => k_is); (case c1 => k_is); (case k1 => k_is)
    (case a2 => k_is); (case l2 => k_is); (case c2 => k_is); (case k2 => k_is)
    (case a3 => k_is); (case l3 => k_is); (case c3 => k_is); (case k3 => k_is)
    (case a4 => k_is); (case l4 => k_is); (case c4 => k_is); (case k4 => k_is)
    (case a5 => k_is); (case l5 => k_is); (case c5 => k_is); (case k5 => k_is)
    (case a6 => k_is); (case l6 => k_is); (case c6 => k_is); (case k6 => k_is)
    (case a7 => k_is); (case l7 => k_is); (case m7 => k_is); (case c7 => k_is)
    (case k7 => k_is); (case a8 => k_is); (case l8 => k_is); (case c8 => k_is)
    (case k8 => k_is); (case a9 => k_is); (case l9 => k_is); (case c9 => k_is)
    (case k9 => k_is); (case a10 => k_is); (case l10 => k_is); (case c10 => k_is)
    (case k10 => k_is); (case a11 => k_is); (case l11 => k_is); (case c11 => k_is)
    (case k11 => k_is); (case a12 => k_is); (case l12 => k_is); (case c12 => k_is)
    (case k12 => k_is); (case a13 => k_is); (case l13 => k_is); (case c13 => k_is)
    (case k13 => k_is); (case a14 => k_is); (case l14 => k_is); (case c14 => k_is)
    (case k14 => k_is); (case a15 => k_is); (case l15 => k_is); (case c15 => k_is)
    (case k15 => k_is); (case a16 => k_is); (case l16 => k_is); (case c16 => k_is)
    (case k16 => k_is); (case a17 => k_is); (case l17 => k_is); (case c17 => k_is)
    (case k17 => k_is); (case a18 => k_is); (case l18 => k_is); (case c18 => k_is)
    (case k18 => k_is); (case a19 => k_is); (case l19 => k_is); (case c19 => k_is)
    (case k19 => k_is); (case a20 => k_is); (case l20 => k_is); (case c20 => k_is)
    (case k20 => k_is); (case a21 => k_is); (case l21 => k_is); (case c21 => k_is)
    (case k21 => k_is); (case a22 => k_is); (case l22 => k_is); (case c22 => k_is)
    (case k22 => k_is); (case a23 => k_is); (case l23 => k_is); (case c23 => k_is)
    (case k23 => k_is); (case a24 => k_is); (case l24 => k_is); (case c24 => k_is)
    (case k24 => k_is); (case a25 => k_is); (case l25 => k_is); (case c25 => k_is)
    (case k25 => k_is); (case a26 => k_is); (case l26 => k_is); (case c26 => k_is)
    (case k26 => k_is); (case a27 => k_is); (case l27 => k_is); (case c27 => k_is)
    (case k27 => k_is); (case a28 => k_is); (case l28 => k_is); (case c28 => k_is)
    (case k28 => k_is); (case a29 => k_is); (case l29 => k_is); (case c29 => k_is)
    (case k29 => k_is); (case a30 => k_is); (case l30 => k_is); (case c30 => k_is)
    (case k30 => k_is); (case a31 => k_is); (case l31 => k_is); (case c31 => k_is)
    (case k31 => k_is); (case a32 => k_is); (case l32 => k_is); (case c32 => k_is)
    (case k32 => k_is); (case a33 => k_is); (case l33 => k_is); (case c33 => k_is)
    (case k33 => k_is); (case a34 => k_is); (case l34 => k_is); (case c34 => k_is)
    (case k34 => k_is); (case a35 => k_is); (case l35 => k_is); (case c35 => k_is)
    (case k35 => k_is); (case a36 => k_is); (case l36 => k_is); (case c36 => k_is)
    (case k36 => k_is); (case a37 => k_is); (case l37 => k_is); (case c37 => k_is)
    (case k37 => k_is); (case a38 => k_is); (case l38 => k_is); (case c38 => k_is)
    (case k38 => k_is); (case a39 => k_is); (case l39 => k_is); (case c39 => k_is)
    (case k39 => k_is); (case a40 => k_is); (case l40 => k_is); (case c40 => k_is)
    (case k40 => k_is); (case a41 => k_is); (case l41 => k_is); (case c41 => k_is)
    (case k41 => k_is); (case z_ValueError => k_is); (case z_any => k_is); (case z_bool => k_is)
    (case z_enumerate => k_is); (case z_int => k_is); (case z_isinstance => k_is); (case z_len => k_is)
    (case z_list => k_is); (case z_max => k_is); (case z_min => k_is); (case z_range => k_is)
    (case z_set => k_is); (case z_sorted => k_is); (case z_str => k_is); (case z_sum => k_is)
    (case z_tuple => k_is); (case y_zip_longest => k_is); (case v_GREATEST_WHOLE => k_is); (case g_NoFit => k_is)
    (case g_NoNumber => k_is); (case g_NoParting => k_is); (case g_PartError => k_is); (case x_NoFit => k_exc)
    (case k_NoFit => k_is); (case s_NoFit => k_is); (case t_NoFit => k_is); (case ehg_NoFit => k_is)
    (case ehk_NoFit => k_is); (case ehd_NoFit => k_is); (case eha_NoFit => k_is); (case ehm_NoFit => k_is)
    (case x_NoParting => k_exc); (case k_NoParting => k_is); (case s_NoParting => k_is); (case t_NoParting => k_is)
    (case ehg_NoParting => k_is); (case ehk_NoParting => k_is); (case ehd_NoParting => k_is); (case eha_NoParting => k_is)
    (case ehm_NoParting => k_is); (case x_NoNumber => k_exc); (case k_NoNumber => k_is); (case s_NoNumber => k_is)
    (case t_NoNumber => k_is); (case ehg_NoNumber => k_is); (case ehk_NoNumber => k_is); (case ehd_NoNumber => k_is)
    (case eha_NoNumber => k_is); (case ehm_NoNumber => k_is); (case e_hn => k_is); (case e_ht => k_is)
    (case ns_PartError => k_is); (case nd_PartError => k_is); (case nt_PartError => k_is); (case m_NoParting_PartError => first | rfl | k_is)
    (case m_NoFit_PartError => first | rfl | k_is); (case m_NoNumber_PartError => first | rfl | k_is); (case q_NoParting_NoFit => k_is); (case u_NoParting_NoFit => first | rfl | decide +kernel)
    (case q_NoParting_NoNumber => k_is); (case u_NoParting_NoNumber => first | rfl | decide +kernel); (case q_NoFit_NoParting => k_is); (case u_NoFit_NoParting => first | rfl | decide +kernel)
    (case q_NoFit_NoNumber => k_is); (case u_NoFit_NoNumber => first | rfl | decide +kernel); (case q_NoNumber_NoParting => k_is); (case u_NoNumber_NoParting => first | rfl | decide +kernel)
    (case q_NoNumber_NoFit => k_is); (case u_NoNumber_NoFit => first | rfl | decide +kernel); (case q_NoParting_ValueError => k_is); (case q_NoFit_ValueError => k_is)
    (case q_NoNumber_ValueError => k_is)
