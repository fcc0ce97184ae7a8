import PyProof.Rows.All
import Wide.All
import OpenK.AllK
import Wide.FinOn
import KE.DatumOrd
import KE.KEqSeq
import HandS.Base
import HandS.Call
import HandS.List
import HandS.Comp
import HandS.Iter
import HandS.Ends
import HandS.Words
import HandS.SortKw
import HandS.SortInts
import HandS.IsInst
import HandS.Style
import HandS.Evl
import HandS.Star
import HandS.SetFor
import HandS.Exc
import HandS.ExcOwn
import HandS.ExcValue
import HandS.ExcIs
import HandS.TryOnly
import HandS.WordsExc
import PyProof.Rows.CountFlat
import PyProof.CallType
import KE.GoesEnumKw
import PyProof.ZipIter
import PyProof.RulesTry
import PySem.Challenge.RW_stairparts_k03_above_and_lacking
set_option Elab.async false
set_option linter.all false
set_option maxRecDepth 100000
set_option maxHeartbeats 2000000
namespace XP
open PySem PySem.Spec PyProof.Rows L2
/-! ### max(xs, default=d) over a list of whole numbers -/
theorem fold_max (x : Int) : ∀ xs : List Int, (xs.foldl (fun a y => if decide (a < y) = true then y else a) x ∈ x :: xs) ∧ ∀ y ∈ x :: xs, y ≤ xs.foldl (fun a y => if decide (a < y) = true then y else a) x := by
  intro xs
  induction xs generalizing x with
  | nil => exact ⟨List.mem_cons_self, fun y hy => by simp at hy; simp [hy]⟩
  | cons z r ih =>
    rw [List.foldl_cons]
    by_cases c : x < z
    · rw [if_pos (decide_eq_true c)]
      obtain ⟨h1, h2⟩ := ih z
      refine ⟨List.mem_cons_of_mem _ h1, fun y hy => ?_⟩
      rcases List.mem_cons.mp hy with e | hy
      · have := h2 z List.mem_cons_self
        omega
      · exact h2 y hy
    · rw [if_neg (by simpa using c)]
      obtain ⟨h1, h2⟩ := ih x
      refine ⟨?_, fun y hy => ?_⟩
      · rcases List.mem_cons.mp h1 with e | h
        · rw [e]; exact List.mem_cons_self
        · exact List.mem_cons_of_mem _ (List.mem_cons_of_mem _ h)
      · rcases List.mem_cons.mp hy with e | hy
        · rw [e]; exact h2 x List.mem_cons_self
        · rcases List.mem_cons.mp hy with e | hy
          · have := h2 x List.mem_cons_self
            omega
          · exact h2 y (List.mem_cons_of_mem _ hy)
theorem readsAll_ints (h : Heap) : ∀ {vs : List Value} {ns : List Int}, IntsAre vs ns → ReadsAll h vs (ns.map (PySem.W.Datum.toD (α := Int))) []
  | _, _, .nil => .nil
  | _, _, .cons n t r => by
    rw [List.map_cons]
    exact ReadsAll.cons (as := []) (bs := []) (.int n t) (readsAll_ints h r)
def rMaxD (K : PySem.W.Frag) : List V → List V → Hp → VK → Prop := fun vs zs H Q => ∃ (a : Addr) (ns : List Int) (d : Int), vs = [V.ref a] ∧ zs = [.int d] ∧ SqL K H a (ns.map V.int) ∧
  (ns = [] → Q (.int d) H) ∧ ∀ m, m ∈ ns → (∀ y, y ∈ ns → y ≤ m) → Q (.int m) H
theorem cr_maxD {X : Cx} (hc : X.calm = true) (hu : X.A.units + 2 < cLine) : CallRK X (.builtin "max") [Str.ofString "default"] (rMaxD X.K) := by
  intro pins s σ H vs zs us ws Q I r rz h
  obtain ⟨a, ns, d, rfl, rfl, hs, q0, q⟩ := h
  obtain ⟨its, rv, hl, _⟩ := I.list hs
  rw [Vals.ref1 r]
  obtain ⟨w1, rfl, t1, rfl⟩ := vals1 rz
  refine PySem.W.max_list_datum_default (α := Int) (I.ok.hd hc) hl.isList ⟨[], readsAll_ints _ rv.ints⟩ (by show X.A.units + 1 + 0 < cLine; omega) (fun e h' tk hk => ⟨.int d, H, I.kept hk, ⟨_, rfl⟩, q0 e⟩) fun y ys i v h' tk e hi hd hk => ?_
  obtain ⟨as, hr⟩ := hd
  obtain ⟨g1, g2⟩ := fold_max y ys
  have hr' : Reads h' v (.int (ys.foldl (fun a y => if decide (a < y) = true then y else a) y)) as := hr
  cases hr' with
  | int _ t => exact ⟨.int _, H, I.kept hk, ⟨_, rfl⟩, q _ (by rw [e]; exact g1) (by rw [e]; exact g2)⟩
end XP
/-! ## Short words over the hand layer: what evaluates to what -/
open PySem in
theorem L2.Room.two {k : Nat} {A : PySem.Around} (r : L2.Room k A) : A.units + 2 < cLine := by
  have := r.un
  omega
namespace XP
open PySem PySem.Spec PyProof.Rows L2
/-! ### the rules that name the written part K, by a K of one's own (within comprehensions) -/
section
variable {X : Cx} {K : PySem.W.Frag}
theorem isiK (h : X.K = K) : CallR X (.builtin "isinstance") (rIsi K) := h ▸ call_isi
def rLenK (K : PySem.W.Frag) : List V → Hp → VK → Prop := fun xs H Q => ∃ p ys, xs = [.ref p] ∧ (SqL K H p ys ∨ SqT K H p ys) ∧ Q (.int ys.length) H
theorem lenK (h : X.K = K) : CallR X (.builtin "len") (rLenK K) := h ▸ call_len_seq
theorem sumK (h : X.K = K) (hc : X.calm = true) : CallR X (.builtin "sum") (rSum K) := h ▸ cr_sum hc
theorem maxK (h : X.K = K) (hc : X.calm = true) : CallR X (.builtin "max") (rMax K) := h ▸ cr_max hc
theorem minK (h : X.K = K) (hc : X.calm = true) : CallR X (.builtin "min") (rMin K) := h ▸ cr_min hc
theorem allK (h : X.K = K) (hc : X.calm = true) : CallR X (.builtin "all") (rAll K) := h ▸ cr_all hc
theorem anyK (h : X.K = K) (hc : X.calm = true) : CallR X (.builtin "any") (rAny K) := h ▸ cr_any hc
theorem sortedK (h : X.K = K) : CallR X (.builtin "sorted") (rSortedI K) := h ▸ cr_sortedI
def rListK (K : PySem.W.Frag) : List V → Hp → VK → Prop := fun xs H Q => ∃ p ys, xs = [.ref p] ∧ (SqL K H p ys ∨ SqT K H p ys) ∧ ∀ l, H l = none → Q (.ref l) (upd H l (.lst ys))
theorem listK (h : X.K = K) : CallR X (.type "list") (rListK K) := h ▸ call_list_of
theorem ixlK (h : X.K = K) : IxR X (rIxL K) := h ▸ ix_list
theorem ixtK (h : X.K = K) : IxR X (rIxT K) := h ▸ ix_tup
theorem eqK (h : X.K = K) (hu : X.A.units + 64 < cLine) : OpR X (compareOp .Eq) (rEqD K) := h ▸ op_eqD hu
theorem neK (h : X.K = K) (hu : X.A.units + 64 < cLine) : OpR X (compareOp .NotEq) (rNeD K) := h ▸ op_neD hu
theorem inK (h : X.K = K) : OpR X (compareOp .In) (rIn K false) := h ▸ op_in_seq
theorem notInK (h : X.K = K) : OpR X (compareOp .NotIn) (rIn K true) := h ▸ op_notIn_seq
theorem sllK (h : X.K = K) : SlR X (rSlL K) := h ▸ sl_list
theorem maxDK (h : X.K = K) (hc : X.calm = true) (hu : X.A.units + 2 < cLine) : CallRK X (.builtin "max") [Str.ofString "default"] (rMaxD K) := h ▸ cr_maxD hc hu
end
end XP
namespace XP
open PySem PySem.Spec PyProof.Rows L2 Evl
/-- a list of whole numbers stands at a -/
abbrev Ll (H : Hp) (a : Addr) (ns : List Int) : Prop := H a = some (.lst (ns.map V.int))
theorem Ll.sq {K : PySem.W.Frag} {H : Hp} {a : Addr} {ns : List Int} (h : Ll H a ns) : SqL K H a (ns.map V.int) := .inl (.inl h)
theorem map_int_inj : ∀ {xs ys : List Int}, xs.map V.int = ys.map V.int → xs = ys
  | [], [], _ => rfl
  | [], _ :: _, h => by simp at h
  | _ :: _, [], h => by simp at h
  | x :: xs, y :: ys, h => by
    rw [List.map_cons, List.map_cons] at h
    injection h with h1 h2
    injection h1 with h1
    rw [h1, map_int_inj h2]
theorem get_int {ns : List Int} {i : Nat} {v : V} (h : (ns.map V.int)[i]? = some v) : ∃ z, ns[i]? = some z ∧ v = .int z := by
  rw [List.getElem?_map] at h
  cases e : ns[i]? with
  | none => rw [e] at h; cases h
  | some z => rw [e] at h; cases h; exact ⟨z, rfl, rfl⟩
theorem take_one {α : Type} {l : List α} {i : Nat} {x : α} (h : l[i]? = some x) : l.take (i + 1) = l.take i ++ [x] := by
  rw [List.take_add_one, h]
  rfl
theorem drop_one {α : Type} {l : List α} {i : Nat} {x : α} (h : l[i]? = some x) : l.drop i = x :: l.drop (i + 1) := by
  obtain ⟨hi, e⟩ := List.getElem?_eq_some_iff.mp h
  rw [List.drop_eq_getElem_cons hi, e]
theorem lt_of_get {α : Type} {l : List α} {i : Nat} {x : α} (h : l[i]? = some x) : i < l.length := (List.getElem?_eq_some_iff.mp h).1
/-! data -/
theorem dpall_ints {K : PySem.W.Frag} {H : Hp} : ∀ ns : List Int, DpAll K H (ns.map V.int) (ns.map PyData.int)
  | [] => .nil
  | n :: r => .cons (.int n) (dpall_ints r)
theorem dp_ints {K : PySem.W.Frag} {H : Hp} {a : Addr} {ns : List Int} (h : SqL K H a (ns.map V.int)) : Dp K H (.ref a) (.list (ns.map PyData.int)) := .lst h (dpall_ints ns)
theorem eqvAll_ints : ∀ xs ys : List Int, PyData.eqvAll (xs.map PyData.int) (ys.map PyData.int) = decide (xs = ys)
  | [], [] => by simp [PyData.eqvAll]
  | [], _ :: _ => by simp [PyData.eqvAll]
  | _ :: _, [] => by simp [PyData.eqvAll]
  | x :: xs, y :: ys => by
    show (PyData.eqv (.int x) (.int y) && PyData.eqvAll (xs.map PyData.int) (ys.map PyData.int)) = _
    rw [eqvAll_ints xs ys]
    rw [Bool.eq_iff_iff]
    simp [PyData.eqv]
theorem eqv_ints (xs ys : List Int) : PyData.eqv (.list (xs.map PyData.int)) (.list (ys.map PyData.int)) = decide (xs = ys) := by
  simp only [PyData.eqv]
  exact eqvAll_ints xs ys
theorem shaped_ints (ns : List Int) : SeqAt.shaped (.list (ns.map PyData.int)) = true := PySem.W.ke_shaped_ints ns
section
variable {K : PySem.W.Frag} {σ : L2.St} {H H' : Hp} {ta tb te tx : TE} {t u : TT} {x y z v : V} {r : R2} {a b p : Addr} {xs ys : List Int} {i j : Int}
/-! operators -/
theorem ev_rI0 {g : Int → Int → V} (ha : Ev ta σ H (.int i)) (hb : Ev tb σ H (.int j)) : Ev (tOp (rI0 g) ta tb) σ H (g i j) := ev_op ha hb rv_I0
theorem ev_rI {C : Int → Int → Prop} {g : Int → Int → V} (ha : Ev ta σ H (.int i)) (hb : Ev tb σ H (.int j)) (hc : C i j) : Ev (tOp (rI C g) ta tb) σ H (g i j) := ev_op ha hb (rv_I hc)
theorem ev_eq (ha : Ev ta σ H x) (hb : Ev tb σ H y) (h : scal x y = true) : Ev (tOp rEq ta tb) σ H (.bl (decide (x = y))) := ev_op ha hb (rv_eq h)
theorem ev_ne (ha : Ev ta σ H x) (hb : Ev tb σ H y) (h : scal x y = true) : Ev (tOp rNe ta tb) σ H (.bl (!decide (x = y))) := ev_op ha hb (rv_ne h)
theorem rv_eqL (h1 : SqL K H a (xs.map V.int)) (h2 : SqL K H b (ys.map V.int)) : RV (rEqD K) (.ref a) (.ref b) H (.bl (decide (xs = ys))) := fun H1 e Q q =>
  ⟨_, _, dp_ints (ex_l e h1), dp_ints (ex_l e h2), shaped_ints xs, shaped_ints ys, by rw [eqv_ints]; exact q H1 (Ex.refl H1)⟩
theorem rv_neL (h1 : SqL K H a (xs.map V.int)) (h2 : SqL K H b (ys.map V.int)) : RV (rNeD K) (.ref a) (.ref b) H (.bl (!decide (xs = ys))) := fun H1 e Q q =>
  ⟨_, _, dp_ints (ex_l e h1), dp_ints (ex_l e h2), shaped_ints xs, shaped_ints ys, by rw [eqv_ints]; exact q H1 (Ex.refl H1)⟩
/-- is None, is True -/
theorem ev_isN (ha : Ev ta σ H x) : Ev (tOp (fun x y H Q => y = .non ∧ Q (.bl (decide (x = .non))) H) ta (tC .non)) σ H (.bl (decide (x = .non))) := ev_op ha ev_c fun H1 _ _ q => ⟨rfl, q H1 (Ex.refl H1)⟩
theorem ev_notN (ha : Ev ta σ H x) : Ev (tOp (fun x y H Q => y = .non ∧ Q (.bl (!decide (x = .non))) H) ta (tC .non)) σ H (.bl (!decide (x = .non))) := ev_op ha ev_c fun H1 _ _ q => ⟨rfl, q H1 (Ex.refl H1)⟩
theorem ev_isB {c d : Bool} (ha : Ev ta σ H (.bl c)) (hb : Ev tb σ H (.bl d)) : Ev (tOp rIsB ta tb) σ H (.bl (decide (c = d))) := ev_op ha hb fun H1 _ _ q => ⟨c, d, rfl, rfl, q H1 (Ex.refl H1)⟩
theorem ev_notB {c d : Bool} (ha : Ev ta σ H (.bl c)) (hb : Ev tb σ H (.bl d)) : Ev (tOp rNotB ta tb) σ H (.bl (!decide (c = d))) := ev_op ha hb fun H1 _ _ q => ⟨c, d, rfl, rfl, q H1 (Ex.refl H1)⟩
/-! calls of built-ins, by values -/
theorem rc_isi {c : V} {t u : Value} {k : Bool} (hc : ClsV c u) (ht : ∀ H1, Ex H H1 → TyX K H1 x t) (hk : PySem.W.kitOne K t u = some k) : RC (rIsi K) [x, c] H (.bl k) := fun H1 e _ q =>
  ⟨x, c, t, u, k, rfl, hc, ht H1 e, hk, q H1 (Ex.refl H1)⟩
theorem rc_isiL {zs : List V} (h : H a = some (.lst zs)) : RC (rIsi K) [.ref a, .ty "list"] H (.bl true) := rc_isi (.ty _) (fun H1 e => .base (.lst (e a _ h))) (kit_ty (by decide +kernel))
theorem rc_isiInt : RC (rIsi K) [.int i, .ty "int"] H (.bl true) := rc_isi (.ty _) (fun _ _ => .base (.int _)) (kit_ty (by decide +kernel))
theorem rc_isiBool : RC (rIsi K) [.int i, .ty "bool"] H (.bl false) := rc_isi (.ty _) (fun _ _ => .base (.int _)) (kit_ty (by decide +kernel))
theorem rc_len {zs : List V} (h : SqL K H a zs) : RC (rLenK K) [.ref a] H (.int (zs.length : Int)) := fun H1 e _ q =>
  ⟨a, zs, rfl, .inl (ex_l e h), q H1 (Ex.refl H1)⟩
theorem rc_sum (h : SqL K H a (xs.map V.int)) : RC (rSum K) [.ref a] H (.int xs.sum) := fun H1 e _ q => ⟨a, xs, rfl, ex_l e h, q H1 (Ex.refl H1)⟩
theorem rc_all {bs : List Bool} (h : SqL K H a (bs.map V.bl)) : RC (rAll K) [.ref a] H (.bl (bs.all id)) := fun H1 e _ q => ⟨a, bs, rfl, ex_l e h, q H1 (Ex.refl H1)⟩
theorem rc_any {bs : List Bool} (h : SqL K H a (bs.map V.bl)) : RC (rAny K) [.ref a] H (.bl (bs.any id)) := fun H1 e _ q => ⟨a, bs, rfl, ex_l e h, q H1 (Ex.refl H1)⟩
theorem rc_min2 : RC (fun xs H Q => ∃ i j, xs = [.int i, .int j] ∧ Q (.int (if j < i then j else i)) H) [.int i, .int j] H (.int (if j < i then j else i)) := fun H1 _ _ q => ⟨i, j, rfl, q H1 (Ex.refl H1)⟩
theorem rc_max2 : RC (fun xs H Q => ∃ i j, xs = [.int i, .int j] ∧ Q (.int (if j > i then j else i)) H) [.int i, .int j] H (.int (if j > i then j else i)) := fun H1 _ _ q => ⟨i, j, rfl, q H1 (Ex.refl H1)⟩
/-- a call whose only argument is a new list -/
theorem ev_cbL {r : List V → Hp → VK → Prop} {zs : List V} (h : EvL ta σ H zs) (hr : ∀ p H1, Ex H H1 → H1 p = some (.lst zs) → RC r [.ref p] H1 z) : Ev (tCB r (tCons ta tNil)) σ H z := fun H1 e Q q =>
  h H1 e _ fun p H2 _ e2 hp => hr p H2 (e.trans e2) hp H2 (Ex.refl H2) Q fun H3 e3 => q H3 (e2.trans e3)
/-- list(xs): a new list -/
theorem rcl_list {zs : List V} (h : SqL K H a zs) : RCL (rListK K) [.ref a] H zs := fun H1 e _ q =>
  ⟨a, zs, rfl, .inl (ex_l e h), fun l hl => q l _ hl (Ex.new hl) upd_same⟩
/-- a value of which P is known: what a call may hand back -/
def EvP (te : TE) (σ : L2.St) (H : Hp) (P : V → Hp → Prop) : Prop := ∀ H1, Ex H H1 → ∀ Q : VK, (∀ v H2, Ex H1 H2 → P v H2 → Q v H2) → te σ H1 Q
theorem q_asgP {i : Nat} {D : Ends} {tz : TS} {P : V → Hp → Prop} (h : EvP te σ H P) (k : ∀ v H1, Ex H H1 → P v H1 → tz D (σ.set i (some v)) H1) : tSeq (tAsg te (gName i)) tz D σ H := h H (Ex.refl H) _ fun v H1 e p => k v H1 e p
theorem EvP.of (h : Ev te σ H v) : EvP te σ H (fun w _ => w = v) := fun H1 e Q q => h H1 e Q fun H2 e2 => q v H2 e2 rfl
theorem evP_call {sp : Sp} {dvs vs : List V} {E : XK} {ta : TA} {P : V → Hp → Prop} (h : EvA ta σ H vs) (hs : ∀ H1, Ex H H1 → ∀ Q : VK, (∀ v H2, Ex H1 H2 → P v H2 → Q v H2) → ∀ E : XK, sp (vs ++ dvs) H1 Q E) : EvP (tCall sp dvs E ta) σ H P := fun H1 e Q q =>
  h H1 e _ fun H2 e2 => hs H2 (e.trans e2) Q (fun v H3 e3 p => q v H3 (e2.trans e3) p) E
/-- xs + ys of lists that stand in H -/
theorem el_cat {l m : Addr} {zs ws : List V} (ha : Ev ta σ H (.ref l)) (hb : Ev tb σ H (.ref m)) (h1 : H l = some (.lst zs)) (h2 : H m = some (.lst ws)) (hz : zs.length + ws.length ≤ 100000) : EvL (tOp rCat ta tb) σ H (zs ++ ws) := fun H1 e Q q =>
  ha H1 e _ fun H2 e2 => hb H2 (e.trans e2) _ fun H3 e3 => ⟨l, m, zs, ws, rfl, rfl, (((e.trans e2).trans e3) l _ h1), (((e.trans e2).trans e3) m _ h2), sz_of hz, fun p hp => q p _ (fresh_back (e2.trans e3) hp) ((e2.trans e3).trans (Ex.new hp)) upd_same⟩
/-- [..] + ys -/
theorem el_catN {m : Addr} {zs ws : List V} (ha : EvL ta σ H zs) (hb : Ev tb σ H (.ref m)) (h2 : H m = some (.lst ws)) (hz : zs.length + ws.length ≤ 100000) : EvL (tOp rCat ta tb) σ H (zs ++ ws) := fun H1 e Q q =>
  ha H1 e _ fun l H2 hl e2 h1 => hb H2 (e.trans e2) _ fun H3 e3 => ⟨l, m, zs, ws, rfl, rfl, e3 l _ h1, (((e.trans e2).trans e3) m _ h2), sz_of hz, fun p hp => q p _ (fresh_back (e2.trans e3) hp) ((e2.trans e3).trans (Ex.new hp)) upd_same⟩
/-- xs + [..] -/
theorem el_catR {l : Addr} {zs ws : List V} (ha : Ev ta σ H (.ref l)) (hb : EvL tb σ H ws) (h1 : H l = some (.lst zs)) (hz : zs.length + ws.length ≤ 100000) : EvL (tOp rCat ta tb) σ H (zs ++ ws) := fun H1 e Q q =>
  ha H1 e _ fun H2 e2 => hb H2 (e.trans e2) _ fun m H3 hm e3 h2 => ⟨l, m, zs, ws, rfl, rfl, (((e.trans e2).trans e3) l _ h1), h2, sz_of hz, fun p hp => q p _ (fresh_back (e2.trans e3) hp) ((e2.trans e3).trans (Ex.new hp)) upd_same⟩
/-- [..] + [..], slices and the like -/
theorem el_catNN {zs ws : List V} (ha : EvL ta σ H zs) (hb : EvL tb σ H ws) (hz : zs.length + ws.length ≤ 100000) : EvL (tOp rCat ta tb) σ H (zs ++ ws) := fun H1 e Q q =>
  ha H1 e _ fun l H2 hl e2 h1 => hb H2 (e.trans e2) _ fun m H3 hm e3 h2 => ⟨l, m, zs, ws, rfl, rfl, e3 l _ h1, h2, sz_of hz, fun p hp => q p _ (fresh_back (e2.trans e3) hp) ((e2.trans e3).trans (Ex.new hp)) upd_same⟩
/-- [..] * k -/
theorem el_rep {zs : List V} {k : Int} (ha : EvL ta σ H zs) (hb : Ev tb σ H (.int k)) (h0 : 0 ≤ k ∧ k ≤ 100000) (hz : zs.length * k.toNat ≤ 100000) : EvL (tOp rRep ta tb) σ H (List.replicate k.toNat zs).flatten := fun H1 e Q q =>
  ha H1 e _ fun l H2 hl e2 h1 => hb H2 (e.trans e2) _ fun H3 e3 => ⟨l, k, zs, rfl, rfl, e3 l _ h1, by omega, by omega, sz_of hz, fun p hp => q p _ (fresh_back (e2.trans e3) hp) ((e2.trans e3).trans (Ex.new hp)) upd_same⟩
theorem EvP.mono {P : V → Hp → Prop} (e : Ex H H') (h : EvP te σ H P) : EvP te σ H' P := fun H1 a Q q => h H1 (e.trans a) Q q
end
end XP
namespace XP
open PySem PySem.Spec PyProof.Rows L2 Evl
/-! ### comprehensions -/
theorem given_getD {ns : List Int} (p : Int → Bool) (g : Int → V) : given ns.length (fun i => p (ns.getD i 0)) (fun i => g (ns.getD i 0)) = (ns.filter p).map g := by
  unfold given
  have key : ∀ (ns : List Int), (List.range ns.length).map (fun i => ns.getD i 0) = ns := by
    intro ns
    refine List.ext_getElem (by simp) fun i h1 h2 => ?_
    rw [List.getElem_map, List.getElem_range]
    simp [List.getD, h2]
  have e2 : ((List.range ns.length).filter fun i => p (ns.getD i 0)).map (fun i => ns.getD i 0) = ns.filter p := by
    have := List.filter_map (f := fun i => ns.getD i 0) (p := p) (l := List.range ns.length)
    rw [key ns] at this
    exact this.symm
  rw [← e2, List.map_map]
  rfl
theorem given_all (n : Nat) (v : Nat → V) : given n (fun _ => true) v = (List.range n).map v := by
  unfold given
  rw [List.filter_eq_self.mpr fun _ _ => rfl]
section
variable {K : PySem.W.Frag} {σ : L2.St} {H H' : Hp} {ta tb te tx : TE} {t u : TT} {x y z v : V} {r : R2} {a b p : Addr} {xs ys : List Int} {i j : Int} {D : Ends} {tz : TS}
theorem et_yes : EvT tYes σ H true := fun H1 _ _ q => q H1 (Ex.refl H1)
theorem el_is {zs ws : List V} (h : EvL te σ H zs) (e : zs = ws) : EvL te σ H ws := by
  rw [← e]
  exact h
theorem el_lcI {tl : TE} {k : Nat} {vs : List Nat} {ns : List Int} (p : Int → Bool) (g : Int → V) (h : Ev tl σ H (.ref a)) (hx : SqL K H a (ns.map V.int)) (hz : ns.length ≤ 40000) (hw : ∀ x, wipe ((wipe σ vs).set k (some x)) vs = wipe σ vs)
    (ht : ∀ (z : Int) H1, Ex H H1 → z ∈ ns → EvT t ((wipe σ vs).set k (some (.int z))) H1 (p z)) (he : ∀ (z : Int) H1, Ex H H1 → z ∈ ns → p z = true → Ev te ((wipe σ vs).set k (some (.int z))) H1 (g z)) :
    EvL (tLc (iList K tl) (gName k) t te vs) σ H ((ns.filter p).map g) := by
  refine el_is (el_lcL (fun i => p (ns.getD i 0)) (fun i => g (ns.getD i 0)) h hx (by rw [List.length_map]; exact hz) hw (fun i x H1 e1 hi => ?_) (fun i x H1 e1 hi hp => ?_)) (by rw [List.length_map]; exact given_getD p g)
  · obtain ⟨z, e, rfl⟩ := get_int hi
    have ez : ns.getD i 0 = z := by simp [List.getD, e]
    rw [ez]
    exact ht z H1 e1 (List.mem_of_getElem? e)
  · obtain ⟨z, e, rfl⟩ := get_int hi
    have ez : ns.getD i 0 = z := by simp [List.getD, e]
    rw [ez] at hp ⊢
    exact he z H1 e1 (List.mem_of_getElem? e) hp
theorem el_lcIA {tl : TE} {k : Nat} {vs : List Nat} {ns : List Int} (g : Int → V) (h : Ev tl σ H (.ref a)) (hx : SqL K H a (ns.map V.int)) (hz : ns.length ≤ 40000) (hw : ∀ x, wipe ((wipe σ vs).set k (some x)) vs = wipe σ vs)
    (he : ∀ (z : Int) H1, Ex H H1 → z ∈ ns → Ev te ((wipe σ vs).set k (some (.int z))) H1 (g z)) :
    EvL (tLc (iList K tl) (gName k) tYes te vs) σ H (ns.map g) := by
  refine el_is (el_lcI (fun _ => true) g h hx hz hw (fun _ _ _ _ => et_yes) fun z H1 e1 hm _ => he z H1 e1 hm) ?_
  rw [List.filter_eq_self.mpr fun _ _ => rfl]
theorem el_lcRA {tr : TA} {k : Nat} {vs : List Nat} {n : Int} (g : Nat → V) (h : EvA tr σ H [.int n]) (hn : 0 ≤ n ∧ n ≤ 40000) (hw : ∀ x, wipe ((wipe σ vs).set k (some x)) vs = wipe σ vs)
    (he : ∀ (i : Nat) H1, Ex H H1 → (i : Int) < n → Ev te ((wipe σ vs).set k (some (.int (i : Int)))) H1 (g i)) :
    EvL (tLc (iRng1 tr) (gName k) tYes te vs) σ H ((List.range n.toNat).map g) :=
  el_is (el_lcR1 (fun _ => true) g h hn hw (fun _ _ _ _ => et_yes) fun i H1 e1 hi _ => he i H1 e1 hi) (given_all _ _)
/-! ### calls of built-ins, further -/
theorem rc_maxOf {m : Int} (h : SqL K H a (xs.map V.int)) (h0 : 0 < xs.length) (hm : ∀ k, k ∈ xs → (∀ y, y ∈ xs → y ≤ k) → k = m) : RC (rMax K) [.ref a] H (.int m) := fun H1 e _ q =>
  ⟨a, xs, rfl, ex_l e h, h0, fun k h1 h2 => by rw [hm k h1 h2]; exact q H1 (Ex.refl H1)⟩
theorem rc_minOf {m : Int} (h : SqL K H a (xs.map V.int)) (h0 : 0 < xs.length) (hm : ∀ k, k ∈ xs → (∀ y, y ∈ xs → k ≤ y) → k = m) : RC (rMin K) [.ref a] H (.int m) := fun H1 e _ q =>
  ⟨a, xs, rfl, ex_l e h, h0, fun k h1 h2 => by rw [hm k h1 h2]; exact q H1 (Ex.refl H1)⟩
theorem ev_maxD {m d : Int} {t1 t2 : TA} (h1 : EvA t1 σ H [.ref a]) (h2 : EvA t2 σ H [.int d]) (h : SqL K H a (xs.map V.int)) (h0 : xs = [] → d = m) (hm : ∀ k, k ∈ xs → (∀ y, y ∈ xs → y ≤ k) → k = m) :
    Ev (tCKw (rMaxD K) t1 t2) σ H (.int m) := fun H1 e Q q => h1 H1 e _ fun H2 e2 => h2 H2 (e.trans e2) _ fun H3 e3 =>
  ⟨a, xs, d, rfl, rfl, ex_l ((e.trans e2).trans e3) h, fun z => by rw [h0 z]; exact q H3 (e2.trans e3), fun k k1 k2 => by rw [hm k k1 k2]; exact q H3 (e2.trans e3)⟩
/-! ### xs[i] of a written list -/
theorem ev_ixN {zs : List V} (ha : EvL ta σ H zs) (hb : ∀ H1, Ex H H1 → Ev tb σ H1 (.int i)) (hv : atI zs i = some v) : Ev (tOp (rIxL K) ta tb) σ H v := ev_opL1 ha hb fun p H1 hp _ => rv_ixL (sq_of hp) hv
theorem ev_ixI (ha : Ev ta σ H (.ref a)) (hb : Ev tb σ H (.int i)) (h : SqL K H a (xs.map V.int)) (h0 : 0 ≤ i) (h1 : i < xs.length) : Ev (tOp (rIxL K) ta tb) σ H (.int (xs.getD i.toNat 0)) := by
  refine ev_op ha hb (rv_ixL h ?_)
  have hi : i.toNat < xs.length := by omega
  obtain ⟨j, rfl⟩ := Int.eq_ofNat_of_zero_le h0
  have hj : j < xs.length := by omega
  refine atI_nat ?_
  rw [List.getElem?_map, List.getElem?_eq_getElem hj]
  simp [List.getD, hj]
theorem ev_ixJ {j : Nat} (ha : Ev ta σ H (.ref a)) (hb : Ev tb σ H (.int (j : Int))) (h : SqL K H a (xs.map V.int)) (hj : j < xs.length) : Ev (tOp (rIxL K) ta tb) σ H (.int (xs.getD j 0)) := ev_ixI (i := (j : Int)) ha hb h (by omega) (by omega)
/-! ### statements that change a list -/
theorem q_rev {l : Addr} {zs : List V} (ha : Ev ta σ H (.ref l)) (hl : H l = some (.lst zs)) (k : ∀ H1, Ex H H1 → tz D σ (upd H1 l (.lst zs.reverse))) : tSeq (tDrop (tBM0 K "list" rReverse ta)) tz D σ H :=
  ha H (Ex.refl H) _ fun H1 e1 => ⟨.inl ⟨rfl, zs, sq_of (e1 l _ hl)⟩, l, zs, rfl, rfl, e1 l _ hl, k H1 e1⟩
theorem q_clear {l : Addr} {zs : List V} (ha : Ev ta σ H (.ref l)) (hl : H l = some (.lst zs)) (k : ∀ H1, Ex H H1 → tz D σ (upd H1 l (.lst []))) : tSeq (tDrop (tBM0 K "list" rClear ta)) tz D σ H :=
  ha H (Ex.refl H) _ fun H1 e1 => ⟨.inl ⟨rfl, zs, sq_of (e1 l _ hl)⟩, l, zs, rfl, rfl, e1 l _ hl, k H1 e1⟩
/-- sorted(xs) as a value: some rising arrangement, new -/
theorem evP_sorted {tr : TA} (h : EvA tr σ H [.ref a]) (hx : SqL K H a (xs.map V.int)) : EvP (tCB (rSortedI K) tr) σ H (fun v H1 => ∃ (p : Addr) (ys : List Int), v = .ref p ∧ H p = none ∧ ys.Perm xs ∧ ys.Pairwise (· ≤ ·) ∧ Ll H1 p ys) := fun H1 e Q q =>
  h H1 e _ fun H2 e2 => ⟨a, xs, rfl, ex_l (e.trans e2) hx, fun ys p hp ho hn => q _ _ (e2.trans (Ex.new hn)) ⟨p, ys, rfl, fresh_back (e.trans e2) hn, hp, ho, upd_same⟩⟩
/-! ### displays of new lists; calls of new lists; a choice as a statement -/
theorem ep_lst3 {t1 t2 t3 : TE} {z1 z2 z3 : List V} (h1 : EvL t1 σ H z1) (h2 : EvL t2 σ H z2) (h3 : EvL t3 σ H z3) : EvP (tLst (tCons t1 (tCons t2 (tCons t3 tNil)))) σ H (fun v H' => ∃ p p1 p2 p3 : Addr, v = .ref p ∧ H' p = some (.lst [.ref p1, .ref p2, .ref p3]) ∧
    (H p1 = none ∧ H' p1 = some (.lst z1)) ∧ (H p2 = none ∧ H' p2 = some (.lst z2)) ∧ (H p3 = none ∧ H' p3 = some (.lst z3))) := fun H1 e Q q =>
  h1 H1 e _ fun p1 H2 n1 e2 k1 => h2 H2 (e.trans e2) _ fun p2 H3 n2 e3 k2 => h3 H3 ((e.trans e2).trans e3) _ fun p3 H4 n3 e4 k3 => ⟨sz_of (by show 3 ≤ 100000; decide), fun p hp => q _ _ (((e2.trans e3).trans e4).trans (Ex.new hp))
    ⟨p, p1, p2, p3, rfl, upd_same, ⟨fresh_back e n1, Ex.new hp _ _ (e4 _ _ (e3 _ _ k1))⟩, ⟨fresh_back (e.trans e2) n2, Ex.new hp _ _ (e4 _ _ k2)⟩, ⟨fresh_back ((e.trans e2).trans e3) n3, Ex.new hp _ _ k3⟩⟩⟩
theorem evP_ixP {P R : V → Hp → Prop} (h : EvP ta σ H P) (hb : ∀ v H1, Ex H H1 → P v H1 → Ev tb σ H1 (.int i)) (hR : ∀ v H1 H2, Ex H1 H2 → R v H1 → R v H2)
    (hr : ∀ v H1, Ex H H1 → P v H1 → ∃ p zs w, v = .ref p ∧ H1 p = some (.lst zs) ∧ atI zs i = some w ∧ R w H1) : EvP (tOp (rIxL K) ta tb) σ H R := fun H1 e Q q =>
  h H1 e _ fun v H2 e2 p2 => by
    obtain ⟨p, zs, w, rfl, hz, hw, r1⟩ := hr v H2 (e.trans e2) p2
    exact hb _ H2 (e.trans e2) p2 H2 (Ex.refl H2) _ fun H3 e3 => ⟨p, zs, i, w, rfl, rfl, sq_of (e3 _ _ hz), hw, q w H3 (e2.trans e3) (hR _ _ _ e3 r1)⟩
theorem ev_callL {sp : Sp} {E : XK} {zs : List V} (h : EvL te σ H zs) (hb : ∀ H1, Ex H H1 → Ev tb σ H1 y) (hs : ∀ p H1, Ex H H1 → H1 p = some (.lst zs) → SpV sp [.ref p, y] H1 z) : Ev (tCall sp [] E (tCons te (tCons tb tNil))) σ H z := fun H1 e Q q =>
  h H1 e _ fun p H2 _ e2 hp => hb H2 (e.trans e2) H2 (Ex.refl H2) _ fun H3 e3 => hs p H3 ((e.trans e2).trans e3) (e3 _ _ hp) H3 (Ex.refl H3) Q (fun H4 e4 => q H4 ((e2.trans e3).trans e4)) E
theorem ev_callLL {sp : Sp} {E : XK} {zs ws : List V} (h : EvL te σ H zs) (hb : ∀ H1, Ex H H1 → EvL tb σ H1 ws) (hs : ∀ p q H1, Ex H H1 → H1 p = some (.lst zs) → H1 q = some (.lst ws) → SpV sp [.ref p, .ref q] H1 z) : Ev (tCall sp [] E (tCons te (tCons tb tNil))) σ H z := fun H1 e Q q =>
  h H1 e _ fun p H2 _ e2 hp => hb H2 (e.trans e2) H2 (Ex.refl H2) _ fun p2 H3 _ e3 hp2 => hs p p2 H3 ((e.trans e2).trans e3) (e3 _ _ hp) hp2 H3 (Ex.refl H3) Q (fun H4 e4 => q H4 ((e2.trans e3).trans e4)) E
theorem s_asgP {i : Nat} {P : V → Hp → Prop} (h : EvP te σ H P) (k : ∀ v H1, Ex H H1 → P v H1 → D.nx (σ.set i (some v)) H1) : tAsg te (gName i) D σ H := h H (Ex.refl H) _ fun v H1 e p => k v H1 e p
theorem s_dropIf {c : Bool} (h : EvT t σ H c) (h1 : c = true → ∀ H1, Ex H H1 → tDrop ta D σ H1) (h2 : c = false → ∀ H1, Ex H H1 → tDrop tb D σ H1) : tDrop (tIf t ta tb) D σ H := h H (Ex.refl H) _ fun H1 e => by
  cases c with
  | true => exact h1 rfl H1 e
  | false => exact h2 rfl H1 e
theorem s_pop {l : Addr} {zs : List V} {w : V} (ha : Ev ta σ H (.ref l)) (hl : H l = some (.lst zs)) (hw : zs[zs.length - 1]? = some w) (k : ∀ H1, Ex H H1 → D.nx σ (upd H1 l (.lst zs.dropLast))) : tDrop (tBM0 K "list" rPop ta) D σ H :=
  ha H (Ex.refl H) _ fun H1 e1 => ⟨.inl ⟨rfl, zs, sq_of (e1 l _ hl)⟩, l, zs, w, rfl, rfl, e1 l _ hl, hw, k H1 e1⟩
end
end XP
/-! ## Rules of our own: three comparisons in a row, xs[i] += e, a list's count of True -/
namespace XP
open PySem PySem.Spec PyProof.Rows L2 Evl
/-- a op b op' c op'' d -/
def tChain3 (r1 r2 r3 : R2) (ta tb tc td : TE) : TE := fun σ H Q => ta σ H fun x H1 => tb σ H1 fun y H2 => r1 x y H2 fun z H3 => ∃ k, z = .bl k ∧
  (if k = true then tc σ H3 fun x3 H4 => r2 y x3 H4 fun z2 H5 => ∃ k2, z2 = .bl k2 ∧ (if k2 = true then td σ H5 fun x4 H6 => r3 x3 x4 H6 Q else Q (.bl false) H5) else Q (.bl false) H3)
section
variable {X : Cx} {a b c d : Expr} {ta tb tc td : TE} {pos : Pos}
theorem pe_chain3 {o1 o2 o3 : CmpOp} {r1 r2 r3 : R2} (h1 : OpR X (compareOp o1) r1) (h2 : OpR X (compareOp o2) r2) (h3 : OpR X (compareOp o3) r3) (ha : PE X a ta) (hb : PE X b tb) (hc : PE X c tc) (hd : PE X d td)
    (hm : lastMarks [o1, o2, o3] [b, c, d] = false := by with_unfolding_all rfl) : PE X (.Compare a [o1, o2, o3] [b, c, d] pos) (tChain3 r1 r2 r3 ta tb tc td) := by
  refine ⟨fun pins s σ H Q I h => Compare_chain (thn (ha.run pins s σ H _ I h) fun va sa ⟨x, Ha, Ia, ra, qa⟩ => chain_link (thn (hb.run pins sa σ Ha _ Ia qa) fun vb sb ⟨y, Hb, Ib, rb, qb⟩ => thn (h1 pins sb σ Hb x y va vb _ Ib ra rb qb) fun w1 s1 hw1 => ?_)) hm⟩
  obtain ⟨z1, H1, I1, rz1, k1, rfl, q1⟩ := hw1
  obtain rfl : w1 = Value.bool k1 := rz1
  refine wpAny_truthy_bool ?_
  cases k1
  · exact ite_ff ⟨V.bl false, H1, I1, rfl, q1⟩
  · refine ite_tt (chain_link (thn (hc.run pins s1 σ H1 _ I1 q1) fun vc sc ⟨y3, Hc, Ic, rc, qc⟩ => thn (h2 pins sc σ Hc y y3 vb vc _ Ic rb rc qc) fun w2 s2 hw2 => ?_))
    obtain ⟨z2, H2, I2, rz2, k2, rfl, q2⟩ := hw2
    obtain rfl : w2 = Value.bool k2 := rz2
    refine wpAny_truthy_bool ?_
    cases k2
    · exact ite_ff ⟨V.bl false, H2, I2, rfl, q2⟩
    · exact ite_tt (chain_last (thn (hd.run pins s2 σ H2 _ I2 q2) fun vd sd ⟨y4, Hd, Id, rd, qd⟩ => h3 pins sd σ Hd y3 y4 vc vd Q Id rc rd qd))
/-- xs[i] as a value, for xs[i] op= e -/
theorem get_listK {K : PySem.W.Frag} (hK : X.K = K) : PGet X (fun o i H Q => ∃ p zs k v, o = .ref p ∧ i = .int k ∧ SqL K H p zs ∧ 0 ≤ k ∧ zs[k.toNat]? = some v ∧ Q v H) := by
  subst hK
  intro pins s σ H o i ov iv Q I ro ri h
  obtain ⟨p, zs, k, v, rfl, rfl, hq, h0, hv, q⟩ := h
  obtain rfl : ov = Value.ref p := ro
  obtain ⟨t, rfl⟩ := ri
  obtain ⟨its, r, pl, hz⟩ := I.list hq
  obtain ⟨w, ew, rw'⟩ := r.get hv
  have hn := line63
  have hl := r.length
  have hk : k.toNat < zs.length := (List.getElem?_eq_some_iff.mp hv).1
  refine wpAny_getItem_list (x := w) pl.isList h0 (by omega) (by simpa using ew) ?_
  exact ⟨v, H, I, rw', q⟩
def tAugL (K : PySem.W.Frag) (to ti te : TE) (f : Int → Int → Int) : TS :=
  tAugS to ti te (fun o i H Q => ∃ p zs k v, o = .ref p ∧ i = .int k ∧ SqL K H p zs ∧ 0 ≤ k ∧ zs[k.toNat]? = some v ∧ Q v H) (ipI f) rSetL
theorem ps_augL {K : PySem.W.Frag} {o i e : Expr} {to ti te : TE} {f : Int → Int → Int} {op : Operator} {tpos : Pos} (hK : X.K = K) (ho : PE X o to) (hi : PE X i ti) (he : PE X e te) (hp : PIp X op (ipI f))
    (ha : ∀ ov iv new, augStore i ov iv new = (do holding [new, ov, iv] (setItem ov iv new); release [new, ov, iv] []; pure .next) := by intros; rfl) : PS X (.AugAssign (.Subscript o i tpos) op e pos) (tAugL K to ti te f) :=
  ps_augS ho hi (get_listK hK) he hp set_list ha
/-- xs.count(True) of a list of truths -/
def rCountB (K : PySem.W.Frag) : V → List V → Hp → VK → Prop := fun x xs H Q => ∃ (p : Addr) (bs : List Bool) (k : Bool), x = .ref p ∧ xs = [.bl k] ∧ SqL K H p (bs.map V.bl) ∧ Q (.int (bs.count k : Nat)) H
theorem readsAll_bools (h : Heap) : ∀ bs : List Bool, ReadsAll h (bs.map Value.bool) (bs.map PyData.bool) []
  | [] => .nil
  | b :: r => ReadsAll.cons (as := []) (bs := []) (.bool b) (readsAll_bools h r)
theorem countIn_bools (k : Bool) : ∀ bs : List Bool, countIn (.bool k) (bs.map PyData.bool) = ((bs.count k : Nat) : Int)
  | [] => rfl
  | b :: r => by
    rw [List.map_cons, countIn, countIn_bools k r, List.count_cons]
    cases b <;> cases k <;> simp [PySem.Spec.same] <;> omega
theorem mt_countB {K : PySem.W.Frag} (hK : X.K = K) : MtR X "list.count" (rCountB K) := by
  subst hK
  intro pins s σ H x xs v us Q I rx rxs h
  obtain ⟨p, bs, k, rfl, rfl, hs, q⟩ := h
  obtain rfl : v = Value.ref p := rx
  obtain ⟨u, rfl, ru⟩ := rxs.one
  obtain rfl : u = Value.bool k := ru
  obtain ⟨its, rv, pl, hlen⟩ := I.list hs
  have e := rv.bls
  subst e
  refine count_list_bools pl.isList (readsAll_bools s.heap bs) (List.all_eq_true.mpr fun d hd => by obtain ⟨b, _, rfl⟩ := List.mem_map.mp hd; rfl) ?_
  rw [countIn_bools]
  exact ⟨.int ((bs.count k : Nat) : Int), H, I.tok _, ⟨_, rfl⟩, q⟩
end
section
variable {K : PySem.W.Frag} {σ : L2.St} {H H' : Hp} {ta tb tc td te tx : TE} {x y z v : V} {i j : Int} {D : Ends} {tz : TS}
/-- 0 <= i < j <= n and the like -/
theorem ev_chain3 {g1 g2 g3 : Int → Int → Bool} {i1 i2 i3 i4 : Int} (ha : Ev ta σ H (.int i1)) (hb : Ev tb σ H (.int i2)) (hc : Ev tc σ H (.int i3)) (hd : Ev td σ H (.int i4)) :
    Ev (tChain3 (rI0 fun a b => .bl (g1 a b)) (rI0 fun a b => .bl (g2 a b)) (rI0 fun a b => .bl (g3 a b)) ta tb tc td) σ H (.bl (g1 i1 i2 && (g2 i2 i3 && g3 i3 i4))) := fun H1 e Q q =>
  ha H1 e _ fun H2 e2 => hb H2 (e.trans e2) _ fun H3 e3 => ⟨i1, i2, rfl, rfl, _, rfl, by
    cases k1 : g1 i1 i2 with
    | false =>
      refine iteF ?_
      rw [k1] at q
      exact q H3 (e2.trans e3)
    | true =>
      refine iteT (hc H3 ((e.trans e2).trans e3) _ fun H4 e4 => ⟨i2, i3, rfl, rfl, _, rfl, ?_⟩)
      rw [k1] at q
      cases k2 : g2 i2 i3 with
      | false =>
        refine iteF ?_
        rw [k2] at q
        exact q H4 ((e2.trans e3).trans e4)
      | true =>
        refine iteT (hd H4 (((e.trans e2).trans e3).trans e4) _ fun H5 e5 => ⟨i3, i4, rfl, rfl, ?_⟩)
        rw [k2] at q
        exact q H5 (((e2.trans e3).trans e4).trans e5)⟩
/-- a < b <= c -/
theorem ev_chain2 {g1 g2 : Int → Int → Bool} {i1 i2 i3 : Int} (ha : Ev ta σ H (.int i1)) (hb : Ev tb σ H (.int i2)) (hc : Ev tc σ H (.int i3)) :
    Ev (tChain (rI0 fun a b => .bl (g1 a b)) (rI0 fun a b => .bl (g2 a b)) ta tb tc) σ H (.bl (g1 i1 i2 && g2 i2 i3)) := fun H1 e Q q =>
  ha H1 e _ fun H2 e2 => hb H2 (e.trans e2) _ fun H3 e3 => ⟨i1, i2, rfl, rfl, _, rfl, by
    cases k1 : g1 i1 i2 with
    | false =>
      refine iteF ?_
      rw [k1] at q
      exact q H3 (e2.trans e3)
    | true =>
      refine iteT (hc H3 ((e.trans e2).trans e3) _ fun H4 e4 => ⟨i2, i3, rfl, rfl, ?_⟩)
      rw [k1] at q
      exact q H4 ((e2.trans e3).trans e4)⟩
/-- [*xs, e, ..] -/
theorem ea_star {t : TA} {a : Addr} {zs vs : List V} (h : Ev te σ H (.ref a)) (hz : SqL K H a zs) (ht : EvA t σ H vs) : EvA (StX.tStar K te t) σ H (zs ++ vs) := fun H1 e Q q =>
  h H1 e _ fun H2 e2 => ⟨a, zs, rfl, .inr (ex_l (e.trans e2) hz), ht H2 (e.trans e2) _ fun H3 e3 => q H3 (e2.trans e3)⟩
/-- xs[i] += e -/
theorem q_augL {l : Addr} {ns : List Int} {f : Int → Int → Int} {k : Nat} {a b : Int} (ho : Ev ta σ H (.ref l)) (hi : Ev tb σ H (.int (k : Int))) (he : Ev te σ H (.int b)) (hl : Ll H l ns) (hk : ns[k]? = some a)
    (g : ∀ H1, Ex H H1 → tz D σ (upd H1 l (.lst ((ns.set k (f a b)).map V.int)))) : tSeq (tAugL K ta tb te f) tz D σ H :=
  ho H (Ex.refl H) _ fun H1 e1 => hi H1 e1 _ fun H2 e2 => ⟨l, ns.map V.int, k, .int a, rfl, rfl, Ll.sq ((e1.trans e2) _ _ hl), by omega, by rw [Int.toNat_natCast, List.getElem?_map, hk]; rfl,
    he H2 (e1.trans e2) _ fun H3 e3 => ⟨a, b, rfl, rfl, l, ns.map V.int, k, k, rfl, rfl, (((e1.trans e2).trans e3) _ _ hl), Evl.ixN_nat (by rw [List.length_map]; exact (List.getElem?_eq_some_iff.mp hk).1), by
      rw [← List.map_set] at *
      exact g H3 ((e1.trans e2).trans e3)⟩⟩
end
end XP
/-! ## An error that a clause names and a local name keeps: try: .. except C as n: y = n -/
namespace XP
open PySem PySem.Spec PyProof.Rows L2 Evl
/-- an error object of the class cls stands at e -/
def ErrO (cls : Value) (e : Addr) : HO := .ext fun h => ∃ ob : Obj, h.get? e = some ob ∧ Zc cls none ob ∧ ∃ fs, ob.data = .fields fs
section
variable {X : Cx} {pins : List (Addr × Obj)} {σ : L2.St} {H : Hp} {s : Shared}
/-- a pinned error object is tracked from here on -/
theorem tracked_err {e : Addr} {ob : Obj} {cls : Value} (I : Inv X ((e, ob) :: pins) σ H s) (hz : Zc cls none ob) (hd : ∃ fs, ob.data = .fields fs) (hnew : X.s_0.heap.get? e = none) (hcell : ∀ x c, X.env.cells.lookup x = some c → c ≠ e) (hpin : ∀ p ∈ X.pn ++ pins, p.1 ≠ e) :
    Inv X pins σ (upd H e (ErrO cls e)) s := by
  obtain ⟨hg, hn, hL, hF, _⟩ := I.pin (e, ob) (List.mem_append_right _ List.mem_cons_self)
  have away : ∀ b o, X.s_0.heap.get? b = some o → b ≠ e := fun b o h z => by
    subst z
    rw [hnew] at h
    cases h
  have more : ∀ p ∈ X.pn ++ pins, p ∈ X.pn ++ (e, ob) :: pins := fun p hp => (List.mem_append.mp hp).elim (fun q => List.mem_append_left _ q) fun q => List.mem_append_right _ (List.mem_cons_of_mem _ q)
  exact {
    ok := I.ok, os := I.os, bare := I.bare, loc := I.loc, cell := I.cell, len := I.len
    base := {
      keep := I.base.keep, slot := I.base.slot, there := I.base.there
      free := fun b o h n x => (upd_ne (away b o h)).trans (I.base.free b o h n x)
      tups := fun b zs h => (upd_ne (ne_of_none (I.base.tups b zs h) hn)).trans (I.base.tups b zs h)
      frzs := fun b o u h => (upd_ne (ne_of_none (I.base.frzs b o u h) hn)).trans (I.base.frzs b o u h)
      tbls := fun b ps h => by
        obtain ⟨m, k⟩ := I.base.tbls b ps h
        exact ⟨m, (upd_ne (ne_of_none k hn)).trans k⟩ }
    free := (upd_ne (Ne.symm hL)).trans I.free
    freeC := fun x c h => (upd_ne (hcell x c h)).trans (I.freeC x c h)
    pin := fun p hp => by
      obtain ⟨k1, k2, k3⟩ := I.pin p (more p hp)
      exact ⟨k1, (upd_ne (hpin p hp)).trans k2, k3⟩
    hok := I.hok.laidN (fun _ _ q => q) hn ⟨⟨ob, hg, hz, hd⟩, ⟨ob, hg⟩, fun h1 h2 ⟨o, q, r⟩ k => ⟨o, k o q, r⟩⟩ }
/-- what the clause wishes of an error of the body; slot i the clause's name, slot j the name that keeps it -/
def wKeep (K : PySem.W.Frag) (c : Value) (i j : Nat) (Wout : WX) (D : Ends) : WX := fun cls d σ H =>
  ∃ b, PySem.W.exmOne K cls c = some b ∧ (b = true → d = none ∧ ∀ e, H e = none → D.nx (((σ.set i (some (.ref e))).set j (some (.ref e))).set i none) (upd H e (ErrO cls e))) ∧ (b = false → Wout cls d σ H)
theorem ps_try_keep {x n y : Str} {c : Value} {i j : Nat} {body : List Stmt} {np py pn1 pas pos' pos : Pos} {tb : WX → TS} {Wout : WX} (hs : X.stack = X.env :: X.outer) (hf : X.env.frame = some X.env.locals) (hex : X.ex = []) (hN : X.N.Nodup) (hi : X.N[i]? = some n) (hj : X.N[j]? = some y)
    (hln : X.env.kindOf n = some .local) (hly : X.env.kindOf y = some .local) (hc : Names X x c) (tk : Takes X Wout)
    (hb : ∀ (W : WX) (pn : List (Addr × Obj)) (xe : Value → Shared → Prop), Takes (X.tr pn xe) W → PassesOwn (model X.prog X.w) X.A X.env xe → PSs (X.tr pn xe) body (tb W))
    (hd1 : (n == ("__debug__" : Str)) = false := by decide) (hd2 : (n == ("__classdict__" : Str)) = false := by decide) :
    PS X (.Try body [.ExceptHandler (some (.Name x np)) (some n) [.Assign [.Name y py] (.Name n pn1) pas] pos'] [] [] pos) (fun D σ H => tb (wKeep X.K c i j Wout D) D σ H) := by
  refine ⟨fun pins s σ H D I h => wpAny_Try_except ?_⟩
  have ok := I.ok
  have fra : X.A.frames = some (X.env :: X.outer) := ok.frames.trans (by rw [hs])
  refine wpAny_mono ((hb (wKeep X.K c i j Wout D) (X.pn ++ pins) _ ?taken PassesOwn.looking).run [] s σ H D (I.toTry _) h) (fun fl t hfl => ?_) fun e t he => he
  case taken =>
    intro u t xx
    obtain ⟨e, G, s1, pins1, σ1, H1, cls, d, rfl, J0, hG, up, sky, hn, hos, hbare, b, hexm, yes, no⟩ := xx
    have J1 : Inv X pins σ1 H1 s1 := J0.ofTry ok
    refine Sky.land Zc.steady fra hf (by rw [← hs]; exact sky) fun h2 fly2 up2 => ?_
    have J2 : Inv X pins σ1 H1 { t with heap := h2 } := J1.landed hG fly2.1 (up.trans up2) hos hbare
    obtain ⟨ob2, vs2, get2, zc2, dat2⟩ := fly2.there
    have nofrm : e ∉ frs (X.env :: X.outer) := fun hm => by
      obtain ⟨_, o, ho, hno⟩ := fly2.2.2.1.mem hm
      rw [get2] at ho
      cases ho
      exact hno _ dat2
    have nloc : e ≠ X.env.locals := fun z => nofrm (List.mem_filterMap.mpr ⟨X.env, List.mem_cons_self, by rw [hf, z]⟩)
    have nfs : e ∉ X.fs := fun hm => by
      obtain ⟨v, hv, q⟩ := List.mem_filterMap.mp hm
      exact nofrm (List.mem_filterMap.mpr ⟨v, List.mem_cons_of_mem _ hv, q⟩)
    have fresh1 : s1.heap.get? e = none := by
      cases q : s1.heap.get? e with
      | none => rfl
      | some o =>
        have k := hG e o q (by rw [hs]; exact nofrm)
        rw [fly2.2.1] at k
        cases k
    have fresh0 : X.s_0.heap.get? e = none := by
      cases q : X.s_0.heap.get? e with
      | none => rfl
      | some o =>
        obtain ⟨o', k⟩ := J1.base.there e o q (by rw [hex]; exact List.not_mem_nil)
        rw [fresh1] at k
        cases k
    have ncell : ∀ z cc, X.env.cells.lookup z = some cc → cc ≠ e := fun z cc hz w => by
      obtain ⟨v, o, ho, _⟩ := J1.cell z cc hz
      rw [w, fresh1] at ho
      cases ho
    have npin : ∀ p ∈ X.pn ++ pins, p.1 ≠ e := fun p hp w => by
      have k := (J1.pin p hp).1
      rw [w, fresh1] at k
      cases k
    have S2 := J2.suite get2 dat2 hn nloc nfs
    refine wpAny_handleBy_cons (codeAny_handlers_test ?_) fun z => nomatch z
    have looks : PySem.W.Looks (model X.prog X.w) h2 (typeOf (.ref e)) cls := fun A Q E s k q => wpAny_typeOf_ref (k _ _ get2) (by rw [zc2.1]; exact q)
    have isIn := PySem.W.exm_one (M := model X.prog X.w) J2.kIn looks hexm
    have named : ∀ {Q : Value → Shared → Prop} {E : Value → Shared → Prop}, Q c { t with heap := h2 } → wpAny (model X.prog X.w) (X.A.mark (some (.ref e))) (eval (.Name x np) X.env) Q E { t with heap := h2 } := fun q => by
      rcases hc with ⟨g1, g2, g3 | ⟨g3, g4, g5⟩⟩
      · exact ld_glob (X := X.suite e ((e, ob2) :: (X.pn ++ pins))) S2 g1 g3 q g2
      · exact ld_blt (X := X.suite e ((e, ob2) :: (X.pn ++ pins))) S2 g1 g3 g4 q g5 g2
    refine named (isIn.here ?_)
    cases b with
    | false =>
      show wpAny _ X.A (handleBy (.ref e) X.env []) _ _ _
      obtain ⟨_, _, _, ob, fs, T, oT, tf, ge, ze, de, h1, _⟩ := id fly2
      refine wpAny_handleBy_nil ?_
      unfold PySem.passOn
      refine wpAny_bind (wpAny_field ge de h1 ?_)
      rw [if_neg (show ¬ (Value.ref T == Value.none) = true from by simp)]
      have out : wpAny (model X.prog X.w) X.A (setFlight (.ref e) X.env.frame) (fun _ s4 => wpAny (model X.prog X.w) X.A (throw (.ref e) : Sem Flow) (SP X pins D) X.xe s4) X.xe { t with heap := h2 } := by
        rw [hf]
        exact HandSPX.setFlight_upZ fly2 fun h4 held up4 => wpAny_throw (tk _ _ ⟨e, G, s1, pins, σ1, H1, cls, d, rfl, J1, hG, (up.trans up2).trans up4, .inr (.inr (by rw [hs]; exact held)), hn, hos, hbare, no rfl⟩)
      first
        | exact wpAny_bind (wpAny_pure (wpAny_bind out))
        | exact wpAny_bind out
    | true =>
      obtain ⟨rfl, go⟩ := yes rfl
      refine codeAny_handlers_suite_as (HandSPX.lands_againZ fly2 fun h4 fly4 up4 => ?_)
      have J4 : Inv X pins σ1 H1 { t with heap := h4 } := J1.landed hG fly4.1 ((up.trans up2).trans up4) hos hbare
      obtain ⟨ob4, vs4, get4, zc4, dat4⟩ := fly4.there
      have S4 := J4.suite get4 dat4 hn nloc nfs
      refine store_ok (X := X.suite e ((e, ob4) :: (X.pn ++ pins))) (v := .ref e) S4 hN hi (.inl hln) rfl (fun s5 S5 => ?_) (.inr hln)
      have body1 : PSs (X.suite e ((e, ob4) :: (X.pn ++ pins))) [.Assign [.Name y py] (.Name n pn1) pas] (tAsg (tVar i) (gName j)) := pss_one (ps_set hN hj (.inl hly) (pe_var hi (.inl hln) hd1 hd2) (by rfl) (.inr hly))
      have hlenσ : σ1.length = X.N.length := J1.len
      have hil : i < X.N.length := (List.getElem?_eq_some_iff.mp hi).1
      refine wpAny_mono (body1.run [] s5 _ H1 { nx := fun σ6 H6 => σ6 = (σ1.set i (some (.ref e))).set j (some (.ref e)) ∧ H6 = H1, rt := fun _ _ => False } S5 ⟨.ref e, by rw [List.getElem?_set_self (by omega)], rfl, rfl⟩) (fun fl s6 hfl => ?_) fun _ _ z => False.elim z
      cases fl with
      | ret v =>
        obtain ⟨_, _, _, _, _, q⟩ := hfl
        exact False.elim q
      | brk =>
        obtain ⟨_, _, _, q⟩ := hfl
        exact False.elim q
      | cont =>
        obtain ⟨_, _, _, q⟩ := hfl
        exact False.elim q
      | next =>
        obtain ⟨σ6, H6, S6, rfl, rfl⟩ := hfl
        have J6 : Inv X ((e, ob4) :: pins) ((σ1.set i (some (.ref e))).set j (some (.ref e))) H6 s6 :=
          ⟨ok, S6.os, S6.bare, S6.base, S6.loc, S6.cell, S6.free, S6.freeC, fun p hp => S6.pin p (List.mem_append_left _ ((List.mem_append.mp hp).elim (fun q => List.mem_cons_of_mem _ (List.mem_append_left _ q)) fun q => (List.mem_cons.mp q).elim (fun z => by rw [z]; exact List.mem_cons_self) fun z => List.mem_cons_of_mem _ (List.mem_append_right _ z))), S6.hok, S6.len⟩
        exact gone_ok J6 hN hi hln fun s7 J7 => ⟨_, _, tracked_err J7 zc4 ⟨_, dat4⟩ fresh0 ncell npin, go e hn⟩
  case _ =>
    cases fl with
    | next =>
      obtain ⟨σ', H', J', q⟩ := hfl
      exact wpAny_execs_nil ⟨σ', H', J'.ofTry ok, q⟩
    | brk =>
      obtain ⟨σ', H', J', q⟩ := hfl
      exact ⟨σ', H', J'.ofTry ok, q⟩
    | cont =>
      obtain ⟨σ', H', J', q⟩ := hfl
      exact ⟨σ', H', J'.ofTry ok, q⟩
    | ret u =>
      obtain ⟨v, σ', H', J', r, q⟩ := hfl
      exact ⟨v, σ', H', J'.ofTry ok, r, q⟩
/-- isinstance(e, c) of such an error -/
def rIsX (K : PySem.W.Frag) : List V → Hp → VK → Prop := fun vs H Q => ∃ (e D : Addr) (c : V) (u : Value) (b : Bool), vs = [.ref e, c] ∧ H e = some (ErrO (.ref D) e) ∧ ExcC K D ∧ ClsV c u ∧ PySem.W.kitOne K (.ref D) u = some b ∧ Q (.bl b) H
theorem isxK {K : PySem.W.Frag} (hK : X.K = K) : CallR X (.builtin "isinstance") (rIsX K) := by
  subst hK
  intro pins s σ H xs us Q I r h
  obtain ⟨e, D, c, u, b, rfl, he, C, hc, hk, q⟩ := h
  obtain ⟨u1, u2, rfl, r1, r2⟩ := vals2 r
  obtain rfl : u1 = Value.ref e := r1
  obtain rfl := hc.eq r2
  obtain ⟨⟨ob, g, ⟨z1, z2⟩, fs, df⟩, _, _⟩ := I.hok e _ he
  have at1 : PySem.W.InstAt s.heap e ob D none := by
    obtain ⟨k1, k2, k3, k4⟩ := ob
    simp only at z1 z2 df
    subst z1 z2 df
    exact ⟨g, rfl, rfl, trivial⟩
  exact PySem.W.kia_one (PySem.W.handS_kitx_exc C.hg C.hk C.hs C.hd C.ha C.hn C.ht C.hm) I.kIn at1 hk (fun z => nomatch z) fun tk => ⟨.bl b, H, I.kept (t' := tk) fun _ _ z => z, rfl, q⟩
end
/-- isinstance's answer of a class, by the top's facts -/
theorem kit_same {K : PySem.W.Frag} {D : Addr} : PySem.W.kitOne K (.ref D) (.ref D) = some true := if_pos (by simp)
theorem kit_own {K : PySem.W.Frag} {D C : Addr} {b : Bool} (hn : (Value.ref D == Value.ref C) = false) (hd : PySem.W.hasDictIn K C = true) (ht : PySem.W.typeIn K (.ref C) = some (.type "type")) (hs : PySem.W.subIn K (.ref D) (.ref C) = some b) : PySem.W.kitOne K (.ref D) (.ref C) = some b := by
  obtain ⟨cd, hc, _⟩ := PySem.W.any_some hd
  have e2 : ((PySem.W.clsIn K C).isSome && PySem.W.typeIn K (.ref C) == some (.type "type")) = true := by
    rw [hc, ht]
    rfl
  unfold PySem.W.kitOne
  rw [if_neg (by rw [hn]; exact Bool.false_ne_true)]
  show (if _ then _ else _) = _
  rw [if_pos e2]
  exact hs
theorem kit_built {K : PySem.W.Frag} {D : Addr} {T : String} {b : Bool} (hm : PySem.W.kitMeta T = true) (hs : PySem.W.subIn K (.ref D) (.type T) = some b) : PySem.W.kitOne K (.ref D) (.type T) = some b := by
  unfold PySem.W.kitOne
  rw [if_neg (by intro z; cases z)]
  show (if _ then _ else _) = _
  rw [if_pos hm]
  exact hs
end XP
/-! ## More words: tuples, methods by value, displays of new things, ranges from a number on -/
namespace XP
open PySem PySem.Spec PyProof.Rows L2 Evl
section
variable {K : PySem.W.Frag} {σ : L2.St} {H H' : Hp} {ta tb te tx : TE} {t u : TT} {x y z v : V} {r : R2} {a b p : Addr} {xs ys : List Int} {i j : Int} {D : Ends} {tz tu tw : TS}
/-- a method of a list, by value -/
theorem ev_bmL {m : V → List V → Hp → VK → Prop} {l : Addr} {zs vs : List V} {tr : TA} (ha : Ev ta σ H (.ref l)) (hl : SqL K H l zs) (ht : EvA tr σ H vs) (hm : ∀ H1, Ex H H1 → ∀ Q : VK, Q z H1 → m (.ref l) vs H1 Q) : Ev (tBM K "list" m ta tr) σ H z := fun H1 e Q q =>
  ha H1 e _ fun H2 e2 => ⟨.inl ⟨rfl, zs, ex_l (e.trans e2) hl⟩, ht H2 (e.trans e2) _ fun H3 e3 => hm H3 ((e.trans e2).trans e3) Q (q H3 (e2.trans e3))⟩
theorem ev_countB {l : Addr} {bs : List Bool} {k : Bool} {tr : TA} (ha : Ev ta σ H (.ref l)) (hl : SqL K H l (bs.map V.bl)) (ht : EvA tr σ H [.bl k]) : Ev (tBM K "list" (rCountB K) ta tr) σ H (.int ((bs.count k : Nat) : Int)) :=
  ev_bmL ha hl ht fun H1 e _ q => ⟨l, bs, k, rfl, rfl, ex_l e hl, q⟩
theorem ev_indexB {l : Addr} {bs : List Bool} {k : Bool} {n : Nat} {tr : TA} (ha : Ev ta σ H (.ref l)) (hl : SqL K H l (bs.map V.bl)) (ht : EvA tr σ H [.bl k]) (hn : bs[n]? = some k) (hno : ∀ m c, m < n → bs[m]? = some c → c ≠ k) : Ev (tBM K "list" (rIndex K) ta tr) σ H (.int (n : Int)) :=
  ev_bmL ha hl ht fun H1 e _ q => ⟨l, bs.map V.bl, .bl k, n, .bl k, rfl, rfl, ex_l e hl, rfl, List.all_eq_true.mpr fun d hd => by
    obtain ⟨c, _, rfl⟩ := List.mem_map.mp hd
    rfl, by rw [List.getElem?_map, hn]; rfl, by cases k <;> rfl, fun m z' hm hz => by
    rw [List.getElem?_map] at hz
    cases hc : bs[m]? with
    | none => rw [hc] at hz; cases hz
    | some c =>
      rw [hc] at hz
      cases hz
      have := hno m c hm hc
      revert this
      cases c <;> cases k <;> simp [eqV], q⟩
/-- isinstance of an error -/
theorem rc_isx {e D : Addr} {c : V} {w : Value} {k : Bool} (he : H e = some (ErrO (.ref D) e)) (C : ExcC K D) (hc : ClsV c w) (hk : PySem.W.kitOne K (.ref D) w = some k) : RC (rIsX K) [.ref e, c] H (.bl k) := fun H1 ex _ q =>
  ⟨e, D, c, w, k, rfl, ex _ _ he, C, hc, hk, q H1 (Ex.refl H1)⟩
/-- t[i] of a tuple -/
theorem ev_ixT {l : Addr} {zs : List V} {n : Nat} (ha : Ev ta σ H (.ref l)) (hb : Ev tb σ H (.int (n : Int))) (h : H l = some (.tup zs)) (hn : zs[n]? = some v) : Ev (tOp (rIxT K) ta tb) σ H v := ev_op ha hb (rv_ixT (st_of h) (atI_nat hn))
/-- a choice between two new tuples -/
theorem eu_if {c : Bool} {zs : List V} (h : EvT t σ H c) (h1 : c = true → EvU ta σ H zs) (h2 : c = false → EvU tb σ H zs) : EvU (tIf t ta tb) σ H zs := fun H1 e Q q => h H1 e _ fun H2 e2 => by
  cases c with
  | true => exact h1 rfl H2 (e.trans e2) Q fun p H3 hp e3 h3 => q p H3 (fresh_back e2 hp) (e2.trans e3) h3
  | false => exact h2 rfl H2 (e.trans e2) Q fun p H3 hp e3 h3 => q p H3 (fresh_back e2 hp) (e2.trans e3) h3
def SpU (sp : Sp) (vs : List V) (H : Hp) (zs : List V) : Prop := ∀ H1, Ex H H1 → ∀ Q : VK, (∀ p H2, H1 p = none → Ex H1 H2 → H2 p = some (.tup zs) → Q (.ref p) H2) → ∀ E : XK, sp vs H1 Q E
theorem eu_call {sp : Sp} {dvs vs zs : List V} {E : XK} {tr : TA} (h : EvA tr σ H vs) (hs : SpU sp (vs ++ dvs) H zs) : EvU (tCall sp dvs E tr) σ H zs := fun H1 e Q q =>
  h H1 e _ fun H2 e2 => hs H2 (e.trans e2) Q (fun p H3 hp e3 h3 => q p H3 (fresh_back e2 hp) (e2.trans e3) h3) E
def RetU (zs : List V) (H : Hp) (Q : VK) : Prop := ∀ p H2, H p = none → Ex H H2 → H2 p = some (.tup zs) → Q (.ref p) H2
/-- values of which P is known -/
def EvAP (tr : TA) (σ : L2.St) (H : Hp) (P : List V → Hp → Prop) : Prop := ∀ H1, Ex H H1 → ∀ Q : List V → Hp → Prop, (∀ vs H2, Ex H1 H2 → P vs H2 → Q vs H2) → tr σ H1 Q
def Mono {α : Type} (P : α → Hp → Prop) : Prop := ∀ c H1 H2, Ex H1 H2 → P c H1 → P c H2
theorem eap_nil : EvAP tNil σ H (fun vs _ => vs = []) := fun H1 _ _ q => q [] H1 (Ex.refl H1) rfl
theorem eap_cons {tr : TA} {P : List V → Hp → Prop} (h : Ev te σ H x) (hr : EvAP tr σ H P) : EvAP (tCons te tr) σ H (fun vs H' => ∃ us, vs = x :: us ∧ P us H') := fun H1 e _ q =>
  h H1 e _ fun H2 e2 => hr H2 (e.trans e2) _ fun us H3 e3 hp => q _ H3 (e2.trans e3) ⟨us, rfl, hp⟩
theorem eap_consL {tr : TA} {P : List V → Hp → Prop} {zs : List V} (h : EvL te σ H zs) (hr : EvAP tr σ H P) : EvAP (tCons te tr) σ H (fun vs H' => ∃ p us, vs = .ref p :: us ∧ H p = none ∧ H' p = some (.lst zs) ∧ P us H') := fun H1 e _ q =>
  h H1 e _ fun p H2 np e2 hp => hr H2 (e.trans e2) _ fun us H3 e3 hP => q _ H3 (e2.trans e3) ⟨p, us, rfl, fresh_back e np, e3 _ _ hp, hP⟩
theorem ep_lst {tr : TA} {P : List V → Hp → Prop} (h : EvAP tr σ H P) (hm : Mono P) (hl : ∀ vs H', P vs H' → vs.length ≤ 100000) : EvP (tLst tr) σ H (fun v H' => ∃ p vs, v = .ref p ∧ H p = none ∧ H' p = some (.lst vs) ∧ P vs H') := fun H1 e Q q =>
  h H1 e _ fun vs H2 e2 hp => ⟨sz_of (hl _ _ hp), fun p np => q _ _ (e2.trans (Ex.new np)) ⟨p, vs, rfl, fresh_back (e.trans e2) np, upd_same, hm _ _ _ (Ex.new np) hp⟩⟩
theorem mono_nil : Mono (fun (vs : List V) (_ : Hp) => vs = []) := fun _ _ _ _ h => h
theorem mono_cons {P : List V → Hp → Prop} (h : Mono P) : Mono (fun (vs : List V) (H' : Hp) => ∃ us, vs = x :: us ∧ P us H') := fun _ _ _ e ⟨us, h1, h2⟩ => ⟨us, h1, h _ _ _ e h2⟩
theorem mono_consL {P : List V → Hp → Prop} {zs : List V} (h : Mono P) : Mono (fun (vs : List V) (H' : Hp) => ∃ p us, vs = .ref p :: us ∧ H p = none ∧ H' p = some (.lst zs) ∧ P us H') := fun _ _ _ e ⟨p, us, h1, h2, h3, h4⟩ => ⟨p, us, h1, h2, e _ _ h3, h _ _ _ e h4⟩
/-- a list by a comprehension over range(lo, n) -/
theorem el_lcR2A {tr : TA} {k : Nat} {vs : List Nat} {lo n : Int} (g : Nat → V) (h : EvA tr σ H [.int lo, .int n]) (hn : 0 ≤ lo ∧ lo ≤ 40000 ∧ -40000 ≤ n ∧ n ≤ 40000) (hw : ∀ x, wipe ((wipe σ vs).set k (some x)) vs = wipe σ vs)
    (he : ∀ (i : Nat) H1, Ex H H1 → lo + (i : Int) < n → Ev te ((wipe σ vs).set k (some (.int (lo + (i : Int))))) H1 (g i)) :
    EvL (tLc (iRng2 tr) (gName k) tYes te vs) σ H ((List.range (n - lo).toNat).map g) := fun H0 e Q q =>
  h H0 e _ fun H1 e1 => ⟨lo, n, rfl, ⟨by omega, by omega, by omega, by omega⟩, fun Dl hD =>
    lc_range (lo := lo) (n := (n - lo).toNat) (Cw H1 (fun _ => true) g Dl) ⟨hD, Ex.new hD, upd_same⟩ (fun i H2 hi p => ⟨hw _, cw_turn p (by omega) et_yes fun _ => he i H1 (e.trans e1) (by omega)⟩)
      (fun H2 p => q Dl H2 (fresh_back e1 p.1) (e1.trans p.2.1) (by rw [← given_all]; exact p.2.2))⟩
/-- two ways of an if that go on alike are told apart ahead -/
theorem q_else {c : Bool} (h : EvT t σ H c) (h1 : c = true → ∀ H1, Ex H H1 → tu { D with nx := tz D } σ H1) (h2 : c = false → ∀ H1, Ex H H1 → tw { D with nx := tz D } σ H1) : tSeq (tIfS t tu tw) tz D σ H := q_if h h1 h2
end
end XP
namespace ZL
open PySem PySem.Spec PyProof.Rows
/-! ### itertools.zip_longest over two lists -/
theorem zl_mro : mroOf (.type "itertools.zip_longest") = pure [.type "itertools.zip_longest", .type "object"] := by rw [mroOf_type]; kernel_rfl
theorem zl_lookup_new : typeLookup (.type "itertools.zip_longest") "__new__" = pure (some (.builtin "itertools.zip_longest.__new__")) := by
  rw [typeLookup_type, builtinLookup_eq_fast]
  kernel_rfl
theorem zl_sub : isSubtype (.type "itertools.zip_longest") (.type "itertools.zip_longest") = pure true := by rw [isSubtype_type]; kernel_rfl
theorem zl_slot_init : Slot "itertools.zip_longest" "__init__" "object.__init__" :=
  Slot.of (n := "__init__") (owner := "object") (by rw [typeLookup_type, builtinLookup_eq_fast]; kernel_rfl) (by decide +kernel) (by decide +kernel) (by decide +kernel)
    (by first | exact Or.inl (by decide +kernel) | exact Or.inr (by decide +kernel)) (by rw [isSubtype_type]; kernel_rfl)
theorem zl_slot_iter : Slot "itertools.zip_longest" "__iter__" "itertools.zip_longest.__iter__" :=
  Slot.of (n := "__iter__") (owner := "itertools.zip_longest") (by rw [typeLookup_type, builtinLookup_eq_fast]; kernel_rfl) (by decide +kernel) (by decide +kernel) (by decide +kernel)
    (by first | exact Or.inl (by decide +kernel) | exact Or.inr (by decide +kernel)) zl_sub
theorem zl_slot_next : Slot "itertools.zip_longest" "__next__" "itertools.zip_longest.__next__" :=
  Slot.of (n := "__next__") (owner := "itertools.zip_longest") (by rw [typeLookup_type, builtinLookup_eq_fast]; kernel_rfl) (by decide +kernel) (by decide +kernel) (by decide +kernel)
    (by first | exact Or.inl (by decide +kernel) | exact Or.inr (by decide +kernel)) zl_sub
theorem zl_entry_new : entryFor table "itertools.zip_longest.__new__" = some Builtin.«itertools.zip_longest.__new__» := entryFor_of_tree (by kernel_rfl)
theorem zl_entry_next : entryFor table "itertools.zip_longest.__next__" = some Builtin.«itertools.zip_longest.__next__» := entryFor_of_tree (by kernel_rfl)
theorem zl_entry_iter : entryFor table "itertools.zip_longest.__iter__" = some Builtin.«dict_keyiterator.__iter__» :=
  entryFor_alias (id' := "dict_keyiterator.__iter__") (by kernel_rfl) (by first | rfl | decide +kernel | (unfold String.splitOn; simp +decide [String.splitOnAux])) (by decide +kernel) (by kernel_rfl)
theorem zl_called : TypeCalled "itertools.zip_longest" "itertools.zip_longest.__new__" "object.__init__" :=
  ⟨by decide +kernel, by decide +kernel, ⟨_, _, zl_mro⟩, madeBy_type zl_mro zl_lookup_new (by decide +kernel), by decide +kernel, zl_sub, zl_slot_init⟩
theorem zl_typeCall (a b c : Value) : checkTypeCall "itertools.zip_longest" ⟨[a, b], [(Str.ofString "fillvalue", c)]⟩ = pure () := by kernel_rfl
theorem zl_newCall (a b c : Value) : checkBuiltinCall "itertools.zip_longest.__new__" ⟨[.type "itertools.zip_longest", a, b], [(Str.ofString "fillvalue", c)]⟩ = pure () := by kernel_rfl
theorem zl_initArgs (o a b c : Value) : argsOk "object.__init__" ⟨[o, a, b], [(Str.ofString "fillvalue", c)]⟩ := by unfold argsOk; kernel_rfl
theorem zl_owner : Manifest.owners.lookup (String.ofList ['t', 's', 'e', 'g', 'n', 'o', 'l', '_', 'p', 'i', 'z', '.', 's', 'l', 'o', 'o', 't', 'r', 'e', 't', 'i'].reverse) = some Manifest.sig_itertools_zip_longest := by kernel_rfl
theorem zl_args_iter (a : Value) : argsOk "itertools.zip_longest.__iter__" ⟨[a], []⟩ := by
  unfold argsOk
  rw [signature?_of (id := "itertools.zip_longest.__iter__") (o := ['t', 's', 'e', 'g', 'n', 'o', 'l', '_', 'p', 'i', 'z', '.', 's', 'l', 'o', 'o', 't', 'r', 'e', 't', 'i']) (n := ['_', '_', 'r', 'e', 't', 'i', '_', '_']) (by kernel_rfl) zl_owner]
  kernel_rfl
theorem zl_args_next (a : Value) : argsOk "itertools.zip_longest.__next__" ⟨[a], []⟩ := by
  unfold argsOk
  rw [signature?_of (id := "itertools.zip_longest.__next__") (o := ['t', 's', 'e', 'g', 'n', 'o', 'l', '_', 'p', 'i', 'z', '.', 's', 'l', 'o', 'o', 't', 'r', 'e', 't', 'i']) (n := ['_', '_', 't', 'x', 'e', 'n', '_', '_']) (by kernel_rfl) zl_owner]
  kernel_rfl
theorem zl_noDict : typeHasDict (.type "itertools.zip_longest") = false := by decide +kernel
end ZL
namespace ZL
open PySem PySem.Spec PyProof.Rows
abbrev IsZL (h : Heap) (z TI TO : Addr) (f0 d : Value) (run : Int) : Prop :=
  h.get? z = some { cls := .type "itertools.zip_longest", dict := none, data := .fields #[f0, .bool false, d, .int run 0, .ref TI, .ref TO], slots := #[] }
abbrev Tup (h : Heap) (T : Addr) (es : Array Value) : Prop := h.get? T = some { cls := .type "tuple", data := .seq es }
def Fld (h : Heap) (i : Addr) : Prop := ∃ o vs, h.get? i = some o ∧ o.data = .fields vs
section
variable {prog : Program} {w : World} {A : Around} {E : Value → Shared → Prop} {s : Shared}
theorem zl_pool {T : Addr} {es : Array Value} {Q : Array Value → Shared → Prop} (h : Tup s.heap T es) (q : Q es s) : wpAny (model prog w) A (Builtin.Itertools.itPoolItems (.ref T)) Q E s := by
  unfold Builtin.Itertools.itPoolItems
  exact wpAny_bind (wpAny_seqItems h rfl (wpAny_pure q))
theorem zl_run {z TI TO : Addr} {f0 d : Value} {run : Int} {Q : Int → Shared → Prop} (h : IsZL s.heap z TI TO f0 d run) (q : Q run s) : wpAny (model prog w) A (Builtin.Itertools.itIntField (.ref z) 3) Q E s := by
  unfold Builtin.Itertools.itIntField
  exact wpAny_bind (wpAny_field h rfl (x := .int run 0) rfl (wpAny_pure q))
/-- a list's iterator comes to its end: what is left of it -/
theorem zl_end {it l : Addr} {i : Nat} {items : Array Value} {Q : Option Value → Shared → Prop} (hh : A.handled = none) (hit : s.heap.IsListIter it l i) (hl : s.heap.IsList l items) (hx : items[i]? = none)
    (hQ : ∀ h', Heap.ExtBut it s.heap h' → Fld h' it → s.heap.objs.size ≤ h'.objs.size → Q none { s with heap := h' }) : wpAny (model prog w) A (pyNext (.ref it)) Q E s := by
  have hT := hit.typeIs
  obtain ⟨oi, hoi, ci, di⟩ := hit
  obtain ⟨ol, hol, _, nl, dl⟩ := hl
  unfold pyNext
  refine wpAny_bind (wpAny_attempt (wpAny_callSpecial?_slot (name := Str.ofString "__next__") hT slot_listiter_next (wpAny_call_entry slot_listiter_next hT entry_listiter_next ?_ (args_listiter_next _))))
  show wpAny _ _ (field (.ref it) 0 >>= _) _ _ s
  refine wpAny_bind (wpAny_field hoi di (x := .ref l) rfl ?_)
  show wpAny _ _ (if (Value.ref l == Value.none) = true then _ else _) _ _ s
  rw [if_neg (fun e : (Value.ref l == Value.none) = true => Bool.false_ne_true e)]
  show wpAny _ _ (field (.ref it) 1 >>= _) _ _ s
  refine wpAny_bind (wpAny_field hoi di (x := .int i 0) rfl ?_)
  show wpAny _ _ (seqItems? (.ref l) >>= _) _ _ s
  refine wpAny_bind (wpAny_seqItems hol dl ?_)
  simp only [hx, Int.toNat_natCast]
  refine wpAny_bind (wpAny_rule (wpAny_bind (wpAny_setField hoi di (by simp) ?_)))
  show wpAny _ _ (newExc (.type "StopIteration") [] >>= _) _ _ _
  refine wpAny_bind ?_
  simp only [newTuple, newExc]
  refine wpAny_bind (wpAny_newObj_type ?_ (by size_fits))
  refine wpAny_bind (m := firstArgMember _ _) (wpAny_of_eq (a := Value.none) (by (first | rfl | (simp only [firstArgMember]; rfl))) ?_)
  refine wpAny_newObj_type ?_ (by size_fits)
  simp only [raiseNew]
  refine wpAny_bind (wpAny_handled ?_)
  have e1 : A.in1.handled = none := hh
  rw [e1]
  refine wpAny_bind (wpAny_pure (wpAny_throw ?_))
  refine wpAny_bind (wpAny_isInstance (b := true) (T := "StopIteration") ⟨_, Heap.get?_push_size _ rfl, rfl⟩ isSubtype_stop ?_)
  refine wpAny_pure (hQ _ (((Heap.SameBut.update ..).extBut.push _).push _) ⟨_, _, Heap.get?_push_of_some _ (Heap.get?_push_of_some _ (Heap.get?_update_self _ hoi (Obj.isFreed_of_fields (Obj.data_mapFields di _)))), Obj.data_mapFields di _⟩ ?_)
  rw [Heap.size_push, Heap.size_push, Heap.size_update]
  omega
end
/-- how a column is drawn from: it is gone; it has an item; it ends, another one runs; it ends as the last -/
def ColT (prog : Program) (w : World) (A : Around) (t : Sem (Option Value)) (z TI TO i l : Addr) (c : Nat) (d : Value) : Prop :=
  ∀ (k : Nat) (xs es : Array Value) (f0 : Value) (run : Int) (E : Value → Shared → Prop) (s : Shared) (Q : Option Value → Shared → Prop), IsZL s.heap z TI TO f0 d run → Tup s.heap TI es → es.size = 2 →
    (es.getD c .none = .none → Q (some d) s → wpAny (model prog w) A t Q E s) ∧
    (es.getD c .none = .ref i → s.heap.IsListIter i l k → s.heap.IsList l xs →
      (∀ x, xs[k]? = some x → (∀ h', h'.IsListIter i l (k + 1) → Heap.SameBut i s.heap h' → Q (some x) { s with heap := h' }) → wpAny (model prog w) A t Q E s) ∧
      (xs[k]? = none → run ≠ 1 → (∀ h', IsZL h' z TI TO f0 d (run - 1) → Tup h' TI (es.setIfInBounds c .none) → Fld h' i → s.heap.objs.size ≤ h'.objs.size →
        (∀ a o, a ≠ z → a ≠ TI → a ≠ i → s.heap.get? a = some o → h'.get? a = some o) → Q (some d) { s with heap := h' }) → wpAny (model prog w) A t Q E s) ∧
      (xs[k]? = none → run = 1 → (∀ h', IsZL h' z TI TO f0 d 0 → (∀ a o, a ≠ z → a ≠ i → s.heap.get? a = some o → h'.get? a = some o) → Q none { s with heap := h' }) → wpAny (model prog w) A t Q E s))
section
variable {prog : Program} {w : World} {A : Around} {s : Shared}
/-- one column's turn, the last end left out -/
theorem zl_col {t : Sem (Option Value)} {z TI TO i l : Addr} {c k : Nat} {d f0 : Value} {run : Int} {xs es : Array Value} {E : Value → Shared → Prop} {Q : Option Value → Shared → Prop} (C : ColT prog w A t z TI TO i l c d) (hiz : i ≠ z) (hTi : TI ≠ i)
    (hz : IsZL s.heap z TI TO f0 d run) (hT : Tup s.heap TI es) (h2 : es.size = 2) (he : es.getD c .none = if xs.size < k then .none else .ref i) (hi : k ≤ xs.size → s.heap.IsListIter i l k) (hf : Fld s.heap i) (hl : s.heap.IsList l xs) (hr : k = xs.size → run ≠ 1)
    (hQ : ∀ h', IsZL h' z TI TO f0 d (run - if k = xs.size then 1 else 0) → Tup h' TI (if k = xs.size then es.setIfInBounds c .none else es) → (k + 1 ≤ xs.size → h'.IsListIter i l (k + 1)) → Fld h' i → s.heap.objs.size ≤ h'.objs.size →
      (∀ a o, a ≠ z → a ≠ TI → a ≠ i → s.heap.get? a = some o → h'.get? a = some o) → Q (some (xs[k]?.getD d)) { s with heap := h' }) : wpAny (model prog w) A t Q E s := by
  obtain ⟨c1, c2⟩ := C k xs es f0 run E s Q hz hT h2
  rcases Nat.lt_trichotomy k xs.size with a | a | a
  · rw [if_neg (by omega)] at he
    refine (c2 he (hi (by omega)) hl).1 xs[k] (by simp [a]) fun h' hi' sb => ?_
    have e := hQ h'
    rw [if_neg (by omega), if_neg (by omega), Int.sub_zero, Array.getElem?_eq_getElem a] at e
    have hfl : Fld h' i := by
      obtain ⟨o, e1, _, e2⟩ := hi'
      exact ⟨o, _, e1, e2⟩
    exact e ((sb.2 z hiz.symm).trans hz) ((sb.2 TI hTi).trans hT) (fun _ => hi') hfl (Nat.le_of_eq sb.1.symm) fun b o _ _ b3 e => (sb.2 b b3).trans e
  · have hn : xs[k]? = none := by simp [a]
    rw [if_neg (by omega)] at he
    refine (c2 he (hi (by omega)) hl).2.1 hn (hr a) fun h' h1 h2 h3 h4 h5 => ?_
    have e := hQ h'
    rw [if_pos a, if_pos a, hn] at e
    exact e h1 h2 (fun q => absurd q (by omega)) h3 h4 h5
  · have hn : xs[k]? = none := by simp; omega
    rw [if_pos (by omega)] at he
    have e := hQ s.heap
    rw [if_neg (by omega), if_neg (by omega), Int.sub_zero, hn] at e
    exact c1 he (e hz hT (fun q => absurd q (by omega)) hf (Nat.le_refl _) fun _ _ _ _ _ q => q)
end
end ZL
namespace ZL
open PySem PySem.Spec PyProof.Rows
def ent (n k : Nat) (i : Addr) : Value := if n < k then .none else .ref i
def runAt (n m k : Nat) : Int := (if n < k then 0 else 1) + if m < k then 0 else 1
/-- the state ahead of turn k -/
def ZSt (z TI TO i1 i2 l1 l2 : Addr) (d : Value) (n m k : Nat) (f0 : Value) (h : Heap) : Prop :=
  IsZL h z TI TO f0 d (runAt n m k) ∧ Tup h TI #[ent n k i1, ent m k i2] ∧ (∃ x y, Tup h TO #[x, y]) ∧ (k ≤ n → h.IsListIter i1 l1 k) ∧ (k ≤ m → h.IsListIter i2 l2 k) ∧ Fld h i1 ∧ Fld h i2
theorem ent_one {n k : Nat} {i : Addr} {e : Value} : (if k = n then (#[ent n k i, e] : Array Value).setIfInBounds 0 .none else #[ent n k i, e]) = #[ent n (k + 1) i, e] := by
  unfold ent
  by_cases a : k = n
  · rw [if_pos a, if_pos (show n < k + 1 by omega)]
    rfl
  · rw [if_neg a]
    by_cases b : n < k
    · rw [if_pos b, if_pos (show n < k + 1 by omega)]
    · rw [if_neg b, if_neg (show ¬ n < k + 1 by omega)]
theorem ent_two {n k : Nat} {i : Addr} {e : Value} : (if k = n then (#[e, ent n k i] : Array Value).setIfInBounds 1 .none else #[e, ent n k i]) = #[e, ent n (k + 1) i] := by
  unfold ent
  by_cases a : k = n
  · rw [if_pos a, if_pos (show n < k + 1 by omega)]
    rfl
  · rw [if_neg a]
    by_cases b : n < k
    · rw [if_pos b, if_pos (show n < k + 1 by omega)]
    · rw [if_neg b, if_neg (show ¬ n < k + 1 by omega)]
section
variable {prog : Program} {w : World} {A : Around} {E : Value → Shared → Prop} {s : Shared}
theorem zl_put {T : Addr} {es : Array Value} {k : Nat} {x : Value} {Q : Unit → Shared → Prop} (hT : Tup s.heap T es) (h2 : es.size = 2)
    (h : ∀ h', Tup h' T (es.setIfInBounds k x) → Heap.SameBut T s.heap h' → Q () { s with heap := h' }) : wpAny (model prog w) A (updateSeq T (·.setIfInBounds k x)) Q E s := by
  refine wpAny_updateSeq hT rfl (h _ ?_ (Heap.SameBut.update ..)) (by rw [h2]; decide) (by rw [Array.size_setIfInBounds, h2]; decide)
  show (s.heap.update T _).get? T = _
  rw [Heap.get?_update_self _ hT rfl]
  simp [Obj.mapSeq]
theorem Fld.at {h h' : Heap} {i : Addr} (f : Fld h i) (e : ∀ o, h.get? i = some o → h'.get? i = some o) : Fld h' i := by
  obtain ⟨o, vs, a, b⟩ := f
  exact ⟨o, vs, e _ a, b⟩
theorem zl_next {z TI TO i1 i2 l1 l2 : Addr} {k : Nat} {d : Value} {xs ys : Array Value} {Q : Value → Shared → Prop} (hh : A.handled = none) (D : ZipApart z TI TO i1 i2 l1 l2) (hl1T : l1 ≠ TI) (hl2T : l2 ≠ TI)
    (S : ZSt z TI TO i1 i2 l1 l2 d xs.size ys.size k .none s.heap) (hl1 : s.heap.IsList l1 xs) (hl2 : s.heap.IsList l2 ys) (hk : k < xs.size ∨ k < ys.size)
    (hQ : ∀ h' (T : Addr), ZSt z TI TO i1 i2 l1 l2 d xs.size ys.size (k + 1) (rawInt T) h' → Tup h' T #[xs[k]?.getD d, ys[k]?.getD d] → s.heap.objs.size ≤ T →
      (∀ c o, c ≠ z → c ≠ TI → c ≠ TO → c ≠ i1 → c ≠ i2 → s.heap.get? c = some o → h'.get? c = some o) → Q (.ref T) { s with heap := h' }) :
    wpAny (model prog w) A (Builtin.«itertools.zip_longest.__next__» ⟨[.ref z], []⟩) (fun fin s' => ∃ v, fin = .done (.ret v) ∧ Q v s') E s := by
  obtain ⟨hz, hTI, ⟨a, b, hTO⟩, h1, h2, f1, f2⟩ := S
  have hr : ¬ ((runAt xs.size ys.size k == 0) = true) := by
    rw [beq_iff_eq]
    unfold runAt
    split <;> split <;> omega
  show wpAny _ _ (Builtin.Itertools.itIntField (.ref z) 3 >>= _) _ _ _
  refine wpAny_bind (zl_run hz ?_)
  rw [if_neg hr]
  refine wpAny_bind (wpAny_field hz rfl (x := .ref TI) rfl ?_)
  refine wpAny_bind (zl_pool hTI ?_)
  refine wpAny_bind ?_
  unfold Builtin.Itertools.itOwnedIsFree
  refine wpAny_bind (wpAny_field hz rfl (x := .none) rfl (wpAny_pure ?_))
  rw [if_pos rfl]
  refine wpAny_bind (wpAny_rule ?_)
  refine wpAny_bind (wpAny_field hz rfl (x := .ref TO) rfl ?_)
  refine wpAny_bind (wpAny_setField_rec hz (by simp) fun g1 z1 s1 => ?_)
  replace z1 : IsZL g1 z TI TO .ellipsis d (runAt xs.size ys.size k) := z1
  have er : List.range (#[ent xs.size k i1, ent ys.size k i2] : Array Value).size = [0, 1] := rfl
  rw [er]
  refine wpAny_bind ?_
  simp only [List.forIn_cons, List.forIn_nil]
  have x1 := s1.extBut
  refine wpAny_bind (wpAny_bind (wpAny_onRaise (zl_col (c := 0) ?c0 D.i1z D.TIi1 z1 (x1 _ _ D.TIz hTI) rfl rfl (fun q => (h1 q).extBut x1 D.i1z) (f1.at fun o e => x1 _ o D.i1z e) (hl1.extBut x1 D.l1z) (fun q => ?r0) fun g2 z2 t2 a2 b2 n2 k2 => ?_)))
  rotate_left 2
  rw [ent_one] at t2
  refine wpAny_bind (zl_pool (k2 TO _ D.TOz D.TITO.symm D.TOi1 (x1 _ _ D.TOz hTO)) ?_)
  refine wpAny_bind (zl_put (k2 TO _ D.TOz D.TITO.symm D.TOi1 (x1 _ _ D.TOz hTO)) rfl fun g3 t3 s3 => ?_)
  refine wpAny_bind (wpAny_letGo (wpAny_pure ?_))
  have x3 := s3.extBut
  refine wpAny_bind (wpAny_bind (wpAny_onRaise (zl_col (c := 1) ?c1 D.i2z D.TIi2 (x3 _ _ D.TOz.symm z2) (x3 _ _ D.TITO t2) rfl rfl (fun q => (((h2 q).extBut x1 D.i2z).at fun o e => k2 _ o D.i2z D.TIi2.symm D.i12.symm e).extBut x3 D.TOi2.symm)
    (((f2.at fun o e => x1 _ o D.i2z e).at fun o e => k2 _ o D.i2z D.TIi2.symm D.i12.symm e).at fun o e => x3 _ o D.TOi2.symm e) (((hl2.extBut x1 D.l2z).at fun o e => k2 _ o D.l2z hl2T D.l2i1 e).extBut x3 D.l2TO) (fun q => ?r1) fun g4 z4 t4 a4 b4 n4 k4 => ?_)))
  rotate_left 2
  rw [ent_two] at t4
  have t5 := k4 TO _ D.TOz D.TITO.symm D.TOi2 t3
  refine wpAny_bind (zl_pool t5 ?_)
  refine wpAny_bind (zl_put t5 rfl fun g5 t6 s5 => ?_)
  replace t6 : Tup g5 TO #[xs[k]?.getD d, ys[k]?.getD d] := t6
  have x5 := s5.extBut
  refine wpAny_bind (wpAny_letGo (wpAny_pure (wpAny_pure ?_)))
  refine wpAny_bind (zl_pool t6 ?_)
  refine wpAny_bind (wpAny_newTuple ?_)
  have z6 : IsZL (g5.push { cls := .type "tuple", data := .seq #[xs[k]?.getD d, ys[k]?.getD d] }) z TI TO .ellipsis d (runAt xs.size ys.size k - (if k = xs.size then 1 else 0) - if k = ys.size then 1 else 0) := Heap.get?_push_of_some _ (x5 _ _ D.TOz.symm z4)
  have er2 : runAt xs.size ys.size k - (if k = xs.size then 1 else 0) - (if k = ys.size then 1 else 0) = runAt xs.size ys.size (k + 1) := by
    unfold runAt
    repeat' split
    all_goals omega
  rw [er2] at z6
  have hle : s.heap.objs.size ≤ g5.objs.size := by
    have q1 : g1.objs.size = s.heap.objs.size := s1.1
    have q2 : g1.objs.size ≤ g2.objs.size := n2
    have q3 : g3.objs.size = g2.objs.size := s3.1
    have q4 : g3.objs.size ≤ g4.objs.size := n4
    have q5 : g5.objs.size = g4.objs.size := s5.1
    omega
  have hlt : z < g5.objs.size := Heap.lt_size (x5 _ _ D.TOz.symm z4)
  refine wpAny_bind ?_
  unfold Builtin.Itertools.itOwnedHandOut
  refine wpAny_bind (wpAny_setField_rec z6 (by simp) fun g7 z7 s7 => ?_)
  replace z7 : IsZL g7 z TI TO (rawInt g5.objs.size) d (runAt xs.size ys.size (k + 1)) := z7
  refine wpAny_setField_rec z7 (by simp) fun g8 z8 s8 => ?_
  replace z8 : IsZL g8 z TI TO (rawInt g5.objs.size) d (runAt xs.size ys.size (k + 1)) := z8
  have up : ∀ c o, c ≠ z → g5.get? c = some o → g8.get? c = some o := fun c o c1 e => s8.extBut _ _ c1 (s7.extBut _ _ c1 (Heap.get?_push_of_some _ e))
  have hT8 : Tup g8 g5.objs.size #[xs[k]?.getD d, ys[k]?.getD d] := s8.extBut _ _ (Nat.ne_of_gt hlt) (s7.extBut _ _ (Nat.ne_of_gt hlt) (Heap.get?_push_size _ rfl))
  refine wpAny_pure ⟨_, rfl, hQ g8 g5.objs.size ⟨z8, up _ _ D.TIz (x5 _ _ D.TITO t4), ⟨_, _, up _ _ D.TOz t6⟩, fun q => ?i1, fun q => ?i2, ?f1, ?f2⟩ hT8 hle fun c o c1 c2 c3 c4 c5 e => ?main⟩
  case i1 => exact (((a2 q).extBut x3 D.TOi1.symm).at fun o e => x5 _ o D.TOi1.symm (k4 _ o D.i1z D.TIi1.symm D.i12 e)).at fun o e => up _ o D.i1z e
  case i2 => exact ((a4 q).extBut x5 D.TOi2.symm).at fun o e => up _ o D.i2z e
  case f1 => exact b2.at fun o e => up _ o D.i1z (x5 _ o D.TOi1.symm (k4 _ o D.i1z D.TIi1.symm D.i12 (x3 _ o D.TOi1.symm e)))
  case f2 => exact b4.at fun o e => up _ o D.i2z (x5 _ o D.TOi2.symm e)
  case r0 =>
    unfold runAt
    repeat' split
    all_goals omega
  case r1 =>
    unfold runAt
    repeat' split
    all_goals omega
  case main => exact up _ _ c1 (x5 _ _ c3 (k4 _ _ c1 c2 c5 (x3 _ _ c3 (k2 _ _ c1 c2 c4 (x1 _ _ c1 e)))))
  case' c0 =>
    show ColT _ _ _ _ z TI TO i1 l1 0 d
    have hiz := D.i1z
    have hTi := D.TIi1
  case' c1 =>
    show ColT _ _ _ _ z TI TO i2 l2 1 d
    have hiz := D.i2z
    have hTi := D.TIi2
  all_goals
    clear hQ
    intro k xs es f0 run E s Q hz hT hn
    refine ⟨fun e q => ?_, fun e hi hl => ⟨fun x hx q => ?_, fun hx hr q => ?_, fun hx hr q => ?_⟩⟩
    all_goals
      show wpAny _ _ (field (.ref z) 4 >>= _) _ _ s
      refine wpAny_bind (wpAny_field hz rfl (x := .ref TI) rfl ?_)
      refine wpAny_bind (zl_pool hT ?_)
      rw [e]
      refine wpAny_bind (wpAny_field hz rfl (x := d) rfl ?_)
    · rw [if_pos (show (Value.none == Value.none) = true from rfl)]
      exact wpAny_pure q
    all_goals rw [if_neg (fun e : (Value.ref _ == Value.none) = true => Bool.false_ne_true e)]
    · exact wpAny_bind (wpAny_onRaise (wpAny_pyNext_list_item hi hl hx fun h' a1 a2 => wpAny_pure (q h' a1 a2)))
    all_goals
      refine wpAny_bind (wpAny_onRaise (zl_end hh hi hl hx fun h' a1 a2 a3 => ?_))
      refine wpAny_bind (zl_pool (a1 _ _ hTi hT) ?_)
      rw [e, if_neg (fun e : (Value.ref _ == Value.none) = true => Bool.false_ne_true e)]
      refine wpAny_bind (zl_run (a1 _ _ hiz.symm hz) ?_)
      refine wpAny_bind (wpAny_setField_rec (a1 _ _ hiz.symm hz) (by simp) fun h'' b1 b2 => ?_)
      have x2 := b2.extBut
    · rw [if_neg (by rw [beq_iff_eq]; exact hr)]
      refine wpAny_bind (wpAny_rule ?_)
      refine wpAny_bind (zl_put (x2 _ _ D.TIz (a1 _ _ hTi hT)) hn fun h3 c1 c2 => ?_)
      refine wpAny_bind (wpAny_letGo (wpAny_pure ?_))
      have x3 := c2.extBut
      refine q h3 (x3 _ _ D.TIz.symm b1) c1 ((a2.at fun o e => x2 _ o hiz e).at fun o e => x3 _ o hTi.symm e) ?_ fun c o n1 n2 n3 e => x3 _ _ n2 (x2 _ _ n1 (a1 _ _ n3 e))
      have q1 : h''.objs.size = h'.objs.size := b2.1
      have q2 : h3.objs.size = h''.objs.size := c2.1
      omega
    · rw [if_pos (by rw [hr]; rfl)]
      subst hr
      exact wpAny_pure (q h'' b1 fun c o n1 n3 e => x2 _ _ n1 (a1 _ _ n3 e))
/-- its end, once both are through -/
theorem zl_stop {z TI TO i1 i2 l1 l2 : Addr} {k : Nat} {d : Value} {xs ys : Array Value} {Q : PySem.Fin → Shared → Prop} (hh : A.handled = none) (D : ZipApart z TI TO i1 i2 l1 l2) (hl1T : l1 ≠ TI) (hl2T : l2 ≠ TI)
    (S : ZSt z TI TO i1 i2 l1 l2 d xs.size ys.size k .none s.heap) (hl1 : s.heap.IsList l1 xs) (hl2 : s.heap.IsList l2 ys) (hk : (k = xs.size ∧ ys.size ≤ k) ∨ (k = ys.size ∧ xs.size ≤ k))
    (hE : ∀ h' e, (∀ c o, c ≠ z → c ≠ TI → c ≠ TO → c ≠ i1 → c ≠ i2 → s.heap.get? c = some o → h'.get? c = some o) → (∃ o, h'.get? e = some o ∧ o.cls = .type "StopIteration") → E (.ref e) { s with heap := h' }) :
    wpAny (model prog w) A (Builtin.«itertools.zip_longest.__next__» ⟨[.ref z], []⟩) Q E s := by
  obtain ⟨hz, hTI, ⟨a, b, hTO⟩, h1, h2, f1, f2⟩ := S
  have hr : ¬ ((runAt xs.size ys.size k == 0) = true) := by
    rw [beq_iff_eq]
    unfold runAt
    split <;> split <;> omega
  show wpAny _ _ (Builtin.Itertools.itIntField (.ref z) 3 >>= _) _ _ _
  refine wpAny_bind (zl_run hz ?_)
  rw [if_neg hr]
  refine wpAny_bind (wpAny_field hz rfl (x := .ref TI) rfl ?_)
  refine wpAny_bind (zl_pool hTI ?_)
  refine wpAny_bind ?_
  unfold Builtin.Itertools.itOwnedIsFree
  refine wpAny_bind (wpAny_field hz rfl (x := .none) rfl (wpAny_pure ?_))
  rw [if_pos rfl]
  refine wpAny_bind (wpAny_rule ?_)
  refine wpAny_bind (wpAny_field hz rfl (x := .ref TO) rfl ?_)
  refine wpAny_bind (wpAny_setField_rec hz (by simp) fun g1 z1 s1 => ?_)
  replace z1 : IsZL g1 z TI TO .ellipsis d (runAt xs.size ys.size k) := z1
  have er : List.range (#[ent xs.size k i1, ent ys.size k i2] : Array Value).size = [0, 1] := rfl
  rw [er]
  refine wpAny_bind ?_
  simp only [List.forIn_cons, List.forIn_nil]
  have x1 := s1.extBut
  have hend : ∀ (g : Heap) (Q' : Unit → Shared → Prop) (q : ∀ g' e, (∀ c o, g.get? c = some o → g'.get? c = some o) → (∃ o, g'.get? e = some o ∧ o.cls = .type "StopIteration") → E (.ref e) { s with heap := g' }),
      wpAny (model prog w) A (Builtin.Itertools.itStop (α := Unit)) Q' E { s with heap := g } := fun g Q' q => by
    unfold Builtin.Itertools.itStop
    refine wpAny_bind ?_
    simp only [newTuple, newExc]
    refine wpAny_bind (wpAny_newObj_type ?_ (by size_fits))
    refine wpAny_bind (m := firstArgMember _ _) (wpAny_of_eq (a := Value.none) (by (first | rfl | (simp only [firstArgMember]; rfl))) ?_)
    refine wpAny_newObj_type ?_ (by size_fits)
    simp only [raiseNew]
    refine wpAny_bind (wpAny_handled ?_)
    rw [hh]
    refine wpAny_bind (wpAny_pure (wpAny_throw ?_))
    exact q _ _ (fun c o e => Heap.get?_push_of_some _ (Heap.get?_push_of_some _ e)) ⟨_, Heap.get?_push_size _ rfl, rfl⟩
  have he1 : (#[ent xs.size k i1, ent ys.size k i2] : Array Value).getD 0 .none = ent xs.size k i1 := rfl
  by_cases hB : k = xs.size ∧ ys.size < k
  · obtain ⟨b1, b2⟩ := hB
    have c0 : ∀ t, ColT prog w A t z TI TO i1 l1 0 d → ColT prog w A t z TI TO i1 l1 0 d := fun _ q => q
    have er1 : runAt xs.size ys.size k = 1 := by
      unfold runAt
      rw [if_neg (by omega), if_pos b2]
      rfl
    have en : xs[k]? = none := by simp; omega
    refine wpAny_bind (wpAny_bind (wpAny_onRaise (((c0 _ ?c0) k xs _ _ _ _ _ _ z1 (x1 _ _ D.TIz hTI) rfl).2 ?ee ((h1 (by omega)).extBut x1 D.i1z) (hl1.extBut x1 D.l1z) |>.2.2 en er1 fun g2 z2 k2 => ?main)))
    case ee =>
      show ent xs.size k i1 = _
      unfold ent
      rw [if_neg (by omega)]
    case main =>
      refine wpAny_bind (wpAny_setField_rec z2 (by simp) fun g3 z3 s3 => ?_)
      refine wpAny_bind (hend g3 _ fun g4 e kk he => hE _ _ (fun c o n1 n2 n3 n4 n5 q => kk _ _ (s3.extBut _ _ n1 (k2 _ _ n1 n4 (x1 _ _ n1 q)))) he)
    case c0 =>
      show ColT _ _ _ _ z TI TO i1 l1 0 d
      have hiz := D.i1z
      have hTi := D.TIi1
      clear hE
      intro k xs es f0 run E s Q hz hT hn
      refine ⟨fun e q => ?_, fun e hi hl => ⟨fun x hx q => ?_, fun hx hr q => ?_, fun hx hr q => ?_⟩⟩
      all_goals
        show wpAny _ _ (field (.ref z) 4 >>= _) _ _ s
        refine wpAny_bind (wpAny_field hz rfl (x := .ref TI) rfl ?_)
        refine wpAny_bind (zl_pool hT ?_)
        rw [e]
        refine wpAny_bind (wpAny_field hz rfl (x := d) rfl ?_)
      · rw [if_pos (show (Value.none == Value.none) = true from rfl)]
        exact wpAny_pure q
      all_goals rw [if_neg (fun e : (Value.ref _ == Value.none) = true => Bool.false_ne_true e)]
      · exact wpAny_bind (wpAny_onRaise (wpAny_pyNext_list_item hi hl hx fun h' a1 a2 => wpAny_pure (q h' a1 a2)))
      all_goals
        refine wpAny_bind (wpAny_onRaise (zl_end hh hi hl hx fun h' a1 a2 a3 => ?_))
        refine wpAny_bind (zl_pool (a1 _ _ hTi hT) ?_)
        rw [e, if_neg (fun e : (Value.ref _ == Value.none) = true => Bool.false_ne_true e)]
        refine wpAny_bind (zl_run (a1 _ _ hiz.symm hz) ?_)
        refine wpAny_bind (wpAny_setField_rec (a1 _ _ hiz.symm hz) (by simp) fun h'' b1 b2 => ?_)
        have x2 := b2.extBut
      · rw [if_neg (by rw [beq_iff_eq]; exact hr)]
        refine wpAny_bind (wpAny_rule ?_)
        refine wpAny_bind (zl_put (x2 _ _ D.TIz (a1 _ _ hTi hT)) hn fun h3 c1 c2 => ?_)
        refine wpAny_bind (wpAny_letGo (wpAny_pure ?_))
        have x3 := c2.extBut
        refine q h3 (x3 _ _ D.TIz.symm b1) c1 ((a2.at fun o e => x2 _ o hiz e).at fun o e => x3 _ o hTi.symm e) ?_ fun c o n1 n2 n3 e => x3 _ _ n2 (x2 _ _ n1 (a1 _ _ n3 e))
        have q1 : h''.objs.size = h'.objs.size := b2.1
        have q2 : h3.objs.size = h''.objs.size := c2.1
        omega
      · rw [if_pos (by rw [hr]; rfl)]
        subst hr
        exact wpAny_pure (q h'' b1 fun c o n1 n3 e => x2 _ _ n1 (a1 _ _ n3 e))
  · refine wpAny_bind (wpAny_bind (wpAny_onRaise (zl_col (c := 0) ?c0 D.i1z D.TIi1 z1 (x1 _ _ D.TIz hTI) rfl rfl (fun q => (h1 q).extBut x1 D.i1z) (f1.at fun o e => x1 _ o D.i1z e) (hl1.extBut x1 D.l1z) (fun q => ?r0) fun g2 z2 t2 a2 b2 n2 k2 => ?_)))
    rotate_left 2
    · rw [ent_one] at t2
      refine wpAny_bind (zl_pool (k2 TO _ D.TOz D.TITO.symm D.TOi1 (x1 _ _ D.TOz hTO)) ?_)
      refine wpAny_bind (zl_put (k2 TO _ D.TOz D.TITO.symm D.TOi1 (x1 _ _ D.TOz hTO)) rfl fun g3 t3 s3 => ?_)
      refine wpAny_bind (wpAny_letGo (wpAny_pure ?_))
      have x3 := s3.extBut
      have c1 : ∀ t, ColT prog w A t z TI TO i2 l2 1 d → ColT prog w A t z TI TO i2 l2 1 d := fun _ q => q
      have er1 : (runAt xs.size ys.size k - if k = xs.size then 1 else 0) = 1 := by
        unfold runAt
        repeat' split
        all_goals omega
      have en : ys[k]? = none := by simp; omega
      refine wpAny_bind (wpAny_bind (wpAny_onRaise (((c1 _ ?c1) k ys _ _ _ _ _ _ (x3 _ _ D.TOz.symm z2) (x3 _ _ D.TITO t2) rfl).2 ?ee ((((h2 (by omega)).extBut x1 D.i2z).at fun o e => k2 _ o D.i2z D.TIi2.symm D.i12.symm e).extBut x3 D.TOi2.symm)
        (((hl2.extBut x1 D.l2z).at fun o e => k2 _ o D.l2z hl2T D.l2i1 e).extBut x3 D.l2TO) |>.2.2 en er1 fun g4 z4 k4 => ?main)))
      case ee =>
        show ent ys.size k i2 = _
        unfold ent
        rw [if_neg (by omega)]
      case main =>
        refine wpAny_bind (wpAny_setField_rec z4 (by simp) fun g5 z5 s5 => ?_)
        refine wpAny_bind (hend g5 _ fun g6 e kk he => hE _ _ (fun c o n1 n2 n3 n4 n5 q => kk _ _ (s5.extBut _ _ n1 (k4 _ _ n1 n5 (x3 _ _ n3 (k2 _ _ n1 n2 n4 (x1 _ _ n1 q)))))) he)
      case c1 =>
        show ColT _ _ _ _ z TI TO i2 l2 1 d
        have hiz := D.i2z
        have hTi := D.TIi2
        clear hE
        intro k xs es f0 run E s Q hz hT hn
        refine ⟨fun e q => ?_, fun e hi hl => ⟨fun x hx q => ?_, fun hx hr q => ?_, fun hx hr q => ?_⟩⟩
        all_goals
          show wpAny _ _ (field (.ref z) 4 >>= _) _ _ s
          refine wpAny_bind (wpAny_field hz rfl (x := .ref TI) rfl ?_)
          refine wpAny_bind (zl_pool hT ?_)
          rw [e]
          refine wpAny_bind (wpAny_field hz rfl (x := d) rfl ?_)
        · rw [if_pos (show (Value.none == Value.none) = true from rfl)]
          exact wpAny_pure q
        all_goals rw [if_neg (fun e : (Value.ref _ == Value.none) = true => Bool.false_ne_true e)]
        · exact wpAny_bind (wpAny_onRaise (wpAny_pyNext_list_item hi hl hx fun h' a1 a2 => wpAny_pure (q h' a1 a2)))
        all_goals
          refine wpAny_bind (wpAny_onRaise (zl_end hh hi hl hx fun h' a1 a2 a3 => ?_))
          refine wpAny_bind (zl_pool (a1 _ _ hTi hT) ?_)
          rw [e, if_neg (fun e : (Value.ref _ == Value.none) = true => Bool.false_ne_true e)]
          refine wpAny_bind (zl_run (a1 _ _ hiz.symm hz) ?_)
          refine wpAny_bind (wpAny_setField_rec (a1 _ _ hiz.symm hz) (by simp) fun h'' b1 b2 => ?_)
          have x2 := b2.extBut
        · rw [if_neg (by rw [beq_iff_eq]; exact hr)]
          refine wpAny_bind (wpAny_rule ?_)
          refine wpAny_bind (zl_put (x2 _ _ D.TIz (a1 _ _ hTi hT)) hn fun h3 c1 c2 => ?_)
          refine wpAny_bind (wpAny_letGo (wpAny_pure ?_))
          have x3 := c2.extBut
          refine q h3 (x3 _ _ D.TIz.symm b1) c1 ((a2.at fun o e => x2 _ o hiz e).at fun o e => x3 _ o hTi.symm e) ?_ fun c o n1 n2 n3 e => x3 _ _ n2 (x2 _ _ n1 (a1 _ _ n3 e))
          have q1 : h''.objs.size = h'.objs.size := b2.1
          have q2 : h3.objs.size = h''.objs.size := c2.1
          omega
        · rw [if_pos (by rw [hr]; rfl)]
          subst hr
          exact wpAny_pure (q h'' b1 fun c o n1 n3 e => x2 _ _ n1 (a1 _ _ n3 e))
    case r0 =>
      unfold runAt
      repeat' split
      all_goals omega
    case c0 =>
      show ColT _ _ _ _ z TI TO i1 l1 0 d
      have hiz := D.i1z
      have hTi := D.TIi1
      clear hE
      intro k xs es f0 run E s Q hz hT hn
      refine ⟨fun e q => ?_, fun e hi hl => ⟨fun x hx q => ?_, fun hx hr q => ?_, fun hx hr q => ?_⟩⟩
      all_goals
        show wpAny _ _ (field (.ref z) 4 >>= _) _ _ s
        refine wpAny_bind (wpAny_field hz rfl (x := .ref TI) rfl ?_)
        refine wpAny_bind (zl_pool hT ?_)
        rw [e]
        refine wpAny_bind (wpAny_field hz rfl (x := d) rfl ?_)
      · rw [if_pos (show (Value.none == Value.none) = true from rfl)]
        exact wpAny_pure q
      all_goals rw [if_neg (fun e : (Value.ref _ == Value.none) = true => Bool.false_ne_true e)]
      · exact wpAny_bind (wpAny_onRaise (wpAny_pyNext_list_item hi hl hx fun h' a1 a2 => wpAny_pure (q h' a1 a2)))
      all_goals
        refine wpAny_bind (wpAny_onRaise (zl_end hh hi hl hx fun h' a1 a2 a3 => ?_))
        refine wpAny_bind (zl_pool (a1 _ _ hTi hT) ?_)
        rw [e, if_neg (fun e : (Value.ref _ == Value.none) = true => Bool.false_ne_true e)]
        refine wpAny_bind (zl_run (a1 _ _ hiz.symm hz) ?_)
        refine wpAny_bind (wpAny_setField_rec (a1 _ _ hiz.symm hz) (by simp) fun h'' b1 b2 => ?_)
        have x2 := b2.extBut
      · rw [if_neg (by rw [beq_iff_eq]; exact hr)]
        refine wpAny_bind (wpAny_rule ?_)
        refine wpAny_bind (zl_put (x2 _ _ D.TIz (a1 _ _ hTi hT)) hn fun h3 c1 c2 => ?_)
        refine wpAny_bind (wpAny_letGo (wpAny_pure ?_))
        have x3 := c2.extBut
        refine q h3 (x3 _ _ D.TIz.symm b1) c1 ((a2.at fun o e => x2 _ o hiz e).at fun o e => x3 _ o hTi.symm e) ?_ fun c o n1 n2 n3 e => x3 _ _ n2 (x2 _ _ n1 (a1 _ _ n3 e))
        have q1 : h''.objs.size = h'.objs.size := b2.1
        have q2 : h3.objs.size = h''.objs.size := c2.1
        omega
      · rw [if_pos (by rw [hr]; rfl)]
        subst hr
        exact wpAny_pure (q h'' b1 fun c o n1 n3 e => x2 _ _ n1 (a1 _ _ n3 e))
end
end ZL
namespace ZL
open PySem PySem.Spec PyProof.Rows
section
variable {prog : Program} {w : World} {A : Around} {E : Value → Shared → Prop} {s : Shared}
theorem zl_pyNext {z TI TO i1 i2 l1 l2 : Addr} {k : Nat} {d : Value} {xs ys : Array Value} {Q : Option Value → Shared → Prop} (hh : A.handled = none) (D : ZipApart z TI TO i1 i2 l1 l2) (hl1T : l1 ≠ TI) (hl2T : l2 ≠ TI)
    (S : ZSt z TI TO i1 i2 l1 l2 d xs.size ys.size k .none s.heap) (hl1 : s.heap.IsList l1 xs) (hl2 : s.heap.IsList l2 ys) (hk : k < xs.size ∨ k < ys.size)
    (hQ : ∀ h' (T : Addr), ZSt z TI TO i1 i2 l1 l2 d xs.size ys.size (k + 1) (rawInt T) h' → Tup h' T #[xs[k]?.getD d, ys[k]?.getD d] → s.heap.objs.size ≤ T →
      (∀ c o, c ≠ z → c ≠ TI → c ≠ TO → c ≠ i1 → c ≠ i2 → s.heap.get? c = some o → h'.get? c = some o) → Q (some (.ref T)) { s with heap := h' }) :
    wpAny (model prog w) A (pyNext (.ref z)) Q E s := by
  have hT : s.TypeIs (.ref z) "itertools.zip_longest" := ⟨_, S.1, rfl⟩
  have hh1 : A.in1.handled = none := hh
  unfold pyNext
  refine wpAny_bind (wpAny_attempt (wpAny_callSpecial?_slot (name := Str.ofString "__next__") hT zl_slot_next (wpAny_call_entry zl_slot_next hT zl_entry_next ?_ (zl_args_next _))))
  exact zl_next hh1 D hl1T hl2T S hl1 hl2 hk fun h' T a1 a2 a3 a4 => wpAny_pure (hQ h' T a1 a2 a3 a4)
theorem zl_pyStop {z TI TO i1 i2 l1 l2 : Addr} {k : Nat} {d : Value} {xs ys : Array Value} {Q : Option Value → Shared → Prop} (hh : A.handled = none) (D : ZipApart z TI TO i1 i2 l1 l2) (hl1T : l1 ≠ TI) (hl2T : l2 ≠ TI)
    (S : ZSt z TI TO i1 i2 l1 l2 d xs.size ys.size k .none s.heap) (hl1 : s.heap.IsList l1 xs) (hl2 : s.heap.IsList l2 ys) (hk : (k = xs.size ∧ ys.size ≤ k) ∨ (k = ys.size ∧ xs.size ≤ k))
    (hQ : ∀ h', (∀ c o, c ≠ z → c ≠ TI → c ≠ TO → c ≠ i1 → c ≠ i2 → s.heap.get? c = some o → h'.get? c = some o) → Q none { s with heap := h' }) :
    wpAny (model prog w) A (pyNext (.ref z)) Q E s := by
  have hT : s.TypeIs (.ref z) "itertools.zip_longest" := ⟨_, S.1, rfl⟩
  have hh1 : A.in1.handled = none := hh
  unfold pyNext
  refine wpAny_bind (wpAny_attempt (wpAny_callSpecial?_slot (name := Str.ofString "__next__") hT zl_slot_next (wpAny_call_entry zl_slot_next hT zl_entry_next ?_ (zl_args_next _))))
  refine zl_stop hh1 D hl1T hl2T S hl1 hl2 hk fun h' e kk he => ?_
  obtain ⟨o, ho, hc⟩ := he
  exact wpAny_bind (wpAny_isInstance (b := true) (T := "StopIteration") ⟨o, ho, hc⟩ isSubtype_stop (wpAny_pure (hQ _ kk)))
theorem zl_go {elts : List Expr} {x1 : Nat} {pos : Pos} {z TI TO T i1 i2 l1 l2 : Addr} {d : Value} {n m k : Nat} {Q : Unit → Shared → Prop} (D : ZipApart z TI TO i1 i2 l1 l2) (S : ZSt z TI TO i1 i2 l1 l2 d n m k (rawInt T) s.heap)
    (hQ : ∀ h', ZSt z TI TO i1 i2 l1 l2 d n m k .none h' → Heap.SameBut z s.heap h' → Q () { s with heap := h' }) : wpAny (model prog w) A (letOwnedTupleGo (.Tuple elts x1 pos) (.ref z) (.ref T)) Q E s := by
  obtain ⟨hz, hTI, ⟨a, b, hTO⟩, h1, h2, f1, f2⟩ := S
  unfold letOwnedTupleGo
  refine wpAny_bind (wpAny_load hz ?_)
  have e : (["enumerate", "zip", "dict_itemiterator", "dict_reverseitemiterator", "odict_iterator", "itertools.zip_longest", "itertools.pairwise"].contains "itertools.zip_longest" &&
    (#[rawInt T, .bool false, d, .int (runAt n m k) 0, .ref TI, .ref TO] : Array Value)[0]? == some (rawInt T)) = true := by simp
  show wpAny _ _ (if _ = true then _ else _) Q E s
  rw [if_pos e]
  refine wpAny_bind (wpAny_rule ?_)
  show wpAny _ _ (setField (.ref z) 0 .none) Q E s
  refine wpAny_setField_rec hz (by simp) fun h' z' s' => ?_
  have x := s'.extBut
  exact hQ h' ⟨z', x _ _ D.TIz hTI, ⟨a, b, x _ _ D.TOz hTO⟩, fun q => (h1 q).extBut x D.i1z, fun q => (h2 q).extBut x D.i2z, f1.at fun o e => x _ o D.i1z e, f2.at fun o e => x _ o D.i2z e⟩ s'
theorem zl_pyIter {z TI TO : Addr} {f0 d : Value} {run : Int} {Q : Value → Shared → Prop} (hz : IsZL s.heap z TI TO f0 d run) (q : Q (.ref z) s) : wpAny (model prog w) A (pyIter (.ref z)) Q E s := by
  have hT : s.TypeIs (.ref z) "itertools.zip_longest" := ⟨_, hz, rfl⟩
  refine wpAny_pyIter_slot hT zl_slot_iter (wpAny_call_entry zl_slot_iter hT zl_entry_iter ?_ (zl_args_iter _))
  show wpAny _ _ (ret (.ref z)) _ _ s
  exact wpAny_pure ⟨_, rfl, "itertools.zip_longest", _, hT, zl_slot_next.lookup, q⟩
end
abbrev zH1 (h : Heap) (l1 : Addr) : Heap := Heap.push h { cls := .type "list_iterator", data := .fields #[.ref l1, .int 0 0] }
abbrev zH2 (h : Heap) (l1 l2 : Addr) : Heap := Heap.push (zH1 h l1) { cls := .type "list_iterator", data := .fields #[.ref l2, .int 0 0] }
abbrev zH3 (h : Heap) (l1 l2 : Addr) : Heap := Heap.push (zH2 h l1 l2) { cls := .type "tuple", data := .seq #[.ref h.objs.size, .ref (zH1 h l1).objs.size] }
abbrev zH4 (h : Heap) (l1 l2 : Addr) : Heap := Heap.push (zH3 h l1 l2) { cls := .type "tuple", data := .seq #[.none, .none] }
abbrev zH5 (h : Heap) (l1 l2 : Addr) (d : Value) : Heap := Heap.push (zH4 h l1 l2) { cls := .type "itertools.zip_longest", data := .fields #[.none, .bool false, d, .int 2 0, .ref (zH2 h l1 l2).objs.size, .ref (zH3 h l1 l2).objs.size] }
theorem zl_new (l1 l2 : Addr) (xs ys : Array Value) (d : Value) : Meets (Builtin.«itertools.zip_longest.__new__» ⟨[.type "itertools.zip_longest", .ref l1, .ref l2], [(Str.ofString "fillvalue", d)]⟩)
    (fun _ R s => s.heap.IsList l1 xs ∧ s.heap.IsList l2 ys ∧ R (.ok (.ret (.ref (zH4 s.heap l1 l2).objs.size))) { s with heap := zH5 s.heap l1 l2 d }) :=
  .of_wp fun prog w A R s h => by
    obtain ⟨hp, g, dd, tk, os⟩ := s
    obtain ⟨hl1, hl2, h⟩ := h
    have es : ("itertools." ++ "zip_longest" : String) = "itertools.zip_longest" := by decide +kernel
    have hsub : isSubtype (.type "itertools.zip_longest") (.type ("itertools." ++ "zip_longest")) = pure true := by
      rw [es]
      exact zl_sub
    have hnd := zl_noDict
    have e1 : (Str.ofString "fillvalue" == ("fillvalue" : Str)) = true := by decide +kernel
    have hL1 : Heap.IsList (Shared.heap ⟨hp, g, dd, tk, os⟩) l1 xs := hl1
    have hL2 : Heap.IsList (Shared.heap ⟨zH1 hp l1, g, dd, tk, os⟩) l2 ys := Heap.IsList.push hl2 _
    wp_walk using wpAny_pyIter_list hL1, wpAny_pyIter_list hL2
    exact ⟨_, rfl, h⟩
end ZL
namespace ZL
open PySem PySem.Spec PyProof.Rows
section
variable {prog : Program} {w : World} {A : Around} {E : Value → Shared → Prop} {s : Shared}
theorem zl_call {l1 l2 : Addr} {xs ys : Array Value} {d : Value} {Q : Value → Shared → Prop} (hl1 : s.heap.IsList l1 xs) (hl2 : s.heap.IsList l2 ys)
    (h : ∀ h', ZSt (s.heap.objs.size + 4) (s.heap.objs.size + 2) (s.heap.objs.size + 3) s.heap.objs.size (s.heap.objs.size + 1) l1 l2 d xs.size ys.size 0 .none h' → h'.objs.size = s.heap.objs.size + 5 →
      (∀ c o, s.heap.get? c = some o → h'.get? c = some o) → Q (.ref (s.heap.objs.size + 4)) { s with heap := h' }) :
    wpAny (model prog w) A (call (.type "itertools.zip_longest") [.ref l1, .ref l2] [(Str.ofString "fillvalue", d)]) Q E s := by
  refine callType_newKw zl_called (by decide) (zl_typeCall _ _ _) (zl_newCall _ _ _) (fun o => zl_initArgs o _ _ _) zl_entry_new (zl_new l1 l2 xs ys d) ⟨hl1, hl2, ?_⟩
  have y1 : (zH1 s.heap l1).objs.size = s.heap.objs.size + 1 := Heap.size_push ..
  have y2 : (zH2 s.heap l1 l2).objs.size = s.heap.objs.size + 2 := by rw [Heap.size_push, y1]
  have y3 : (zH3 s.heap l1 l2).objs.size = s.heap.objs.size + 3 := by rw [Heap.size_push, y2]
  have y4 : (zH4 s.heap l1 l2).objs.size = s.heap.objs.size + 4 := by rw [Heap.size_push, y3]
  have y5 : (zH5 s.heap l1 l2 d).objs.size = s.heap.objs.size + 5 := by rw [Heap.size_push, y4]
  have u5 : (zH5 s.heap l1 l2 d).get? (zH4 s.heap l1 l2).objs.size = some _ := Heap.get?_push_size _ rfl
  have u4 : (zH5 s.heap l1 l2 d).get? (zH3 s.heap l1 l2).objs.size = some _ := Heap.get?_push_of_some _ (Heap.get?_push_size _ rfl)
  have u3 : (zH5 s.heap l1 l2 d).get? (zH2 s.heap l1 l2).objs.size = some _ := Heap.get?_push_of_some _ (Heap.get?_push_of_some _ (Heap.get?_push_size _ rfl))
  have u2 : (zH5 s.heap l1 l2 d).get? (zH1 s.heap l1).objs.size = some _ := Heap.get?_push_of_some _ (Heap.get?_push_of_some _ (Heap.get?_push_of_some _ (Heap.get?_push_size _ rfl)))
  have u1 : (zH5 s.heap l1 l2 d).get? s.heap.objs.size = some _ := Heap.get?_push_of_some _ (Heap.get?_push_of_some _ (Heap.get?_push_of_some _ (Heap.get?_push_of_some _ (Heap.get?_push_size _ rfl))))
  rw [y2, y3, y4] at u5
  rw [y1, y2] at u3
  rw [y3] at u4
  rw [y1] at u2
  show _ ∧ _
  rw [y4]
  refine ⟨⟨_, u5, rfl⟩, h _ ⟨?_, ?_, ⟨_, _, u4⟩, fun _ => ⟨_, u1, rfl, rfl⟩, fun _ => ⟨_, u2, rfl, rfl⟩, ⟨_, _, u1, rfl⟩, ⟨_, _, u2, rfl⟩⟩ y5 fun c o q =>
    Heap.get?_push_of_some _ (Heap.get?_push_of_some _ (Heap.get?_push_of_some _ (Heap.get?_push_of_some _ (Heap.get?_push_of_some _ q))))⟩
  · have er : runAt xs.size ys.size 0 = 2 := by
      unfold runAt
      rw [if_neg (by omega), if_neg (by omega)]
      rfl
    rw [er]
    exact u5
  · unfold ent
    rw [if_neg (by omega), if_neg (by omega)]
    exact u3
theorem callWith_tyKw {pos : Pos} {T : String} {env : Env} {e : Expr} {rest : List Expr} {kws : List Keyword} {M : Model} {Q : Value → Shared → Prop}
    (h : wpAny M A (spliced (backTo pos (starEach (e :: rest) env))) (fun vs s1 => wpAny M A (evalAll ((backToKw pos (keywordEach kws env)).map (·.2)))
      (fun ks s2 => wpAny M A (call (.type T) vs (((backToKw pos (keywordEach kws env)).filterMap (·.1)).zip ks)) Q E s2) E s1) E s)
    (he : backTo pos (starEach (e :: rest) env) = (false, eval e env) :: backTo pos (starEach rest env) := by rfl) (hp : (backTo pos (starEach (e :: rest) env)).any (·.1) = false := by rfl)
    (hall : (backToKw pos (keywordEach kws env)).all (·.1.isSome) = true := by rfl) (hn : (backToKw pos (keywordEach kws env)).any (·.1.isNone) = false := by rfl) :
    wpAny M A (callWith pos (.type T) [] (backTo pos (starEach (e :: rest) env)) (backToKw pos (keywordEach kws env))) Q E s := by
  have g : wpAny M A (evalArgs (.type T) true (backTo pos (starEach (e :: rest) env)) (backToKw pos (keywordEach kws env))) (fun a s1 => wpAny M A (call (.type T) ([] ++ a.pos) a.kw) Q E s1) E s := by
    rw [he] at h ⊢
    exact evalArgs_kwB hall h
  unfold callWith
  refine wpAny_bind (wpAny_holding (wpAny_mono g (fun a s1 q => wpAny_bind (wpAny_standAt ?_)) fun _ _ q => q))
  simp only [hn, hp, Bool.or_false]
  refine wpAny_bind (wpAny_pure ?_)
  exact wpAny_bind (wpAny_mono q (fun r s2 q2 => wpAny_bind (wpAny_holding (wpAny_point (wpAny_pure q2)))) fun _ _ q => q)
end
end ZL
namespace L2
open PySem PySem.Spec PyProof.Rows ZL
theorem relV_getD {xs : List V} {us : List Value} {d : V} {u : Value} (r : Vals xs us) (rd : RelV d u) (i : Nat) : RelV (xs[i]?.getD d) (us.toArray[i]?.getD u) := by
  cases e : xs[i]? with
  | none =>
    have hn : us.toArray[i]? = none := by
      have hl := r.length
      have := List.getElem?_eq_none_iff.mp e
      simp
      omega
    rw [hn]
    exact rd
  | some x =>
    obtain ⟨v, hv, rv⟩ := r.get e
    have hv' : us.toArray[i]? = some v := by simpa using hv
    rw [hv']
    exact rv
/-- two lists at a and b, as they stand, side by side, d in the place of what is wanting -/
def ItLg (K : PySem.W.Frag) (a b : Addr) (d : V) (n m : Nat) : It where
  go := fun i H => ∃ xs ys : List V, SqL K H a xs ∧ SqL K H b ys ∧ xs.length = n ∧ ys.length = m ∧ (i < n ∨ i < m)
  yld := fun i H v H' => ∃ (T : Addr) (x y : V), v = .ref T ∧ H T = none ∧ H' = upd H T (.tup [x, y]) ∧ (∀ xs, SqL K H a xs → x = xs[i]?.getD d) ∧ ∀ ys, SqL K H b ys → y = ys[i]?.getD d
  stop := fun i H => ∃ xs ys : List V, SqL K H a xs ∧ SqL K H b ys ∧ xs.length = n ∧ ys.length = m ∧ ((i = n ∧ m ≤ i) ∨ (i = m ∧ n ≤ i))
theorem turn_zipL {P : Program} {w : World} {K : PySem.W.Frag} {elts : List Expr} {kk : Nat} {tpos : Pos} {a b z TI TO i1 i2 : Addr} {d : V} {u : Value} {n m : Nat} (D : ZipApart z TI TO i1 i2 a b) (haT : a ≠ TI) (hbT : b ≠ TI) (rd : RelV d u) :
    Turn P w K (.Tuple elts kk tpos) (ItLg K a b d n m) [z, TI, TO, i1, i2] z (fun i h => ZSt z TI TO i1 i2 a b u n m i .none h) where
  mem := by simp
  obj := fun i h st c hc => by
    obtain ⟨hz, hTI, ⟨x, y, hTO⟩, _, _, ⟨o1, v1, e1, d1⟩, o2, v2, e2, d2⟩ := st
    have e' : c = z ∨ c = TI ∨ c = TO ∨ c = i1 ∨ c = i2 := by simpa using hc
    rcases e' with q | q | q | q | q <;> rw [q]
    · exact ⟨_, hz, fun v q => nomatch q⟩
    · exact ⟨_, hTI, fun v q => nomatch q⟩
    · exact ⟨_, hTO, fun v q => nomatch q⟩
    · exact ⟨o1, e1, fun v q => by rw [d1] at q; cases q⟩
    · exact ⟨o2, e2, fun v q => by rw [d2] at q; cases q⟩
  keep := fun i h h' st k => by
    obtain ⟨hz, hTI, ⟨x, y, hTO⟩, h1, h2, f1, f2⟩ := st
    exact ⟨k z (by simp) _ hz, k TI (by simp) _ hTI, ⟨x, y, k TO (by simp) _ hTO⟩, fun q => (h1 q).at fun o e => k i1 (by simp) o e, fun q => (h2 q).at fun o e => k i2 (by simp) o e, f1.at fun o e => k i1 (by simp) o e, f2.at fun o e => k i2 (by simp) o e⟩
  item := by
    intro X hP hw hK hc i pins s σ H E I hf st hg
    subst hP hw hK
    obtain ⟨xs, ys, hqx, hqy, en, em, hk⟩ := hg
    obtain ⟨its, rv, p, _⟩ := I.list hqx
    obtain ⟨its2, rv2, p2, _⟩ := I.list hqy
    have en' : its.toArray.size = n := by
      have := rv.length
      simp
      omega
    have em' : its2.toArray.size = m := by
      have := rv2.length
      simp
      omega
    obtain ⟨hz, hTI, ⟨x0, y0, hTO⟩, h1, h2, ⟨o1, v1, e1, d1⟩, o2, v2, e2, d2⟩ := id st
    have hzl : z < s.heap.objs.size := Heap.lt_size hz
    rw [← en', ← em'] at st hk
    refine zl_pyNext (I.ok.hd hc) D haT hbT st p.isList p2.isList hk fun h' T S' hT hle kp => ?_
    refine ⟨_, rfl, zl_go D S' (s := { s with heap := h' }) fun h'' S2 sb => ?_⟩
    have hTz : T ≠ z := Nat.ne_of_gt (Nat.lt_of_lt_of_le hzl hle)
    have hT2 : h''.get? T = some { cls := .type "tuple", data := .seq #[its.toArray[i]?.getD u, its2.toArray[i]?.getD u] } := (sb.2 _ hTz).trans hT
    have new : ObjOk X.prog X.w (upd H T (.tup [xs[i]?.getD d, ys[i]?.getD d])) h'' T (.tup [xs[i]?.getD d, ys[i]?.getD d]) :=
      ⟨by show 2 ≤ sizeLine; decide, [its.toArray[i]?.getD u, its2.toArray[i]?.getD u], .cons (relV_getD rv rd i) (.cons (relV_getD rv2 rd i) .nil), ⟨_, hT2, rfl, _, rfl⟩⟩
    have I1 : Inv X pins σ (upd H T (.tup [xs[i]?.getD d, ys[i]?.getD d])) { s with heap := h'' } :=
      I.turnedNew (ch := [z, TI, TO, i1, i2]) (t' := s.toks) (fun c o hb q => (sb.2 c (fun e => hb (by simp [e]))).trans (kp c o (fun e => hb (by simp [e])) (fun e => hb (by simp [e])) (fun e => hb (by simp [e])) (fun e => hb (by simp [e])) (fun e => hb (by simp [e])) q)) hf hle new
    rw [en', em'] at S2
    refine ⟨.ref T, _, I1, rfl, ⟨T, _, _, rfl, I.hok.fresh hle, rfl, fun l hl => by rw [I.list_inj hl hqx], fun l hl => by rw [I.list_inj hl hqy]⟩, S2, fun c hcm => ?_⟩
    have hlt : c < s.heap.objs.size := by
      have e' : c = z ∨ c = TI ∨ c = TO ∨ c = i1 ∨ c = i2 := by simpa using hcm
      rcases e' with q | q | q | q | q <;> rw [q]
      · exact hzl
      · exact Heap.lt_size hTI
      · exact Heap.lt_size hTO
      · exact Heap.lt_size e1
      · exact Heap.lt_size e2
    rw [upd_ne (Nat.ne_of_lt (Nat.lt_of_lt_of_le hlt hle))]
    exact (hf c hcm).1
  done := by
    intro X hP hw hK hc i pins s σ H E I hf st hg
    subst hP hw hK
    obtain ⟨xs, ys, hqx, hqy, en, em, hk⟩ := hg
    obtain ⟨its, rv, p, _⟩ := I.list hqx
    obtain ⟨its2, rv2, p2, _⟩ := I.list hqy
    have en' : its.toArray.size = n := by
      have := rv.length
      simp
      omega
    have em' : its2.toArray.size = m := by
      have := rv2.length
      simp
      omega
    rw [← en', ← em'] at st hk
    exact zl_pyStop (I.ok.hd hc) D haT hbT st p.isList p2.isList hk fun h' kp => ⟨rfl, I.turnedL (ch := [z, TI, TO, i1, i2]) (t' := s.toks)
      (fun c o hb q => kp c o (fun e => hb (by simp [e])) (fun e => hb (by simp [e])) (fun e => hb (by simp [e])) (fun e => hb (by simp [e])) (fun e => hb (by simp [e])) q) hf⟩
  self := fun A i s Q E st h => zl_pyIter st.1 h
def iZipL (K : PySem.W.Frag) (ta tk : TA) : TI := fun σ H R => ta σ H fun vs H1 => tk σ H1 fun zs H2 => ∃ (a b : Addr) (xs ys : List V) (d : V), vs = [.ref a, .ref b] ∧ zs = [d] ∧ SqL K H2 a xs ∧ SqL K H2 b ys ∧ R (ItLg K a b d xs.length ys.length) H2
theorem pi_zipL {X : Cx} {e e2 : Expr} {kws : List Keyword} {ta tk : TA} {p pos tpos : Pos} {elts : List Expr} {kk : Nat} (hg : Gl X "zip_longest") (hm : X.mg "zip_longest" = some (.type "itertools.zip_longest")) (ha : PA X [e, e2] ta) (hk : PK X kws tk)
    (he : backTo pos (starEach [e, e2] X.env) = (false, eval e X.env) :: backTo pos (starEach [e2] X.env) := by rfl) (hp : (backTo pos (starEach [e, e2] X.env)).any (·.1) = false := by rfl)
    (hall : (backToKw pos (keywordEach kws X.env)).all (·.1.isSome) = true := by rfl) (hn : (backToKw pos (keywordEach kws X.env)).any (·.1.isNone) = false := by rfl) (hks : (backToKw pos (keywordEach kws X.env)).filterMap (·.1) = [Str.ofString "fillvalue"] := by rfl) :
    PI X (.Tuple elts kk tpos) (.Call (.Name "zip_longest" p) [e, e2] kws pos) (iZipL X.K ta tk) := by
  refine ⟨fun pins s σ H R I h => ?_⟩
  refine wpAny_Call_Name_kw (ld_glob I hg hm ?_)
  refine callWith_tyKw (thn (ha.run pos pins s σ H _ I h) fun us s1 ⟨vs, H1, I1, r1, q1⟩ => thn (hk.run pos pins s1 σ H1 _ I1 q1) fun ws s2 ⟨zs, H2, I2, r2, q2⟩ => ?_) he hp hall hn
  rw [hks]
  obtain ⟨a, b, xs, ys, d, rfl, rfl, hqx, hqy, q⟩ := q2
  cases r1 with
  | cons r rr =>
    cases rr with
    | cons r' rr =>
      cases rr
      cases r
      cases r'
      cases r2 with
      | cons rd rz =>
        cases rz
        obtain ⟨its, rv, p1, _⟩ := I2.list hqx
        obtain ⟨its2, rv2, p2, _⟩ := I2.list hqy
        have la : a < s2.heap.objs.size := p1.lt
        have lb : b < s2.heap.objs.size := p2.lt
        refine zl_call p1.isList p2.isList fun h' S hsz hkp => zl_pyIter S.1 ?_
        have I3 : Inv X pins σ H2 { s2 with heap := h' } := I2.kept (t' := s2.toks) hkp
        have en' : its.toArray.size = xs.length := by
          have := rv.length
          simp
          omega
        have em' : its2.toArray.size = ys.length := by
          have := rv2.length
          simp
          omega
        rw [en', em'] at S
        refine ⟨s2.heap.objs.size + 4, [s2.heap.objs.size + 4, s2.heap.objs.size + 2, s2.heap.objs.size + 3, s2.heap.objs.size, s2.heap.objs.size + 1], _, _, H2, rfl, I3, turn_zipL (PySem.W.ktu_apart s2.heap.objs.size a b la lb) (Nat.ne_of_lt (Nat.lt_of_lt_of_le la (Nat.le_add_right _ _))) (Nat.ne_of_lt (Nat.lt_of_lt_of_le lb (Nat.le_add_right _ _))) rd, S, fun c hcm => ?_, q⟩
        have hle : s2.heap.objs.size ≤ c := by
          have e' : c = s2.heap.objs.size + 4 ∨ c = s2.heap.objs.size + 2 ∨ c = s2.heap.objs.size + 3 ∨ c = s2.heap.objs.size ∨ c = s2.heap.objs.size + 1 := by simpa using hcm
          rcases e' with q | q | q | q | q <;> rw [q]
          all_goals first | exact Nat.le_add_right _ _ | exact Nat.le_refl _
        exact I2.fpOk hle (I2.hok.fresh hle)
end L2
/-! ## enumerate and zip_longest: loops and comprehensions whose target is a pair of names -/
namespace XP
open PySem PySem.Spec PyProof.Rows L2 Evl
abbrev g2n (K : PySem.W.Frag) (j k : Nat) : TG := gTup K 2 (gCons (gName j) (gCons (gName k) gNil))
theorem g2_at {K : PySem.W.Frag} {j k : Nat} {T : Addr} {x y : V} {σ : L2.St} {H : Hp} {Q : L2.St → Hp → Prop} (h : H T = some (.tup [x, y])) (q : Q ((σ.set j (some x)).set k (some y)) H) : g2n K j k (.ref T) σ H Q :=
  ⟨T, [x, y], rfl, st_of h, rfl, x, [y], rfl, y, [], rfl, rfl, q⟩
theorem cw_more {H H' H2 : Hp} {f : Nat → Bool} {v : Nat → V} {Dl : Addr} {i : Nat} (p : Cw H f v Dl i H') (e : Ex H' H2) : Cw H f v Dl i H2 := ⟨p.1, p.2.1.trans e, e _ _ p.2.2⟩
/-- over an iterator of new pairs -/
theorem lc_pair {K : PySem.W.Frag} {J : It} {n j k : Nat} {u v val : Nat → V} {f : Nat → Bool} {t : TT} {te : TE} {vs : List Nat} {σ : L2.St} {H1 : Hp} {Dl : Addr} {Qd : Hp → Prop} (hgo : ∀ i H, i < n → Ex H1 H → J.go i H) (hstop : ∀ H, Ex H1 H → J.stop n H)
    (hy : ∀ i H x H', i < n → Ex H1 H → J.yld i H x H' → ∃ T : Addr, x = .ref T ∧ H T = none ∧ H' = upd H T (.tup [u i, v i])) (hn : n ≤ 40000) (hw : ∀ x y, wipe (((wipe σ vs).set j (some x)).set k (some y)) vs = wipe σ vs)
    (ht : ∀ i H2, i < n → Ex H1 H2 → EvT t (((wipe σ vs).set j (some (u i))).set k (some (v i))) H2 (f i)) (he : ∀ i H2, i < n → Ex H1 H2 → f i = true → Ev te (((wipe σ vs).set j (some (u i))).set k (some (v i))) H2 (val i)) (hD : H1 Dl = none)
    (hd : ∀ H, Cw H1 f val Dl n H → Qd H) : ∃ W : Nat → Nat → Hp → Prop, (∃ m, W 0 m (upd H1 Dl (.lst []))) ∧ ∀ i m H, W i m H →
      (J.stop i H ∧ Qd H) ∨ (J.go i H ∧ ∃ Nx : Hp → Prop, (∀ H', Nx H' → ∃ m', m' < m ∧ W (i + 1) m' H') ∧ ∀ x H', J.yld i H x H' → g2n K j k x (wipe σ vs) H' fun σ2 H2 => wipe σ2 vs = wipe σ vs ∧ t σ2 H2 fun b H3 =>
        if b = true then te σ2 H3 fun y H4 => ∃ acc, H4 Dl = some (.lst acc) ∧ acc.length < sizeLine ∧ Nx (upd H4 Dl (.lst (acc ++ [y]))) else Nx H3) := by
  refine ⟨fun i m H => m = n - i ∧ i ≤ n ∧ Cw H1 f val Dl i H, ⟨n, rfl, Nat.zero_le _, hD, Ex.new hD, upd_same⟩, ?_⟩
  rintro i m H ⟨rfl, hi, p⟩
  by_cases hlt : i < n
  · refine .inr ⟨hgo i H hlt p.2.1, Cw H1 f val Dl (i + 1), fun H' p' => ⟨n - (i + 1), by omega, rfl, hlt, p'⟩, fun x H' y => ?_⟩
    obtain ⟨T, rfl, hT, rfl⟩ := hy i H x H' hlt p.2.1 y
    exact g2_at upd_same ⟨hw _ _, cw_turn (cw_more p (Ex.new hT)) (by omega) (ht i H1 hlt (Ex.refl H1)) (he i H1 hlt (Ex.refl H1))⟩
  · obtain rfl : i = n := by omega
    exact .inl ⟨hstop H p.2.1, hd H p⟩
section
variable {K : PySem.W.Frag} {σ : L2.St} {H : Hp} {ta tb te : TE} {t : TT} {a b : Addr} {xs ys : List V} {d : V} {j k : Nat} {vs : List Nat} {D : Ends} {tu tz : TS}
/-- [.. for x, y in zip_longest(xs, ys, fillvalue=d)] -/
theorem el_lcZ {t1 t2 : TA} (f : Nat → Bool) (val : Nat → V) (h1 : EvA t1 σ H [.ref a, .ref b]) (h2 : EvA t2 σ H [d]) (hx : SqL K H a xs) (hy : SqL K H b ys) (hn : xs.length ≤ 40000 ∧ ys.length ≤ 40000) (hw : ∀ x y, wipe (((wipe σ vs).set j (some x)).set k (some y)) vs = wipe σ vs)
    (ht : ∀ i H2, i < max xs.length ys.length → Ex H H2 → EvT t (((wipe σ vs).set j (some (xs[i]?.getD d))).set k (some (ys[i]?.getD d))) H2 (f i))
    (he : ∀ i H2, i < max xs.length ys.length → Ex H H2 → f i = true → Ev te (((wipe σ vs).set j (some (xs[i]?.getD d))).set k (some (ys[i]?.getD d))) H2 (val i)) :
    EvL (tLc (iZipL K t1 t2) (g2n K j k) t te vs) σ H (given (max xs.length ys.length) f val) := fun H0 e Q q =>
  h1 H0 e _ fun H1 e1 => h2 H1 (e.trans e1) _ fun H2 e2 => by
    have e02 := e.trans (e1.trans e2)
    refine ⟨a, b, xs, ys, d, rfl, rfl, ex_l e02 hx, ex_l e02 hy, fun Dl hD => ?_⟩
    refine lc_pair (n := max xs.length ys.length) (u := fun i => xs[i]?.getD d) (v := fun i => ys[i]?.getD d) (f := f) (val := val) (fun i H3 hi e3 => ⟨xs, ys, ex_l (e02.trans e3) hx, ex_l (e02.trans e3) hy, rfl, rfl, by omega⟩) (fun H3 e3 => ⟨xs, ys, ex_l (e02.trans e3) hx, ex_l (e02.trans e3) hy, rfl, rfl, by omega⟩)
      (fun i H3 x H4 hi e3 y => ?_) (by omega) hw (fun i H3 hi e3 => ht i H3 hi (e02.trans e3)) (fun i H3 hi e3 => he i H3 hi (e02.trans e3)) hD (fun H3 p => q Dl H3 (fresh_back (e1.trans e2) p.1) ((e1.trans e2).trans p.2.1) p.2.2)
    obtain ⟨T, x', y', rfl, hT, rfl, k1, k2⟩ := y
    exact ⟨T, rfl, hT, by rw [k1 xs (ex_l (e02.trans e3) hx), k2 ys (ex_l (e02.trans e3) hy)]⟩
theorem sq_len {K : PySem.W.Frag} {H : Hp} {a : Addr} {xs : List V} : xs.length = xs.length := rfl
/-- [.. for i, x in enumerate(xs)] -/
theorem el_lcE {t1 : TA} (f : Nat → Bool) (val : Nat → V) (h1 : EvA t1 σ H [.ref a]) (hx : SqL K H a xs) (hn : xs.length ≤ 40000) (hw : ∀ x y, wipe (((wipe σ vs).set j (some x)).set k (some y)) vs = wipe σ vs)
    (ht : ∀ i z H2, xs[i]? = some z → Ex H H2 → EvT t (((wipe σ vs).set j (some (.int (i : Nat)))).set k (some z)) H2 (f i))
    (he : ∀ i z H2, xs[i]? = some z → Ex H H2 → f i = true → Ev te (((wipe σ vs).set j (some (.int (i : Nat)))).set k (some z)) H2 (val i)) :
    EvL (tLc (iEnum K t1) (g2n K j k) t te vs) σ H (given xs.length f val) := fun H0 e Q q =>
  h1 H0 e _ fun H1 e1 => by
    have e01 := e.trans e1
    refine ⟨a, xs, rfl, ex_l e01 hx, fun Dl hD => ?_⟩
    have at' : ∀ i, i < xs.length → xs[i]? = some (xs[i]?.getD .non) := fun i hi => by rw [List.getElem?_eq_getElem hi]; rfl
    refine lc_pair (n := xs.length) (u := fun i => .int (i : Nat)) (v := fun i => xs[i]?.getD .non) (f := f) (val := val) (fun i H3 hi e3 => ⟨xs, _, ex_l (e01.trans e3) hx, at' i hi⟩) (fun H3 e3 => ⟨xs, ex_l (e01.trans e3) hx, Nat.le_refl _⟩)
      (fun i H3 x H4 hi e3 y => ?_) hn hw (fun i H3 hi e3 => ht i _ H3 (at' i hi) (e01.trans e3)) (fun i H3 hi e3 => he i _ H3 (at' i hi) (e01.trans e3)) hD (fun H3 p => q Dl H3 (fresh_back e1 p.1) (e1.trans p.2.1) p.2.2)
    obtain ⟨T, x', rfl, hT, rfl, k1⟩ := y
    exact ⟨T, rfl, hT, by rw [k1 xs (ex_l (e01.trans e3) hx)]; rfl⟩
/-- for i, x in enumerate(xs) -/
theorem for_enum {Pv : Nat → L2.St → Hp → Prop} (h0 : Pv 0 σ H) (hl : ∀ i σ' H', i ≤ xs.length → Pv i σ' H' → SqL K H' a xs)
    (hs : ∀ i x T σ' H', xs[i]? = some x → Pv i σ' H' → H' T = none → tu { D with nx := Pv (i + 1), ct := Pv (i + 1), bk := D.nx } ((σ'.set j (some (.int (i : Nat)))).set k (some x)) (upd H' T (.tup [.int (i : Nat), x]))) (hd : ∀ σ' H', Pv xs.length σ' H' → D.nx σ' H') :
    ∃ W : Nat → Nat → L2.St → Hp → Prop, (∃ m, W 0 m σ H) ∧ ∀ i m σ H, W i m σ H →
      ((Ite K a).stop i H ∧ D.nx σ H) ∨ ((Ite K a).go i H ∧ ∃ N : L2.St → Hp → Prop, (∀ σ' H', N σ' H' → ∃ m', m' < m ∧ W (i + 1) m' σ' H') ∧ ∀ x H', (Ite K a).yld i H x H' → g2n K j k x σ H' fun σ2 H2 => tu { D with nx := N, ct := N, bk := D.nx } σ2 H2) := by
  refine ⟨fun i m σ H => m = xs.length - i ∧ i ≤ xs.length ∧ Pv i σ H, ⟨xs.length, rfl, Nat.zero_le _, h0⟩, ?_⟩
  rintro i m σ H ⟨rfl, hi, p⟩
  have q := hl i σ H hi p
  by_cases hlt : i < xs.length
  · refine .inr ⟨⟨xs, xs[i], q, by simp [hlt]⟩, Pv (i + 1), fun σ' H' p' => ⟨xs.length - (i + 1), by omega, rfl, hlt, p'⟩, fun x H' y => ?_⟩
    obtain ⟨T, z, rfl, hT, rfl, k1⟩ := y
    exact g2_at upd_same (hs i z T σ H (k1 xs q) p hT)
  · obtain rfl : i = xs.length := by omega
    exact .inl ⟨⟨xs, q, Nat.le_refl _⟩, hd σ H p⟩
/-- for i, x in enumerate(..), the list new -/
theorem q_forEN {Pv : Addr → Nat → L2.St → Hp → Prop} (h : EvL te σ H xs) (h0 : ∀ p H1, H p = none → Ex H H1 → H1 p = some (.lst xs) → Pv p 0 σ H1) (hl : ∀ p i σ' H', i ≤ xs.length → Pv p i σ' H' → SqL K H' p xs)
    (hs : ∀ p i x σ' H' H2, xs[i]? = some x → Pv p i σ' H' → Ex H' H2 → tu { D with nx := Pv p (i + 1), ct := Pv p (i + 1), bk := tz D } ((σ'.set j (some (.int (i : Nat)))).set k (some x)) H2) (hd : ∀ p σ' H', Pv p xs.length σ' H' → tz D σ' H') :
    tSeq (tFor (iEnum K (tCons te tNil)) (g2n K j k) tu) tz D σ H := h H (Ex.refl H) _ fun p H1 hp e h1 =>
  ⟨p, xs, rfl, sq_of h1, for_enum (D := { D with nx := tz D }) (Pv := Pv p) (h0 p H1 hp e h1) (hl p) (fun i x T σ' H' hx pv hT => hs p i x σ' H' _ hx pv (Ex.new hT)) (hd p)⟩
end
end XP
/-! ## Lists of lists, tuples of a text and a plain value; more words -/
namespace XP
open PySem PySem.Spec PyProof.Rows L2 Evl
def ldat (xs : List Int) : PyData := .list (xs.map PyData.int)
theorem ldat_depths : ∀ xss : List (List Int), PyData.depthAll (xss.map ldat) ≤ 1
  | [] => by simp [PyData.depthAll]
  | xs :: r => by
    have ih := ldat_depths r
    simp only [List.map_cons, PyData.depthAll, ldat, PyData.depth, PySem.W.ke_depthAll]
    omega
theorem ldat_lays : ∀ xss : List (List Int), PyData.canLayAll0 (xss.map ldat) = true
  | [] => by simp [PyData.canLayAll0]
  | xs :: r => by simp [PyData.canLayAll0, PyData.canLay0, ldat, PySem.W.ke_canLayAll0, ldat_lays r]
theorem shaped_lls (xss : List (List Int)) : SeqAt.shaped (.list (xss.map ldat)) = true := by
  have h := ldat_depths xss
  have h2 := ldat_lays xss
  simp only [SeqAt.shaped, PyData.canLay0, PyData.depth, h2, Bool.true_and, decide_eq_true_eq]
  exact decide_eq_true (Nat.le_trans (Nat.succ_le_succ h) (show 2 ≤ 64 by decide))
theorem eqvAll_lls : ∀ xss yss : List (List Int), PyData.eqvAll (xss.map ldat) (yss.map ldat) = decide (xss = yss)
  | [], [] => by simp [PyData.eqvAll]
  | [], _ :: _ => by simp [PyData.eqvAll]
  | _ :: _, [] => by simp [PyData.eqvAll]
  | xs :: r, ys :: t => by
    show (PyData.eqv (ldat xs) (ldat ys) && PyData.eqvAll (r.map ldat) (t.map ldat)) = _
    rw [eqvAll_lls r t]
    unfold ldat
    rw [eqv_ints, Bool.eq_iff_iff]
    simp
theorem eqv_lls (xss yss : List (List Int)) : PyData.eqv (.list (xss.map ldat)) (.list (yss.map ldat)) = decide (xss = yss) := by
  simp only [PyData.eqv]
  exact eqvAll_lls xss yss
/-- lists of whole numbers stand at the places zs -/
inductive Lls (H : Hp) : List V → List (List Int) → Prop
  | nil : Lls H [] []
  | cons {p : Addr} {xs : List Int} {zs : List V} {xss : List (List Int)} : Ll H p xs → Lls H zs xss → Lls H (.ref p :: zs) (xs :: xss)
theorem Lls.mono {H H' : Hp} (e : Ex H H') : ∀ {zs : List V} {xss : List (List Int)}, Lls H zs xss → Lls H' zs xss
  | _, _, .nil => .nil
  | _, _, .cons h r => .cons (e _ _ h) (r.mono e)
theorem Lls.dp {K : PySem.W.Frag} {H : Hp} : ∀ {zs : List V} {xss : List (List Int)}, Lls H zs xss → DpAll K H zs (xss.map ldat)
  | _, _, .nil => .nil
  | _, _, .cons h r => .cons (dp_ints h.sq) r.dp
theorem Lls.len {H : Hp} : ∀ {zs : List V} {xss : List (List Int)}, Lls H zs xss → zs.length = xss.length
  | _, _, .nil => rfl
  | _, _, .cons _ r => congrArg (· + 1) r.len
/-- a plain value -/
def scD : V → Option PyData
  | .non => some .none
  | .bl b => some (.bool b)
  | .int i => some (.int i)
  | _ => none
theorem sc_dp {K : PySem.W.Frag} {H : Hp} {x : V} {d : PyData} (h : scD x = some d) : Dp K H x d := by
  cases x <;> cases h
  all_goals first | exact .non | exact .bl _ | exact .int _
theorem sc_ok {x : V} {d : PyData} (h : scD x = some d) : PyData.canLay0 d = true ∧ PyData.depth d = 0 ∧ PyData.eqv d d = true := by
  cases x <;> cases h <;> simp [PyData.canLay0, PyData.depth, PyData.eqv]
section
variable {K : PySem.W.Frag} {σ : L2.St} {H H' : Hp} {ta tb te : TE} {t : TT} {x y z v : V} {r : R2} {a b p : Addr} {D : Ends} {tz : TS}
theorem rv_neLL {zs ws : List V} {xss yss : List (List Int)} (h1 : SqL K H a zs) (h2 : Lls H zs xss) (h3 : SqL K H b ws) (h4 : Lls H ws yss) : RV (rNeD K) (.ref a) (.ref b) H (.bl (!decide (xss = yss))) := fun H1 e Q q =>
  ⟨_, _, .lst (ex_l e h1) (h2.mono e).dp, .lst (ex_l e h3) (h4.mono e).dp, shaped_lls xss, shaped_lls yss, by rw [eqv_lls]; exact q H1 (Ex.refl H1)⟩
theorem rv_eqLL {zs ws : List V} {xss yss : List (List Int)} (h1 : SqL K H a zs) (h2 : Lls H zs xss) (h3 : SqL K H b ws) (h4 : Lls H ws yss) : RV (rEqD K) (.ref a) (.ref b) H (.bl (decide (xss = yss))) := fun H1 e Q q =>
  ⟨_, _, .lst (ex_l e h1) (h2.mono e).dp, .lst (ex_l e h3) (h4.mono e).dp, shaped_lls xss, shaped_lls yss, by rw [eqv_lls]; exact q H1 (Ex.refl H1)⟩
/-- (text, plain value) against its like -/
theorem rv_neTV {t u : Addr} {s : Str} {d : PyData} (h1 : H t = some (.tup [.str s, x])) (h2 : H u = some (.tup [.str s, x])) (hs : PyData.strOk s = true) (hx : scD x = some d) : RV (rNeD K) (.ref t) (.ref u) H (.bl false) := fun H1 e Q q => by
  obtain ⟨k1, k2, k3⟩ := sc_ok hx
  have sh : SeqAt.shaped (.tuple [.str s, d]) = true := by
    unfold SeqAt.shaped
    simp [PyData.canLay0, PyData.canLayAll0, PyData.depth, PyData.depthAll, hs, k1, k2]
  have eq1 : PyData.eqv (.tuple [.str s, d]) (.tuple [.str s, d]) = true := by simp [PyData.eqv, PyData.eqvAll, k3]
  refine ⟨.tuple [.str s, d], .tuple [.str s, d], .tup (st_of (e _ _ h1)) (.cons (.str s) (.cons (sc_dp hx) .nil)), .tup (st_of (e _ _ h2)) (.cons (.str s) (.cons (sc_dp hx) .nil)), sh, sh, ?_⟩
  rw [eq1]
  exact q H1 (Ex.refl H1)
/-- the second operand by what is known of it -/
theorem ev_opP {P : V → Hp → Prop} (ha : Ev ta σ H x) (hb : EvP tb σ H P) (hr : ∀ w H1, Ex H H1 → P w H1 → RV r x w H1 z) : Ev (tOp r ta tb) σ H z := fun H1 e Q q =>
  ha H1 e _ fun H2 e2 => hb H2 (e.trans e2) _ fun w H3 e3 p => hr w H3 ((e.trans e2).trans e3) p H3 (Ex.refl H3) Q fun H4 e4 => q H4 ((e2.trans e3).trans e4)
/-- a choice between two new lists of the same items -/
theorem el_if {c : Bool} {zs : List V} (h : EvT t σ H c) (h1 : c = true → EvL ta σ H zs) (h2 : c = false → EvL tb σ H zs) : EvL (tIf t ta tb) σ H zs := fun H1 e Q q => h H1 e _ fun H2 e2 => by
  cases c with
  | true => exact h1 rfl H2 (e.trans e2) Q fun p H3 hp e3 h3 => q p H3 (fresh_back e2 hp) (e2.trans e3) h3
  | false => exact h2 rfl H2 (e.trans e2) Q fun p H3 hp e3 h3 => q p H3 (fresh_back e2 hp) (e2.trans e3) h3
theorem eap_consU {tr : TA} {P : List V → Hp → Prop} {zs : List V} (h : EvU te σ H zs) (hr : EvAP tr σ H P) : EvAP (tCons te tr) σ H (fun vs H' => ∃ p us, vs = .ref p :: us ∧ H p = none ∧ H' p = some (.tup zs) ∧ P us H') := fun H1 e _ q =>
  h H1 e _ fun p H2 np e2 hp => hr H2 (e.trans e2) _ fun us H3 e3 hP => q _ H3 (e2.trans e3) ⟨p, us, rfl, fresh_back e np, e3 _ _ hp, hP⟩
theorem mono_consU {P : List V → Hp → Prop} {zs : List V} (h : Mono P) : Mono (fun (vs : List V) (H' : Hp) => ∃ p us, vs = .ref p :: us ∧ H p = none ∧ H' p = some (.tup zs) ∧ P us H') := fun _ _ _ e ⟨p, us, h1, h2, h3, h4⟩ => ⟨p, us, h1, h2, e _ _ h3, h _ _ _ e h4⟩
/-- x, y = what a call hands back -/
theorem q_asg2 {j k : Nat} {P : V → Hp → Prop} (h : EvP te σ H P) (hk : ∀ v H1, Ex H H1 → P v H1 → ∃ (T : Addr) (x y : V), v = .ref T ∧ H1 T = some (.tup [x, y]) ∧ tz D ((σ.set j (some x)).set k (some y)) H1) : tSeq (tAsg te (g2n K j k)) tz D σ H :=
  h H (Ex.refl H) _ fun v H1 e p => by
    obtain ⟨T, x, y, rfl, ht, q⟩ := hk v H1 e p
    exact g2_at ht q
theorem cut_upto (zs : List V) (k : Nat) : cutV zs none (some (k : Int)) = zs.take k := by
  unfold cutV
  rw [HT.sIx_none, HT.sIx_nat, List.drop_zero, Nat.sub_zero]
  by_cases h : k ≤ zs.length
  · rw [Nat.min_eq_left h]
  · rw [Nat.min_eq_right (by omega), List.take_length, List.take_of_length_le (by omega)]
theorem cut_butLast (zs : List V) : cutV zs none (some (-1)) = zs.dropLast := by
  unfold cutV
  rw [HT.sIx_none, List.drop_zero, Nat.sub_zero, List.dropLast_eq_take]
  have e : HT.sIx zs.length zs.length (some (-1)) = zs.length - 1 := by
    show (if (-1 : Int) < 0 then ((-1 : Int) + (zs.length : Int)).toNat else min (-1 : Int).toNat zs.length) = zs.length - 1
    rw [if_pos (by decide)]
    omega
  rw [e]
end
section
variable {K : PySem.W.Frag} {σ : L2.St} {H : Hp} {tl : TE} {g : TG} {tu tz : TS} {D : Ends}
/-- over a list of which something is known -/
theorem q_forLP {P : V → Hp → Prop} (h : EvP tl σ H P) (hk : ∀ v H1, Ex H H1 → P v H1 → ∃ (p : Addr) (zs : List V) (Pv : Nat → L2.St → Hp → Prop), v = .ref p ∧ H1 p = some (.lst zs) ∧ Pv 0 σ H1 ∧ (∀ i σ' H', i ≤ zs.length → Pv i σ' H' → SqL K H' p zs) ∧
    (∀ i x σ' H', zs[i]? = some x → Pv i σ' H' → g x σ' H' fun σ2 H2 => tu { D with nx := Pv (i + 1), ct := Pv (i + 1), bk := tz D } σ2 H2) ∧ ∀ σ' H', Pv zs.length σ' H' → tz D σ' H') : tSeq (tFor (iList K tl) g tu) tz D σ H :=
  h H (Ex.refl H) _ fun v H1 e p => by
    obtain ⟨a, zs, Pv, rfl, hz, h0, hl, hs, hd⟩ := hk v H1 e p
    exact ⟨a, rfl, ⟨zs, sq_of hz⟩, for_list (D := { D with nx := tz D }) Pv h0 hl hs hd⟩
end
end XP
namespace K3
open PySem PySem.Spec PyProof.Rows L2 Evl XP
def topS (i : Nat) : Stmt := PySem.Challenge.pw_stairparts_k03_above_and_lacking.main.body.getD i (.Pass ⟨0, 0, 0, 0⟩)
/-- slots: 0 thing -/
abbrev s_is_number : Stmt := topS 8
theorem sc_is_number : FnScope ["thing"] ["thing"] (defScope s_is_number) := ⟨rfl, rfl, rfl, by decide +kernel, rfl, by decide +kernel, by decide +kernel⟩
/-- slots: 0 thing, 1 whole, 2 ahead, 3 part -/
abbrev s_is_parting : Stmt := topS 9
theorem sc_is_parting : FnScope ["thing", "whole", "ahead", "part"] ["thing"] (defScope s_is_parting) := ⟨rfl, rfl, rfl, by decide +kernel, rfl, by decide +kernel, by decide +kernel⟩
/-- slots: 0 thing -/
abbrev s_check_parting : Stmt := topS 10
theorem sc_check_parting : FnScope ["thing"] ["thing"] (defScope s_check_parting) := ⟨rfl, rfl, rfl, by decide +kernel, rfl, by decide +kernel, by decide +kernel⟩
/-- slots: 0 one, 1 other -/
abbrev s_lies_above : Stmt := topS 12
theorem sc_lies_above : FnScope ["one", "other"] ["one", "other"] (defScope s_lies_above) := ⟨rfl, rfl, rfl, by decide +kernel, rfl, by decide +kernel, by decide +kernel⟩
/-- slots: 0 one, 1 other, 2 lead, 3 place, 4 gap -/
abbrev s_lacking_count : Stmt := topS 13
theorem sc_lacking_count : FnScope ["one", "other", "lead", "place", "gap"] ["one", "other"] (defScope s_lacking_count) := ⟨rfl, rfl, rfl, by decide +kernel, rfl, by decide +kernel, by decide +kernel⟩
/-- slots: 0 one, 1 other, 2 way -/
abbrev s_way_down : Stmt := topS 15
theorem sc_way_down : FnScope ["one", "other", "way"] ["one", "other"] (defScope s_way_down) := ⟨rfl, rfl, rfl, by decide +kernel, rfl, by decide +kernel, by decide +kernel⟩
/-- slots: 0 one, 1 other -/
abbrev s_check_pair : Stmt := topS 16
theorem sc_check_pair : FnScope ["one", "other"] ["one", "other"] (defScope s_check_pair) := ⟨rfl, rfl, rfl, by decide +kernel, rfl, by decide +kernel, by decide +kernel⟩
/-- slots: 0 one, 1 other, 2 part, 3 facing -/
abbrev s_gaps : Stmt := topS 17
theorem sc_gaps : FnScope ["one", "other", "part", "facing"] ["one", "other"] (defScope s_gaps) := ⟨rfl, rfl, rfl, by decide +kernel, rfl, by decide +kernel, by decide +kernel⟩
/-- slots: 0 _law_number_here, 1 _law_k -/
abbrev s_law_mixed : Stmt := topS 21
theorem sc_law_mixed : FnScope ["_law_number_here", "_law_k"] ["_law_number_here", "_law_k"] (defScope s_law_mixed) := ⟨rfl, rfl, rfl, by decide +kernel, rfl, by decide +kernel, by decide +kernel⟩
/-- slots: 0 _law_script, 1 _law_k -/
abbrev s_law_number : Stmt := topS 22
theorem sc_law_number : FnScope ["_law_script", "_law_k"] ["_law_script", "_law_k"] (defScope s_law_number) := ⟨rfl, rfl, rfl, by decide +kernel, rfl, by decide +kernel, by decide +kernel⟩
/-- slots: 0 _law_script, 1 _law_first, 2 _law_number_here, 3 _law_most, 4 _law_many, 5 _law_found, 6 _law_k, 7 _law_part -/
abbrev s_law_parting_by : Stmt := topS 23
theorem sc_law_parting_by : FnScope ["_law_script", "_law_first", "_law_number_here", "_law_most", "_law_many", "_law_found", "_law_k", "_law_part"] ["_law_script", "_law_first"] (defScope s_law_parting_by) := ⟨rfl, rfl, rfl, by decide +kernel, rfl, by decide +kernel, by decide +kernel⟩
/-- slots: 0 _law_script, 1 _law_one, 2 _law_number_here, 3 _law_other, 4 _law_less, 5 _law_k, 6 _law_at, 7 _law_far, 8 _law_row (cell), 9 _law_j, 10 _law_part -/
abbrev s_law_pair_by : Stmt := topS 24
theorem sc_law_pair_by : FnScope ["_law_script", "_law_one", "_law_number_here", "_law_other", "_law_less", "_law_k", "_law_at", "_law_far", "_law_row", "_law_j", "_law_part"] ["_law_script"] (defScope s_law_pair_by) := ⟨rfl, rfl, rfl, by decide +kernel, rfl, by decide +kernel, by decide +kernel⟩
/-- slots: 0 _law_one, 1 _law_other, 2 _law_many -/
abbrev s_law_lacking : Stmt := topS 25
theorem sc_law_lacking : FnScope ["_law_one", "_law_other", "_law_many"] ["_law_one", "_law_other"] (defScope s_law_lacking) := ⟨rfl, rfl, rfl, by decide +kernel, rfl, by decide +kernel, by decide +kernel⟩
/-- slots: 0 _law_error, 1 _law_names -/
abbrev s_law_name : Stmt := topS 26
theorem sc_law_name : FnScope ["_law_error", "_law_names"] ["_law_error"] (defScope s_law_name) := ⟨rfl, rfl, rfl, by decide +kernel, rfl, by decide +kernel, by decide +kernel⟩
/-- slots: 0 _law_which, 1 _law_one, 2 _law_other, 3 _law_caught, 4 _law_found, 5 _law_error -/
abbrev s_law_told : Stmt := topS 27
theorem sc_law_told : FnScope ["_law_which", "_law_one", "_law_other", "_law_caught", "_law_found", "_law_error"] ["_law_which", "_law_one", "_law_other"] (defScope s_law_told) := ⟨rfl, rfl, rfl, by decide +kernel, rfl, by decide +kernel, by decide +kernel⟩
/-- slots: 0 _law_one, 1 _law_other, 2 _law_due, 3 _law_handed, 4 _law_which, 5 _law_told_here -/
abbrev s_law_right : Stmt := topS 28
theorem sc_law_right : FnScope ["_law_one", "_law_other", "_law_due", "_law_handed", "_law_which", "_law_told_here"] ["_law_one", "_law_other"] (defScope s_law_right) := ⟨rfl, rfl, rfl, by decide +kernel, rfl, by decide +kernel, by decide +kernel⟩
/-- slots: 0 _law_script, 1 _law_one, 2 _law_other, 3 _law_more, 4 _law_which -/
abbrev s_law : Stmt := topS 29
theorem sc_law : FnScope ["_law_script", "_law_one", "_law_other", "_law_more", "_law_which"] ["_law_script"] (defScope s_law) := ⟨rfl, rfl, rfl, by decide +kernel, rfl, by decide +kernel, by decide +kernel⟩
structure Tx (K : PySem.W.Frag) (mg : Str → Option Value) where
  a_is_number : Addr
  d_is_number : FuncData
  F_is_number : Fun K "is_number" "is_number" s_is_number a_is_number d_is_number
  b_is_number : Binds K d_is_number ["thing"] []
  g_is_number : mg "is_number" = some (.ref a_is_number)
  a_is_parting : Addr
  d_is_parting : FuncData
  F_is_parting : Fun K "is_parting" "is_parting" s_is_parting a_is_parting d_is_parting
  b_is_parting : Binds K d_is_parting ["thing"] []
  g_is_parting : mg "is_parting" = some (.ref a_is_parting)
  a_check_parting : Addr
  d_check_parting : FuncData
  F_check_parting : Fun K "check_parting" "check_parting" s_check_parting a_check_parting d_check_parting
  b_check_parting : Binds K d_check_parting ["thing"] []
  g_check_parting : mg "check_parting" = some (.ref a_check_parting)
  a_lies_above : Addr
  d_lies_above : FuncData
  F_lies_above : Fun K "lies_above" "lies_above" s_lies_above a_lies_above d_lies_above
  b_lies_above : Binds K d_lies_above ["one", "other"] []
  g_lies_above : mg "lies_above" = some (.ref a_lies_above)
  a_lacking_count : Addr
  d_lacking_count : FuncData
  F_lacking_count : Fun K "lacking_count" "lacking_count" s_lacking_count a_lacking_count d_lacking_count
  b_lacking_count : Binds K d_lacking_count ["one", "other"] []
  g_lacking_count : mg "lacking_count" = some (.ref a_lacking_count)
  a_way_down : Addr
  d_way_down : FuncData
  F_way_down : Fun K "way_down" "way_down" s_way_down a_way_down d_way_down
  b_way_down : Binds K d_way_down ["one", "other"] []
  g_way_down : mg "way_down" = some (.ref a_way_down)
  a_check_pair : Addr
  d_check_pair : FuncData
  F_check_pair : Fun K "_check_pair" "_check_pair" s_check_pair a_check_pair d_check_pair
  b_check_pair : Binds K d_check_pair ["one", "other"] []
  g_check_pair : mg "_check_pair" = some (.ref a_check_pair)
  a_gaps : Addr
  d_gaps : FuncData
  F_gaps : Fun K "_gaps" "_gaps" s_gaps a_gaps d_gaps
  b_gaps : Binds K d_gaps ["one", "other"] []
  g_gaps : mg "_gaps" = some (.ref a_gaps)
  a_law_mixed : Addr
  d_law_mixed : FuncData
  F_law_mixed : Fun K "_law_mixed" "_law_mixed" s_law_mixed a_law_mixed d_law_mixed
  b_law_mixed : Binds K d_law_mixed ["_law_number_here", "_law_k"] []
  g_law_mixed : mg "_law_mixed" = some (.ref a_law_mixed)
  a_law_number : Addr
  d_law_number : FuncData
  F_law_number : Fun K "_law_number" "_law_number" s_law_number a_law_number d_law_number
  b_law_number : Binds K d_law_number ["_law_script", "_law_k"] []
  g_law_number : mg "_law_number" = some (.ref a_law_number)
  a_law_parting_by : Addr
  d_law_parting_by : FuncData
  F_law_parting_by : Fun K "_law_parting_by" "_law_parting_by" s_law_parting_by a_law_parting_by d_law_parting_by
  b_law_parting_by : Binds K d_law_parting_by ["_law_script", "_law_first"] []
  g_law_parting_by : mg "_law_parting_by" = some (.ref a_law_parting_by)
  a_law_pair_by : Addr
  d_law_pair_by : FuncData
  F_law_pair_by : Fun K "_law_pair_by" "_law_pair_by" s_law_pair_by a_law_pair_by d_law_pair_by
  b_law_pair_by : Binds K d_law_pair_by ["_law_script"] []
  g_law_pair_by : mg "_law_pair_by" = some (.ref a_law_pair_by)
  a_law_lacking : Addr
  d_law_lacking : FuncData
  F_law_lacking : Fun K "_law_lacking" "_law_lacking" s_law_lacking a_law_lacking d_law_lacking
  b_law_lacking : Binds K d_law_lacking ["_law_one", "_law_other"] []
  g_law_lacking : mg "_law_lacking" = some (.ref a_law_lacking)
  a_law_name : Addr
  d_law_name : FuncData
  F_law_name : Fun K "_law_name" "_law_name" s_law_name a_law_name d_law_name
  b_law_name : Binds K d_law_name ["_law_error"] []
  g_law_name : mg "_law_name" = some (.ref a_law_name)
  a_law_told : Addr
  d_law_told : FuncData
  F_law_told : Fun K "_law_told" "_law_told" s_law_told a_law_told d_law_told
  b_law_told : Binds K d_law_told ["_law_which", "_law_one", "_law_other"] []
  g_law_told : mg "_law_told" = some (.ref a_law_told)
  a_law_right : Addr
  d_law_right : FuncData
  F_law_right : Fun K "_law_right" "_law_right" s_law_right a_law_right d_law_right
  b_law_right : Binds K d_law_right ["_law_one", "_law_other"] []
  g_law_right : mg "_law_right" = some (.ref a_law_right)
  a_law : Addr
  d_law : FuncData
  F_law : Fun K "law" "law" s_law a_law d_law
  b_law : Binds K d_law ["_law_script"] []
  g_law : mg "law" = some (.ref a_law)
  n_ValueError : mg "ValueError" = none
  n_abs : mg "abs" = none
  n_all : mg "all" = none
  n_bool : mg "bool" = none
  n_enumerate : mg "enumerate" = none
  n_int : mg "int" = none
  n_isinstance : mg "isinstance" = none
  n_len : mg "len" = none
  n_list : mg "list" = none
  n_max : mg "max" = none
  n_min : mg "min" = none
  n_range : mg "range" = none
  n_sorted : mg "sorted" = none
  n_sum : mg "sum" = none
  g_zip_longest : mg "zip_longest" = some (.type "itertools.zip_longest")
  u_GREATEST_WHOLE : Value
  c_GREATEST_WHOLE : mg "GREATEST_WHOLE" = some u_GREATEST_WHOLE
  r_GREATEST_WHOLE : RelV (.int 200) u_GREATEST_WHOLE
  C_NoFit : Addr
  g_NoFit : mg "NoFit" = some (.ref C_NoFit)
  C_NoNumber : Addr
  g_NoNumber : mg "NoNumber" = some (.ref C_NoNumber)
  C_NoParting : Addr
  g_NoParting : mg "NoParting" = some (.ref C_NoParting)
  C_PartError : Addr
  g_PartError : mg "PartError" = some (.ref C_PartError)
  x_NoFit : PySem.W.excIn K C_NoFit [.type "ValueError", .type "Exception", .type "BaseException", .type "object"] "ValueError.__new__" = true
  k_NoFit : PySem.W.keepIn K (.ref C_NoFit) = true
  s_NoFit : PySem.W.subIn K (.ref C_NoFit) (.type "BaseException") = some true
  t_NoFit : PySem.W.typeIn K (.ref C_NoFit) = some (.type "type")
  e_NoFit : ExcC K C_NoFit
  m_NoFit_PartError : PySem.W.exmOne K (.ref C_NoFit) (.ref C_PartError) = some true
  q_NoFit_NoParting : PySem.W.kitOne K (.ref C_NoFit) (.ref C_NoParting) = some false
  q_NoFit_NoFit : PySem.W.kitOne K (.ref C_NoFit) (.ref C_NoFit) = some true
  q_NoFit_NoNumber : PySem.W.kitOne K (.ref C_NoFit) (.ref C_NoNumber) = some false
  q_NoFit_ValueError : PySem.W.kitOne K (.ref C_NoFit) (.type "ValueError") = some true
/-! ### the draws: _law_mixed, _law_number, _law_parting_by -/
def mixed (n k : Int) : Int := ((n % 2147483647 + 7919 * k * k + 31 * k) * 48271 % 2147483647) * (69621 + 2 * k) % 2147483629
theorem mixed_nn (n k : Int) : 0 ≤ mixed n k := Int.emod_nonneg _ (by decide)
theorem mixed_lt (n k : Int) : mixed n k < 2147483629 := Int.emod_lt_of_pos _ (by decide)
def numb (ns : List Int) (k : Int) : Int := if ns = [] then mixed 17 k else mixed (ns.getD (k % (ns.length : Int)).toNat 0) k
theorem numb_nn (ns : List Int) (k : Int) : 0 ≤ numb ns k := by
  unfold numb
  split
  · exact mixed_nn _ _
  · exact mixed_nn _ _
theorem numb_lt (ns : List Int) (k : Int) : numb ns k < 2147483629 := by
  unfold numb
  split
  · exact mixed_lt _ _
  · exact mixed_lt _ _
/-- what a parting is -/
def IsP (p : List Int) : Prop := (∀ x ∈ p, 1 ≤ x) ∧ p.Pairwise (fun a b => b ≤ a) ∧ p.sum ≤ 200
theorem sum_nn : ∀ {p : List Int}, (∀ x ∈ p, 0 ≤ x) → 0 ≤ p.sum
  | [], _ => Int.le_refl _
  | x :: r, h => by
    have h1 := h x List.mem_cons_self
    have h2 := sum_nn (p := r) fun y hy => h y (List.mem_cons_of_mem _ hy)
    rw [List.sum_cons]
    omega
theorem len_le_sum : ∀ {p : List Int}, (∀ x ∈ p, 1 ≤ x) → (p.length : Int) ≤ p.sum
  | [], _ => Int.le_refl _
  | x :: r, h => by
    have h1 := h x List.mem_cons_self
    have h2 := len_le_sum (p := r) fun y hy => h y (List.mem_cons_of_mem _ hy)
    rw [List.sum_cons, List.length_cons]
    omega
theorem IsP.len {p : List Int} (h : IsP p) : p.length ≤ 200 := by
  have h1 := len_le_sum h.1
  have h2 := h.2.2
  omega
theorem le_sum : ∀ {p : List Int}, (∀ x ∈ p, 0 ≤ x) → ∀ x ∈ p, x ≤ p.sum
  | [], _, x, hx => by cases hx
  | y :: r, h, x, hx => by
    have h1 := h y List.mem_cons_self
    have h2 := sum_nn (p := r) fun z hz => h z (List.mem_cons_of_mem _ hz)
    rw [List.sum_cons]
    rcases List.mem_cons.mp hx with e | hx
    · omega
    · have h3 := le_sum (p := r) (fun z hz => h z (List.mem_cons_of_mem _ hz)) x hx
      omega
theorem sum_append (a b : List Int) : (a ++ b).sum = a.sum + b.sum := List.sum_append
theorem sum_perm {a b : List Int} (h : a.Perm b) : a.sum = b.sum := by
  induction h with
  | nil => rfl
  | cons x _ ih => rw [List.sum_cons, List.sum_cons, ih]
  | swap x y l => rw [List.sum_cons, List.sum_cons, List.sum_cons, List.sum_cons]; omega
  | trans _ _ ih1 ih2 => exact ih1.trans ih2
theorem desc_reverse {l : List Int} (h : l.Pairwise (· ≤ ·)) : l.reverse.Pairwise (fun a b => b ≤ a) := List.pairwise_reverse.mpr h
section
variable {P : Program} {w : World} {K : PySem.W.Frag} {mg : Str → Option Value} {base : Heap}
def sp_law_mixed : Sp := fun vs H Q _ => ∃ n k : Int, vs = [.int n, .int k] ∧ 0 ≤ k ∧ k ≤ 100000 ∧ RetV (.int (mixed n k)) H Q
theorem ok_law_mixed (T : Tx K mg) : FnOk P w K mg base CX0 1 T.a_law_mixed T.d_law_mixed ["_law_number_here", "_law_k"] sp_law_mixed := by
  refine T.F_law_mixed.ok sc_law_mixed (fun vs H Q E h => ?_) (fun cdv A outer s H vs Q E hr h => ?_)
  · obtain ⟨n, k, rfl, _⟩ := h
    rfl
  · obtain ⟨n, k, rfl, k0, k1, q⟩ := h
    refine ⟨_, (pss_cons (ps_set (i := 0) sc_law_mixed.nd rfl (Or.inl rfl) (pe_op op_mod (pe_op op_mul (pe_op op_add (pe_op op_add (pe_op op_mod (pv 0) pe_int) (pe_op op_mul (pe_op op_mul pe_int (pv 1)) (pv 1))) (pe_op op_mul pe_int (pv 1))) pe_int) pe_int))
    (pss_one (ps_ret (pe_op op_mod (pe_op op_mul (pv 0) (pe_op op_add pe_int (pe_op op_mul pe_int (pv 1)))) pe_int)))), ?_⟩
    refine q_asg (ev_rI (ev_rI (ev_rI0 (ev_rI0 (ev_rI (ev_var rfl) ev_c (by decide)) (ev_rI (ev_rI ev_c (ev_var rfl) (.inl (by decide))) (ev_var rfl) (.inr (by omega)))) (ev_rI ev_c (ev_var rfl) (.inl (by decide)))) ev_c (.inr (by decide))) ev_c (by decide)) fun H1 e1 => ?_
    refine s_ret (ev_rI (ev_rI (ev_var rfl) (ev_rI0 ev_c (ev_rI ev_c (ev_var rfl) (.inl (by decide)))) (.inr (by omega))) ev_c (by decide)) fun H2 e2 => ?_
    exact q H2 (e1.trans e2)
theorem spv_mixed {n k : Int} {H : Hp} (k0 : 0 ≤ k) (k1 : k ≤ 100000) : SpV sp_law_mixed [.int n, .int k] H (.int (mixed n k)) := fun H1 _ _ q _ => ⟨n, k, rfl, k0, k1, q⟩
def sp_law_number (K : PySem.W.Frag) : Sp := fun vs H Q _ => ∃ (a : Addr) (ns : List Int) (k : Int), vs = [.ref a, .int k] ∧ SqL K H a (ns.map V.int) ∧ 0 ≤ k ∧ k ≤ 100000 ∧ RetV (.int (numb ns k)) H Q
theorem ok_law_number (T : Tx K mg) : FnOk P w K mg base CX0 2 T.a_law_number T.d_law_number ["_law_script", "_law_k"] (sp_law_number K) := by
  refine T.F_law_number.ok sc_law_number (fun vs H Q E h => ?_) (fun cdv A outer s H vs Q E hr h => ?_)
  · obtain ⟨a, ns, k, rfl, _⟩ := h
    rfl
  · obtain ⟨a, ns, k, rfl, hS, k0, k1, q⟩ := h
    refine ⟨_, (pss_cons (ps_if (pt_cmpR (eqK (K := K) rfl hr.units) (pv 0) (pe_lst pa_nil) (nomark _))
      (pss_one (ps_ret (pe_call (ok_law_mixed T) (hr.mono (by decide)) (by rfl) T.g_law_mixed T.F_law_mixed.kp T.b_law_mixed .nil pass0 (pa_cons pe_int (pa_cons (pv 1) pa_nil)))))
      pss_nil)
    (pss_one (ps_ret (pe_call (ok_law_mixed T) (hr.mono (by decide)) (by rfl) T.g_law_mixed T.F_law_mixed.kp T.b_law_mixed .nil pass0 (pa_cons (pe_ix (ixlK (K := K) rfl) (pv 0) (pe_op op_mod (pv 1) (pe_callB (lenK (K := K) rfl) (by rfl) T.n_len PySem.boot_len (pa_cons (pv 0) pa_nil))) (fun _ _ => rfl)) (pa_cons (pv 1) pa_nil)))))), ?_⟩
    refine q_when (b := decide (ns = [])) (et_test (ev_opL (ev_var rfl) (el_lst (vs := []) ea_nil (by decide)) fun p H1 hp e1 => rv_eqL (ys := []) (ex_l e1 hS) (sq_of hp))) (fun hb H1 e1 => ?_) (fun hb H1 e1 => ?_)
    · have hn : ns = [] := of_decide_eq_true hb
      refine s_ret (ev_call (ea_cons ev_c (ea_cons (ev_var rfl) ea_nil)) (spv_mixed k0 k1)) fun H2 e2 => ?_
      have := q H2 (e1.trans e2)
      unfold numb at this
      rw [if_pos hn] at this
      exact this
    · have hn : ns ≠ [] := of_decide_eq_false hb
      have hl : 0 < ns.length := List.length_pos_iff.mpr hn
      have h1 : 0 ≤ k % (ns.length : Int) := Int.emod_nonneg _ (by omega)
      have h2 : k % (ns.length : Int) < ns.length := Int.emod_lt_of_pos _ (by omega)
      have el : ((ns.map V.int).length : Int) = (ns.length : Int) := by rw [List.length_map]
      refine s_ret (ev_call (ea_cons (ev_ixI (ev_var rfl) (ev_is (ev_rI (ev_var rfl) (ev_cb (ea_cons (ev_var rfl) ea_nil) (rc_len (ex_l e1 hS))) (by rw [el]; omega)) (by rw [el])) (ex_l e1 hS) h1 h2) (ea_cons (ev_var rfl) ea_nil)) (spv_mixed k0 k1)) fun H2 e2 => ?_
      have := q H2 (e1.trans e2)
      unfold numb at this
      rw [if_neg hn] at this
      exact this
theorem spv_number {a : Addr} {ns : List Int} {k : Int} {H : Hp} (hS : SqL K H a (ns.map V.int)) (k0 : 0 ≤ k) (k1 : k ≤ 100000) : SpV (sp_law_number K) [.ref a, .int k] H (.int (numb ns k)) := fun H1 e _ q _ => ⟨a, ns, k, rfl, ex_l e hS, k0, k1, q⟩
/-- one of a few written numbers -/
theorem at_few {zs : List Int} {i : Int} (h0 : 0 ≤ i) (h1 : i < zs.length) (lo hi : Int) (hz : ∀ z ∈ zs, lo ≤ z ∧ z ≤ hi) : ∃ z, atI (zs.map V.int) i = some (.int z) ∧ lo ≤ z ∧ z ≤ hi := by
  obtain ⟨j, rfl⟩ := Int.eq_ofNat_of_zero_le h0
  have hj : j < zs.length := by omega
  refine ⟨zs[j], atI_nat ?_, hz _ (List.getElem_mem hj)⟩
  rw [List.getElem?_map, List.getElem?_eq_getElem hj]
  rfl
/-- a list of whole numbers, new, of which P is known -/
def RetLP (P : List Int → Prop) (H : Hp) (Q : VK) : Prop := ∀ (p : Addr) (ys : List Int) (H2 : Hp), H p = none → Ex H H2 → Ll H2 p ys → P ys → Q (.ref p) H2
def sp_law_parting_by (K : PySem.W.Frag) : Sp := fun vs H Q _ => ∃ (a : Addr) (ns : List Int) (k : Int), vs = [.ref a, .int k] ∧ SqL K H a (ns.map V.int) ∧ ns.length ≤ 63 ∧ 0 ≤ k ∧ k ≤ 1000 ∧ RetLP IsP H Q
theorem ok_law_parting_by (T : Tx K mg) : FnOk P w K mg base CX0 3 T.a_law_parting_by T.d_law_parting_by ["_law_script", "_law_first"] (sp_law_parting_by K) := by
  refine T.F_law_parting_by.ok sc_law_parting_by (fun vs H Q E h => ?_) (fun cdv A outer s H vs Q E hr h => ?_)
  · obtain ⟨a, ns, k, rfl, _⟩ := h
    rfl
  · obtain ⟨a, ns, k, rfl, hS, hlen, k0, k1, q⟩ := h
    refine ⟨_, (pss_cons (ps_set (i := 2) sc_law_parting_by.nd rfl (Or.inl rfl) (pe_call (ok_law_number T) (hr.mono (by decide)) (by rfl) T.g_law_number T.F_law_number.kp T.b_law_number .nil pass0 (pa_cons (pv 0) (pa_cons (pv 1) pa_nil))))
    (pss_cons (ps_set (i := 3) sc_law_parting_by.nd rfl (Or.inl rfl) (pe_ix (ixlK (K := K) rfl) (pe_lst (pa_cons pe_int (pa_cons pe_int (pa_cons pe_int (pa_cons pe_int (pa_cons pe_int (pa_cons pe_int pa_nil))))))) (pe_op op_mod (pv 2) pe_int) (fun _ _ => rfl)))
    (pss_cons (ps_set (i := 4) sc_law_parting_by.nd rfl (Or.inl rfl) (pe_ix (ixlK (K := K) rfl) (pe_lst (pa_cons (pe_callB (lenK (K := K) rfl) (by rfl) T.n_len PySem.boot_len (pa_cons (pv 0) pa_nil)) (pa_cons pe_int (pa_cons pe_int (pa_cons pe_int pa_nil))))) (pe_op op_mod (pe_op op_fdiv (pv 2) pe_int) pe_int) (fun _ _ => rfl)))
    (pss_cons (ps_set (i := 5) sc_law_parting_by.nd rfl (Or.inl rfl) (pe_lst pa_nil))
    (pss_cons (ps_for PassesOwn.never rfl (pi_range1 rfl T.n_range (pa_cons (pe_callB (call_min2 rfl) (by rfl) T.n_min (by decide +kernel) (pa_cons (pv 4) (pa_cons pe_int pa_nil))) pa_nil)) (pg_name (i := 6) sc_law_parting_by.nd rfl (Or.inl rfl))
      (pss_cons (ps_set (i := 7) sc_law_parting_by.nd rfl (Or.inl rfl) (pe_op op_add pe_int (pe_op op_mod (pe_call (ok_law_number T) (hr.mono (by decide)) (by rfl) T.g_law_number T.F_law_number.kp T.b_law_number .nil pass0 (pa_cons (pv 0) (pa_cons (pe_op op_add (pe_op op_add (pv 1) pe_int) (pv 6)) pa_nil))) (pv 3))))
      (pss_one (ps_if (pt_cmpR op_le (pe_op op_add (pe_callB (sumK (K := K) rfl rfl) (by rfl) T.n_sum (by decide +kernel) (pa_cons (pv 5) pa_nil)) (pv 7)) pe_int (nomark _))
        (pss_one (ps_expr (pe_bm PySem.F.plainAttrs_list PySem.F.slot_list_append PySem.F.type_list_append mt_append (pv 5) (pa_cons (pv 7) pa_nil))))
        pss_nil))))
    (pss_cons (ps_set (i := 5) sc_law_parting_by.nd rfl (Or.inl rfl) (pe_callB (sortedK (K := K) rfl) (by rfl) T.n_sorted (by decide +kernel) (pa_cons (pv 5) pa_nil)))
    (pss_cons (ps_expr (pe_bm0 PySem.F.plainAttrs_list PySem.F.slot_list_reverse PySem.F.type_list_reverse mt_reverse (pv 5)))
    (pss_one (ps_ret (pv 5)))))))))), ?_⟩
    refine q_asg (ev_call (ea_cons (ev_var rfl) (ea_cons (ev_var rfl) ea_nil)) (spv_number hS k0 (by omega))) fun H1 e1 => ?_
    have n0 := numb_nn ns k
    generalize numb ns k = m at n0 ⊢
    obtain ⟨c, hc, c1, c2⟩ := at_few (zs := [2, 4, 7, 12, 30, 90]) (i := m % 6) (by omega) (by show m % 6 < 6; omega) 2 90 (by decide)
    refine q_asg (ev_ixN (el_lst (ea_cons ev_c (ea_cons ev_c (ea_cons ev_c (ea_cons ev_c (ea_cons ev_c (ea_cons ev_c ea_nil)))))) (by decide)) (fun H2 _ => ev_rI (ev_var rfl) ev_c (by decide)) hc) fun H2 e2 => ?_
    obtain ⟨l, hl, l1, l2⟩ := at_few (zs := [(ns.length : Int), 3, 6, 40]) (i := m / 6 % 4) (by omega) (by show m / 6 % 4 < 4; omega) 0 63 (by
      intro z hz
      simp only [List.mem_cons, List.not_mem_nil, or_false] at hz
      omega)
    have el : ((ns.map V.int).length : Int) = (ns.length : Int) := by rw [List.length_map]
    refine q_asg (ev_ixN (el_lst (ea_cons (ev_is (ev_cb (ea_cons (ev_var rfl) ea_nil) (rc_len (ex_l (e1.trans e2) hS))) (by rw [el])) (ea_cons ev_c (ea_cons ev_c (ea_cons ev_c ea_nil)))) (by show 4 ≤ 100000; decide)) (fun H2 _ => ev_rI (ev_rI (ev_var rfl) ev_c ⟨by decide, by decide⟩) ev_c (by decide)) hl) fun H3 e3 => ?_
    refine q_asgL (xs := []) (el_lst ea_nil (by decide)) fun p H4 np e4 hp => ?_
    have e14 : Ex H H4 := ((e1.trans e2).trans e3).trans e4
    have npH : H p = none := fresh_back ((e1.trans e2).trans e3) np
    have hm : (if (60 : Int) < l then (60 : Int) else l) ≤ 60 := by split <;> omega
    have hm0 : 0 ≤ (if (60 : Int) < l then (60 : Int) else l) := by split <;> omega
    refine q_forR1 (ea_cons (ev_cb (ea_cons (ev_var rfl) (ea_cons ev_c ea_nil)) rc_min2) ea_nil) ⟨hm0, by omega⟩
      (fun i σ' H' => ∃ (fs : List Int) (y1 y2 : Option V), σ' = [some (.ref a), some (.int k), some (.int m), some (.int c), some (.int l), some (.ref p), y1, y2] ∧ Ex H H' ∧ Ll H' p fs ∧ (∀ x ∈ fs, 1 ≤ x) ∧ fs.sum ≤ 200)
      (fun H5 e5 => ⟨[], none, none, rfl, e14.trans e5, e5 _ _ hp, (fun x hx => by cases hx), by decide⟩) (fun i σ' H' hi hP => ?_) (fun σ' H' hP => ?_)
    · obtain ⟨fs, y1, y2, rfl, eH, hf, f1, f2⟩ := hP
      have hS' := ex_l eH hS
      have b0 := numb_nn ns (k + 1 + (i : Int))
      refine q_asg (ev_rI0 ev_c (ev_rI (ev_call (ea_cons (ev_var rfl) (ea_cons (ev_rI0 (ev_rI0 (ev_var rfl) ev_c) (ev_var rfl)) ea_nil)) (spv_number hS' (by omega) (by omega))) (ev_var rfl) (by omega))) fun H5 e5 => ?_
      have d0 : 0 ≤ numb ns (k + 1 + (i : Int)) % c := Int.emod_nonneg _ (by omega)
      generalize hd : numb ns (k + 1 + (i : Int)) % c = d at d0 ⊢
      refine s_when (b := decide (fs.sum + (1 + d) ≤ 200)) (et_test (ev_rI0 (ev_rI0 (ev_cb (ea_cons (ev_var rfl) ea_nil) (rc_sum (ex_l e5 hf.sq))) (ev_var rfl)) ev_c)) (fun hb H6 e6 => ?_) (fun hb H6 e6 => ?_)
      · have hle := of_decide_eq_true hb
        have hfl := len_le_sum f1
        refine s_app (xs := fs.map V.int) ((e5.trans e6) _ _ hf) (ev_var rfl) (ev_var rfl) (by rw [List.length_map]; omega) fun H7 e7 => ?_
        refine ⟨fs ++ [1 + d], _, _, rfl, ((eH.trans (e5.trans e6)).trans e7).mut npH, ?_, fun x hx => ?_, ?_⟩
        · show upd H7 p _ p = _
          rw [upd_same, List.map_append]
          rfl
        · rcases List.mem_append.mp hx with hx | hx
          · exact f1 x hx
          · rw [List.mem_singleton.mp hx]
            omega
        · rw [sum_append]
          show fs.sum + ((1 + d) + 0) ≤ 200
          omega
      · exact ⟨fs, _, _, rfl, eH.trans (e5.trans e6), (e5.trans e6) _ _ hf, f1, f2⟩
    · obtain ⟨fs, y1, y2, rfl, eH, hf, f1, f2⟩ := hP
      refine q_asgP (evP_sorted (ea_cons (ev_var rfl) ea_nil) hf.sq) fun v H5 e5 hv => ?_
      obtain ⟨o, ys, rfl, no, hp1, ho, hy⟩ := hv
      have noH : H o = none := fresh_back eH no
      refine q_rev (ev_var rfl) hy fun H6 e6 => ?_
      refine s_ret (ev_var rfl) fun H7 e7 => ?_
      refine q o ys.reverse H7 noH (((eH.trans (e5.trans e6)).mut noH).trans e7) (e7 _ _ ?_) ⟨fun x hx => ?_, desc_reverse ho, ?_⟩
      · rw [upd_same, List.map_reverse]
      · exact f1 x (hp1.mem_iff.mp (List.mem_reverse.mp hx))
      · rw [sum_perm (List.reverse_perm ys), sum_perm hp1]
        exact f2
theorem evP_parting {a : Addr} {ns : List Int} {k : Int} {σ : L2.St} {H : Hp} {ta : TA} {E : XK} (h : EvA ta σ H [.ref a, .int k]) (hS : SqL K H a (ns.map V.int)) (hl : ns.length ≤ 63) (k0 : 0 ≤ k) (k1 : k ≤ 1000) :
    EvP (tCall (sp_law_parting_by K) [] E ta) σ H (fun v H1 => ∃ (p : Addr) (ys : List Int), v = .ref p ∧ H p = none ∧ Ll H1 p ys ∧ IsP ys) :=
  evP_call h fun H1 e Q q E => ⟨a, ns, k, rfl, ex_l e hS, hl, k0, k1, fun p ys H2 np e2 hp hy => q _ _ e2 ⟨p, ys, rfl, fresh_back e np, hp, hy⟩⟩
end
/-! ### stairparts.partings: is_number, is_parting, check_parting -/
def partB : Int → Int → List Int → Bool
  | _, _, [] => true
  | ahead, whole, x :: r => if x < 1 ∨ ahead < x then false else if 200 < whole + x then false else partB x (whole + x) r
theorem partB_iff : ∀ (p : List Int) (ahead whole : Int), whole ≤ 200 → (partB ahead whole p = true ↔ (∀ x ∈ p, 1 ≤ x ∧ x ≤ ahead) ∧ p.Pairwise (fun a b => b ≤ a) ∧ whole + p.sum ≤ 200)
  | [], ahead, whole, h => by
    refine ⟨fun _ => ⟨fun x hx => (by cases hx), .nil, ?_⟩, fun _ => rfl⟩
    show whole + 0 ≤ 200
    omega
  | x :: r, ahead, whole, h => by
    show (if x < 1 ∨ ahead < x then false else if 200 < whole + x then false else partB x (whole + x) r) = true ↔ _
    rw [List.sum_cons, List.pairwise_cons]
    by_cases c : x < 1 ∨ ahead < x
    · rw [if_pos c]
      refine ⟨fun z => (by cases z), fun ⟨h1, _, _⟩ => ?_⟩
      have := h1 x List.mem_cons_self
      omega
    · rw [if_neg c]
      by_cases c2 : 200 < whole + x
      · rw [if_pos c2]
        refine ⟨fun z => (by cases z), fun ⟨h1, _, h3⟩ => ?_⟩
        have := sum_nn (p := r) fun y hy => (by have := h1 y (List.mem_cons_of_mem _ hy); omega)
        omega
      · rw [if_neg c2, partB_iff r x (whole + x) (by omega)]
        refine ⟨fun ⟨h1, h2, h3⟩ => ⟨fun y hy => ?_, ⟨fun y hy => (h1 y hy).2, h2⟩, by omega⟩, fun ⟨h1, h2, h3⟩ => ⟨fun y hy => ⟨(h1 y (List.mem_cons_of_mem _ hy)).1, h2.1 y hy⟩, h2.2, by omega⟩⟩
        rcases List.mem_cons.mp hy with e | hy
        · omega
        · have := h1 y hy
          omega
def isPart (p : List Int) : Bool := partB 200 0 p
theorem isPart_iff {p : List Int} : isPart p = true ↔ IsP p := by
  unfold isPart
  rw [partB_iff p 200 0 (by decide)]
  refine ⟨fun ⟨h1, h2, h3⟩ => ⟨fun x hx => (h1 x hx).1, h2, by omega⟩, fun ⟨h1, h2, h3⟩ => ⟨fun x hx => ⟨h1 x hx, ?_⟩, h2, by omega⟩⟩
  have := le_sum (fun y hy => (by have := h1 y hy; omega)) x hx
  omega
theorem IsP.is {p : List Int} (h : IsP p) : isPart p = true := isPart_iff.mpr h
section
variable {P : Program} {w : World} {K : PySem.W.Frag} {mg : Str → Option Value} {base : Heap}
def sp_is_number (K : PySem.W.Frag) : Sp := fun vs H Q _ => ∃ (x : V) (t : Value) (b1 b2 : Bool), vs = [x] ∧ (∀ H1, Ex H H1 → TyX K H1 x t) ∧ PySem.W.kitOne K t (.type "int") = some b1 ∧ PySem.W.kitOne K t (.type "bool") = some b2 ∧ RetV (.bl (b1 && !b2)) H Q
theorem ok_is_number (T : Tx K mg) : FnOk P w K mg base CX0 1 T.a_is_number T.d_is_number ["thing"] (sp_is_number K) := by
  refine T.F_is_number.ok sc_is_number (fun vs H Q E h => ?_) (fun cdv A outer s H vs Q E hr h => ?_)
  · obtain ⟨x, t, b1, b2, rfl, _⟩ := h
    rfl
  · obtain ⟨x, t, b1, b2, rfl, ty, k1, k2, q⟩ := h
    refine ⟨_, (pss_one (ps_ret (pe_and (pe_callB (isiK (K := K) rfl) (by rfl) T.n_isinstance (by decide +kernel) (pa_cons (pv 0) (pa_cons (pe_bltn (v := .ty "int") (u := .type "int") (by rfl) T.n_int (by decide +kernel) rfl) pa_nil))) (pe_one (pe_not (pe_callB (isiK (K := K) rfl) (by rfl) T.n_isinstance (by decide +kernel) (pa_cons (pv 0) (pa_cons (pe_bltn (v := .ty "bool") (u := .type "bool") (by rfl) T.n_bool (by decide +kernel) rfl) pa_nil)))))))), ?_⟩
    exact s_ret (ev_andV (ev_cb (ea_cons (ev_var rfl) (ea_cons ev_c ea_nil)) (rc_isi (.ty _) ty k1)) fun _ => ev_notV (ev_cb (ea_cons (ev_var rfl) (ea_cons ev_c ea_nil)) (rc_isi (.ty _) ty k2))) fun H1 e1 => q H1 e1
theorem spv_number_int {i : Int} {H : Hp} : SpV (sp_is_number K) [.int i] H (.bl true) := fun H1 e Q q _ =>
  ⟨.int i, .type "int", true, false, rfl, fun _ _ => .base (.int _), kit_ty (by decide +kernel), kit_ty (by decide +kernel), q⟩
def sp_is_parting : Sp := fun vs H Q _ => ∃ (a : Addr) (ns : List Int), vs = [.ref a] ∧ Ll H a ns ∧ RetV (.bl (isPart ns)) H Q
theorem ok_is_parting (T : Tx K mg) : FnOk P w K mg base CX0 2 T.a_is_parting T.d_is_parting ["thing"] sp_is_parting := by
  refine T.F_is_parting.ok sc_is_parting (fun vs H Q E h => ?_) (fun cdv A outer s H vs Q E hr h => ?_)
  · obtain ⟨a, ns, rfl, _⟩ := h
    rfl
  · obtain ⟨a, ns, rfl, hL, q⟩ := h
    refine ⟨_, (pss_cons (ps_if (pt_not (pt_val (pe_callB (isiK (K := K) rfl) (by rfl) T.n_isinstance (by decide +kernel) (pa_cons (pv 0) (pa_cons (pe_bltn (v := .ty "list") (u := .type "list") (by rfl) T.n_list (by decide +kernel) rfl) pa_nil)))))
      (pss_one (ps_ret pe_bl))
      pss_nil)
    (pss_cons (ps_set (i := 1) sc_is_parting.nd rfl (Or.inl rfl) pe_int)
    (pss_cons (ps_set (i := 2) sc_is_parting.nd rfl (Or.inl rfl) (pe_glob rfl T.c_GREATEST_WHOLE T.r_GREATEST_WHOLE))
    (pss_cons (ps_for PassesOwn.never rfl (pi_list (pv 0)) (pg_name (i := 3) sc_is_parting.nd rfl (Or.inl rfl))
      (pss_cons (ps_if (PW.pt (pw_or (pt_not (pt_val (pe_call (ok_is_number T) (hr.mono (by decide)) (by rfl) T.g_is_number T.F_is_number.kp T.b_is_number .nil pass0 (pa_cons (pv 3) pa_nil)))) (pw_or (pt_cmpR op_lt (pv 3) pe_int (nomark _)) (pw_or1 (pt_cmpR op_gt (pv 3) (pv 2) (nomark _))))))
        (pss_one (ps_ret pe_bl))
        pss_nil)
      (pss_cons (ps_set (i := 2) sc_is_parting.nd rfl (Or.inl rfl) (pv 3))
      (pss_cons (ps_aug (i := 1) sc_is_parting.nd rfl (Or.inl rfl) (pv 3) ip_add)
      (pss_one (ps_if (pt_cmpR op_gt (pv 1) (pe_glob rfl T.c_GREATEST_WHOLE T.r_GREATEST_WHOLE) (nomark _))
        (pss_one (ps_ret pe_bl))
        pss_nil))))))
    (pss_one (ps_ret pe_bl)))))), ?_⟩
    refine q_when (et_not (et_B (ev_cb (ea_cons (ev_var rfl) (ea_cons ev_c ea_nil)) (rc_isiL hL)))) (fun hb => by cases hb) (fun _ H1 e1 => ?_)
    refine q_asg ev_c fun H2 e2 => ?_
    refine q_asg ev_c fun H3 e3 => ?_
    have e13 := (e1.trans e2).trans e3
    refine q_forLn (ev_var rfl) (ex_l e13 hL.sq) (fun i σ' H' => ∃ (ah wh : Int) (y : Option V), σ' = [some (.ref a), some (.int wh), some (.int ah), y] ∧ Ex H H' ∧ isPart ns = partB ah wh (ns.drop i))
      (fun H4 e4 => ⟨200, 0, none, rfl, e13.trans e4, rfl⟩) (fun i σ' H' _ hP => ?_) (fun i x σ' H' hx hP => ?_) (fun σ' H' hP => ?_)
    · obtain ⟨ah, wh, y, rfl, eH, _⟩ := hP
      exact ex_l eH hL.sq
    · obtain ⟨ah, wh, y, rfl, eH, hp⟩ := hP
      obtain ⟨z, hz, rfl⟩ := get_int hx
      rw [drop_one hz] at hp
      have hp' : isPart ns = if z < 1 ∨ ah < z then false else if 200 < wh + z then false else partB z (wh + z) (ns.drop (i + 1)) := hp
      refine q_when (b := decide (z < 1) || decide (ah < z)) (et_is (et_or (et_not (et_B (ev_call (ea_cons (ev_var rfl) ea_nil) spv_number_int))) fun _ => et_or (et_test (ev_rI0 (ev_var rfl) ev_c)) fun _ => et_test (ev_rI0 (ev_var rfl) (ev_var rfl))) rfl) (fun hb H4 e4 => ?_) (fun hb H4 e4 => ?_)
      · refine s_ret ev_c fun H5 e5 => ?_
        rw [Bool.or_eq_true, decide_eq_true_eq, decide_eq_true_eq] at hb
        rw [if_pos hb] at hp'
        have := q H5 (eH.trans (e4.trans e5))
        rw [hp'] at this
        exact this
      · rw [Bool.or_eq_false_iff, decide_eq_false_iff_not, decide_eq_false_iff_not] at hb
        rw [if_neg (by omega)] at hp'
        refine q_asg (ev_var rfl) fun H5 e5 => ?_
        refine q_aug rfl (ev_var rfl) fun H6 e6 => ?_
        refine s_when (b := decide (200 < wh + z)) (et_test (ev_rI0 (ev_var rfl) ev_c)) (fun hb H7 e7 => ?_) (fun hb H7 e7 => ?_)
        · refine s_ret ev_c fun H8 e8 => ?_
          rw [if_pos (of_decide_eq_true hb)] at hp'
          have := q H8 (eH.trans ((((e4.trans e5).trans e6).trans e7).trans e8))
          rw [hp'] at this
          exact this
        · rw [if_neg (of_decide_eq_false hb)] at hp'
          exact ⟨z, wh + z, _, rfl, eH.trans (((e4.trans e5).trans e6).trans e7), hp'⟩
    · obtain ⟨ah, wh, y, rfl, eH, hp⟩ := hP
      have hp' : isPart ns = true := by
        rw [hp, List.drop_of_length_le (by rw [List.length_map]; exact Nat.le_refl _)]
        rfl
      refine s_ret ev_c fun H5 e5 => ?_
      have := q H5 (eH.trans e5)
      rw [hp'] at this
      exact this
theorem spv_is_parting {a : Addr} {ns : List Int} {H : Hp} (hL : Ll H a ns) : SpV sp_is_parting [.ref a] H (.bl (isPart ns)) := fun H1 e _ q _ => ⟨a, ns, rfl, e _ _ hL, q⟩
def sp_check_parting : Sp := fun vs H Q _ => ∃ (a : Addr) (ns : List Int), vs = [.ref a] ∧ Ll H a ns ∧ IsP ns ∧ RetV .non H Q
theorem ok_check_parting (T : Tx K mg) : FnOk P w K mg base CX0 3 T.a_check_parting T.d_check_parting ["thing"] sp_check_parting := by
  refine T.F_check_parting.ok sc_check_parting (fun vs H Q E h => ?_) (fun cdv A outer s H vs Q E hr h => ?_)
  · obtain ⟨a, ns, rfl, _⟩ := h
    rfl
  · obtain ⟨a, ns, rfl, hL, hp, q⟩ := h
    refine ⟨_, (pss_one (ps_if (pt_not (pt_val (pe_call (ok_is_parting T) (hr.mono (by decide)) (by rfl) T.g_is_parting T.F_is_parting.kp T.b_is_parting .nil pass0 (pa_cons (pv 0) pa_nil))))
      (pss_one ps_never)
      pss_nil)), ?_⟩
    refine s_when (et_not (et_B (ev_call (ea_cons (ev_var rfl) ea_nil) (spv_is_parting hL)))) (fun hb => ?_) (fun _ H1 e1 => q H1 e1)
    rw [hp.is] at hb
    cases hb
theorem spv_check {a : Addr} {ns : List Int} {H : Hp} (hL : Ll H a ns) (hp : IsP ns) : SpV sp_check_parting [.ref a] H .non := fun H1 e _ q _ => ⟨a, ns, rfl, e _ _ hL, hp, q⟩
end
/-! ### stairparts.order: _check_pair, _gaps, lacking_count, lies_above -/
/-- the differences, part by part -/
def gapsL (xs ys : List Int) : List Int := (List.range (max xs.length ys.length)).map fun i => xs.getD i 0 - ys.getD i 0
/-- how far the first i parts of xs are ahead of those of ys -/
def lead (xs ys : List Int) (i : Nat) : Int := (xs.take i).sum - (ys.take i).sum
theorem take_next (xs : List Int) (i : Nat) : (xs.take (i + 1)).sum = (xs.take i).sum + xs.getD i 0 := by
  cases e : xs[i]? with
  | none =>
    have h := List.getElem?_eq_none_iff.mp e
    rw [List.take_of_length_le (by omega), List.take_of_length_le h]
    simp [List.getD, e]
  | some x =>
    rw [take_one e, sum_append]
    simp [List.getD, e]
theorem lead_next (xs ys : List Int) (i : Nat) : lead xs ys (i + 1) = lead xs ys i + (xs.getD i 0 - ys.getD i 0) := by
  unfold lead
  rw [take_next, take_next]
  omega
theorem lead_zero (xs ys : List Int) : lead xs ys 0 = 0 := rfl
/-- the least m of i + 1 .. i + n with P m below 0 -/
def firstF (P : Nat → Int) : Nat → Nat → V
  | _, 0 => .non
  | i, n + 1 => if P (i + 1) < 0 then .int ((i + 1 : Nat) : Int) else firstF P (i + 1) n
def lackV (xs ys : List Int) : V := firstF (lead xs ys) 0 (max xs.length ys.length)
theorem firstF_step {P : Nat → Int} {i n : Nat} (h : i < n) : firstF P i (n - i) = if P (i + 1) < 0 then .int ((i + 1 : Nat) : Int) else firstF P (i + 1) (n - (i + 1)) := by
  obtain ⟨m, rfl⟩ : ∃ m, n = i + (m + 1) := ⟨n - i - 1, by omega⟩
  rw [show i + (m + 1) - i = m + 1 by omega, show i + (m + 1) - (i + 1) = m by omega]
  rfl
theorem firstF_non {P : Nat → Int} : ∀ {n i : Nat}, firstF P i n = .non ↔ ∀ m, i < m → m ≤ i + n → 0 ≤ P m
  | 0, i => ⟨fun _ m h1 h2 => by omega, fun _ => rfl⟩
  | n + 1, i => by
    unfold firstF
    by_cases c : P (i + 1) < 0
    · rw [if_pos c]
      refine ⟨fun z => (by cases z), fun h => ?_⟩
      have := h (i + 1) (by omega) (by omega)
      omega
    · rw [if_neg c, firstF_non (n := n)]
      refine ⟨fun h m h1 h2 => ?_, fun h m h1 h2 => h m (by omega) (by omega)⟩
      by_cases e : m = i + 1
      · rw [e]
        omega
      · exact h m (by omega) (by omega)
theorem firstF_some {P : Nat → Int} : ∀ {n i : Nat} {v : V}, firstF P i n = v → v ≠ .non → ∃ m : Nat, v = .int (m : Int) ∧ i < m ∧ m ≤ i + n ∧ P m < 0
  | 0, i, v, h, hv => absurd h.symm hv
  | n + 1, i, v, h, hv => by
    unfold firstF at h
    by_cases c : P (i + 1) < 0
    · rw [if_pos c] at h
      exact ⟨i + 1, h.symm, by omega, by omega, c⟩
    · rw [if_neg c] at h
      obtain ⟨m, h1, h2, h3, h4⟩ := firstF_some h hv
      exact ⟨m, h1, by omega, by omega, h4⟩
theorem gaps_len (xs ys : List Int) : (gapsL xs ys).length = max xs.length ys.length := by
  unfold gapsL
  simp
theorem gaps_get {xs ys : List Int} {i : Nat} {x : V} (h : ((gapsL xs ys).map V.int)[i]? = some x) : i < max xs.length ys.length ∧ x = .int (xs.getD i 0 - ys.getD i 0) := by
  have hi := lt_of_get h
  rw [List.length_map, gaps_len] at hi
  refine ⟨hi, ?_⟩
  unfold gapsL at h
  rw [List.getElem?_map, List.getElem?_map, List.getElem?_range hi] at h
  cases h
  rfl
theorem vget (xs : List Int) (i : Nat) : (xs.map V.int)[i]?.getD (.int 0) = .int (xs.getD i 0) := by
  rw [List.getElem?_map]
  cases e : xs[i]? <;> simp [List.getD, e]
section
variable {P : Program} {w : World} {K : PySem.W.Frag} {mg : Str → Option Value} {base : Heap}
def sp_gaps : Sp := fun vs H Q _ => ∃ (a b : Addr) (xs ys : List Int), vs = [.ref a, .ref b] ∧ Ll H a xs ∧ Ll H b ys ∧ xs.length ≤ 400 ∧ ys.length ≤ 400 ∧ RetL ((gapsL xs ys).map V.int) H Q
theorem ok_gaps (T : Tx K mg) : FnOk P w K mg base CX0 1 T.a_gaps T.d_gaps ["one", "other"] sp_gaps := by
  refine T.F_gaps.ok sc_gaps (fun vs H Q E h => ?_) (fun cdv A outer s H vs Q E hr h => ?_)
  · obtain ⟨a, b, xs, ys, rfl, _⟩ := h
    rfl
  · obtain ⟨a, b, xs, ys, rfl, hx, hy, lx, ly, q⟩ := h
    refine ⟨_, (pss_one (ps_ret (pe_lc (own := [("part", 2), ("facing", 3)]) (g := g2n K 2 3) (by rfl) sc_gaps.nd (pi_zipL (by rfl) T.g_zip_longest (pa_cons (pv 0) (pa_cons (pv 1) pa_nil)) (pk_cons pe_int pk_nil)) (blkOk_by (own := [("part", 2), ("facing", 3)]) (N := ["one", "other", "part", "facing"]) (sc := defScope s_gaps) (by decide +kernel)) (fun _ _ _ _ _ => (pg_tup rfl (pgs_cons (pg_name (i := 2) sc_gaps.nd rfl (Or.inl rfl)) (pgs_cons (pg_name (i := 3) sc_gaps.nd rfl (Or.inl rfl)) pgs_nil)))) (fun _ _ _ _ _ => pts_nil) (fun _ _ _ _ _ => (pe_op op_sub (pv 2) (pv 3)))))), ?_⟩
    refine s_retL (el_is (el_lcZ (d := .int 0) (fun _ => true) (fun i => .int (xs.getD i 0 - ys.getD i 0)) (ea_cons (ev_var rfl) (ea_cons (ev_var rfl) ea_nil)) (ea_cons ev_c ea_nil) hx.sq hy.sq (by rw [List.length_map, List.length_map]; omega) (fun _ _ => rfl)
      (fun i H2 hi e2 => et_yes) fun i H2 hi e2 _ => ?_) ?_) fun p H1 np e1 hp => q p H1 np e1 hp
    · rw [vget, vget]
      exact ev_rI0 (ev_var rfl) (ev_var rfl)
    · rw [List.length_map, List.length_map, given_all]
      unfold gapsL
      rw [List.map_map]
      rfl
theorem spl_gaps {a b : Addr} {xs ys : List Int} {H : Hp} (hx : Ll H a xs) (hy : Ll H b ys) (lx : xs.length ≤ 400) (ly : ys.length ≤ 400) : SpL sp_gaps [.ref a, .ref b] H ((gapsL xs ys).map V.int) := fun H1 e _ q _ => ⟨a, b, xs, ys, rfl, e _ _ hx, e _ _ hy, lx, ly, q⟩
def sp_check_pair (C : Addr) : Sp := fun vs H Q E => ∃ (a b : Addr) (xs ys : List Int), vs = [.ref a, .ref b] ∧ Ll H a xs ∧ Ll H b ys ∧ IsP xs ∧ IsP ys ∧ (xs.sum ≠ ys.sum → ∀ H', Ex H H' → E (.ref C) none H') ∧ (xs.sum = ys.sum → RetV .non H Q)
theorem ok_check_pair (T : Tx K mg) : FnOk P w K mg base (L2.CX P w) 4 T.a_check_pair T.d_check_pair ["one", "other"] (sp_check_pair T.C_NoFit) := by
  refine T.F_check_pair.okX sc_check_pair (fun vs H Q E h => ?_) (fun cdv A outer s H vs Q E hr h => ?_)
  · obtain ⟨a, b, xs, ys, rfl, _⟩ := h
    rfl
  · obtain ⟨a, b, xs, ys, rfl, hx, hy, ix, iy, qn, qs⟩ := h
    refine ⟨_, (pss_cons (ps_expr (pe_call (ok_check_parting T) (hr.mono (by decide)) (by rfl) T.g_check_parting T.F_check_parting.kp T.b_check_parting .nil pass0 (pa_cons (pv 0) pa_nil)))
    (pss_cons (ps_expr (pe_call (ok_check_parting T) (hr.mono (by decide)) (by rfl) T.g_check_parting T.F_check_parting.kp T.b_check_parting .nil pass0 (pa_cons (pv 1) pa_nil)))
    (pss_one (ps_if (pt_cmpR op_ne (pe_callB (sumK (K := K) rfl rfl) (by rfl) T.n_sum (by decide +kernel) (pa_cons (pv 0) pa_nil)) (pe_callB (sumK (K := K) rfl rfl) (by rfl) T.n_sum (by decide +kernel) (pa_cons (pv 1) pa_nil)) (nomark _))
      (pss_one (ps_raise rfl (takes_of rfl rfl rfl rfl) (pmk_own PySem.F.excBase_ValueError T.x_NoFit T.g_NoFit T.k_NoFit (raises_own T.s_NoFit T.t_NoFit) rfl)))
      pss_nil)))), ?_⟩
    refine q_drop (ev_call (ea_cons (ev_var rfl) ea_nil) (spv_check hx ix)) fun H1 e1 => ?_
    refine q_drop (ev_call (ea_cons (ev_var rfl) ea_nil) (spv_check (e1 _ _ hy) iy)) fun H2 e2 => ?_
    have e12 := e1.trans e2
    refine s_when (et_test (ev_ne (ev_cb (ea_cons (ev_var rfl) ea_nil) (rc_sum (Ll.sq (e12 _ _ hx)))) (ev_cb (ea_cons (ev_var rfl) ea_nil) (rc_sum (Ll.sq (e12 _ _ hy)))) rfl)) (fun hb H3 e3 => ?_) (fun hb H3 e3 => ?_)
    · show E (.ref T.C_NoFit) none H3
      exact qn (fun z => by rw [z] at hb; simp at hb) H3 (e12.trans e3)
    · refine qs ?_ H3 (e12.trans e3)
      have := hb
      simp at this
      exact this
theorem spv_pair {a b C : Addr} {xs ys : List Int} {H : Hp} (hx : Ll H a xs) (hy : Ll H b ys) (ix : IsP xs) (iy : IsP ys) (he : xs.sum = ys.sum) : SpV (sp_check_pair C) [.ref a, .ref b] H .non := fun H1 e _ q _ => ⟨a, b, xs, ys, rfl, e _ _ hx, e _ _ hy, ix, iy, fun z => absurd he z, fun _ => q⟩
def sp_lacking_count (C : Addr) : Sp := fun vs H Q E => ∃ (a b : Addr) (xs ys : List Int), vs = [.ref a, .ref b] ∧ Ll H a xs ∧ Ll H b ys ∧ IsP xs ∧ IsP ys ∧ (xs.sum ≠ ys.sum → ∀ H', Ex H H' → E (.ref C) none H') ∧ (xs.sum = ys.sum → RetV (lackV xs ys) H Q)
theorem ok_lacking_count (T : Tx K mg) : FnOk P w K mg base (L2.CX P w) 5 T.a_lacking_count T.d_lacking_count ["one", "other"] (sp_lacking_count T.C_NoFit) := by
  refine T.F_lacking_count.okX sc_lacking_count (fun vs H Q E h => ?_) (fun cdv A outer s H vs Q E hr h => ?_)
  · obtain ⟨a, b, xs, ys, rfl, _⟩ := h
    rfl
  · obtain ⟨a, b, xs, ys, rfl, hx, hy, ix, iy, qn, qs⟩ := h
    refine ⟨_, (pss_cons (ps_expr (pe_call (ok_check_pair T) (hr.mono (by decide)) (by rfl) T.g_check_pair T.F_check_pair.kp T.b_check_pair .nil (E := E) (passes_call (takes_of rfl rfl rfl rfl) fun _ _ _ _ h => h) (pa_cons (pv 0) (pa_cons (pv 1) pa_nil))))
    (pss_cons (ps_set (i := 2) sc_lacking_count.nd rfl (Or.inl rfl) pe_int)
    (pss_cons (ps_for (g := g2n K 3 4) (passes_of rfl) rfl (pi_enum (by rfl) T.n_enumerate (pa_cons (pe_call (ok_gaps T) (hr.mono (by decide)) (by rfl) T.g_gaps T.F_gaps.kp T.b_gaps .nil pass0 (pa_cons (pv 0) (pa_cons (pv 1) pa_nil))) pa_nil)) (pg_tup rfl (pgs_cons (pg_name (i := 3) sc_lacking_count.nd rfl (Or.inl rfl)) (pgs_cons (pg_name (i := 4) sc_lacking_count.nd rfl (Or.inl rfl)) pgs_nil)))
      (pss_cons (ps_aug (i := 2) sc_lacking_count.nd rfl (Or.inl rfl) (pv 4) ip_add)
      (pss_one (ps_if (pt_cmpR op_lt (pv 2) pe_int (nomark _))
        (pss_one (ps_ret (pe_op op_add (pv 3) pe_int)))
        pss_nil))))
    (pss_one (ps_ret pe_non))))), ?_⟩
    by_cases he : xs.sum = ys.sum
    · have q := qs he
      have lx := ix.len
      have ly := iy.len
      refine q_drop (ev_call (ea_cons (ev_var rfl) (ea_cons (ev_var rfl) ea_nil)) (spv_pair hx hy ix iy he)) fun H1 e1 => ?_
      refine q_asg ev_c fun H2 e2 => ?_
      have e12 := e1.trans e2
      refine q_forEN (Pv := fun p i σ' H' => ∃ y1 y2 : Option V, σ' = [some (.ref a), some (.ref b), some (.int (lead xs ys i)), y1, y2] ∧ Ex H H' ∧ Ll H' p (gapsL xs ys) ∧ lackV xs ys = firstF (lead xs ys) i (max xs.length ys.length - i))
        (el_call (ea_cons (ev_var rfl) (ea_cons (ev_var rfl) ea_nil)) (spl_gaps (e12 _ _ hx) (e12 _ _ hy) (by omega) (by omega))) (fun p H3 np e3 hp => ⟨none, none, rfl, e12.trans e3, hp, rfl⟩) (fun p i σ' H' _ hP => ?_) (fun p i x σ' H' H3 hg hP e3 => ?_) (fun p σ' H' hP => ?_)
      · obtain ⟨_, _, _, _, hp, _⟩ := hP
        exact hp.sq
      · obtain ⟨y1, y2, rfl, eH, hp, hl⟩ := hP
        obtain ⟨hi, rfl⟩ := gaps_get hg
        rw [firstF_step hi] at hl
        refine q_aug rfl (ev_var rfl) fun H4 e4 => ?_
        rw [← lead_next]
        refine s_when (et_test (ev_rI0 (ev_var rfl) ev_c)) (fun hb H5 e5 => ?_) (fun hb H5 e5 => ?_)
        · refine s_ret (ev_is (w := lackV xs ys) (ev_rI0 (ev_var rfl) ev_c) ?_) fun H6 e6 => q H6 (eH.trans (((e3.trans e4).trans e5).trans e6))
          rw [hl, if_pos (of_decide_eq_true hb)]
          rfl
        · rw [if_neg (of_decide_eq_false hb)] at hl
          exact ⟨_, _, rfl, eH.trans ((e3.trans e4).trans e5), ((e3.trans e4).trans e5) _ _ hp, hl⟩
      · obtain ⟨y1, y2, rfl, eH, hp, hl⟩ := hP
        rw [List.length_map, gaps_len, Nat.sub_self] at hl
        have hl' : lackV xs ys = .non := hl
        rw [hl'] at q
        exact s_ret ev_c fun H3 e3 => q H3 (eH.trans e3)
    · exact ⟨.ref a, rfl, .ref b, rfl, a, b, xs, ys, rfl, hx, hy, ix, iy, fun _ => qn he, fun z => absurd z he⟩
theorem spv_lacking {a b C : Addr} {xs ys : List Int} {H : Hp} (hx : Ll H a xs) (hy : Ll H b ys) (ix : IsP xs) (iy : IsP ys) (he : xs.sum = ys.sum) : SpV (sp_lacking_count C) [.ref a, .ref b] H (lackV xs ys) := fun H1 e _ q _ => ⟨a, b, xs, ys, rfl, e _ _ hx, e _ _ hy, ix, iy, fun z => absurd he z, fun _ => q⟩
def sp_lies_above (C : Addr) : Sp := fun vs H Q E => ∃ (a b : Addr) (xs ys : List Int), vs = [.ref a, .ref b] ∧ Ll H a xs ∧ Ll H b ys ∧ IsP xs ∧ IsP ys ∧ (xs.sum ≠ ys.sum → ∀ H', Ex H H' → E (.ref C) none H') ∧ (xs.sum = ys.sum → RetV (.bl (decide (lackV xs ys = .non))) H Q)
theorem ok_lies_above (T : Tx K mg) : FnOk P w K mg base (L2.CX P w) 6 T.a_lies_above T.d_lies_above ["one", "other"] (sp_lies_above T.C_NoFit) := by
  refine T.F_lies_above.okX sc_lies_above (fun vs H Q E h => ?_) (fun cdv A outer s H vs Q E hr h => ?_)
  · obtain ⟨a, b, xs, ys, rfl, _⟩ := h
    rfl
  · obtain ⟨a, b, xs, ys, rfl, hx, hy, ix, iy, qn, qs⟩ := h
    refine ⟨_, (pss_one (ps_ret (pe_cmpR op_isN (pe_call (ok_lacking_count T) (hr.mono (by decide)) (by rfl) T.g_lacking_count T.F_lacking_count.kp T.b_lacking_count .nil (E := E) (passes_call (takes_of rfl rfl rfl rfl) fun _ _ _ _ h => h) (pa_cons (pv 0) (pa_cons (pv 1) pa_nil))) pe_non (nomark _)))), ?_⟩
    by_cases he : xs.sum = ys.sum
    · exact s_ret (ev_isN (ev_call (ea_cons (ev_var rfl) (ea_cons (ev_var rfl) ea_nil)) (spv_lacking hx hy ix iy he))) fun H1 e1 => qs he H1 e1
    · exact ⟨.ref a, rfl, .ref b, rfl, a, b, xs, ys, rfl, hx, hy, ix, iy, fun _ => qn he, fun z => absurd z he⟩
theorem spv_above {a b C : Addr} {xs ys : List Int} {H : Hp} (hx : Ll H a xs) (hy : Ll H b ys) (ix : IsP xs) (iy : IsP ys) (he : xs.sum = ys.sum) : SpV (sp_lies_above C) [.ref a, .ref b] H (.bl (decide (lackV xs ys = .non))) := fun H1 e _ q _ => ⟨a, b, xs, ys, rfl, e _ _ hx, e _ _ hy, ix, iy, fun z => absurd he z, fun _ => q⟩
end
/-! ### a box moved: the row, its parts and its sum -/
/-- the row with the box moved, a 0 behind -/
def moved (ns : List Int) (i j : Nat) : List Int := let r := (ns ++ [0]).set i ((ns ++ [0]).getD i 0 - 1); r.set j (r.getD j 0 + 1)
theorem get_getD {l : List Int} {j : Nat} (h : j < l.length) : l[j]? = some (l.getD j 0) := by
  rw [List.getD, List.getElem?_eq_getElem h]
  rfl
theorem moved_len (ns : List Int) (i j : Nat) : (moved ns i j).length = ns.length + 1 := by
  unfold moved
  simp
theorem moved_get {ns : List Int} {i j : Nat} (hij : i < j) (hj : j ≤ ns.length) (k : Nat) : (moved ns i j).getD k 0 = (if k = i then (ns ++ [0]).getD k 0 - 1 else if k = j then (ns ++ [0]).getD k 0 + 1 else (ns ++ [0]).getD k 0) := by
  have hl : (ns ++ [0]).length = ns.length + 1 := by simp
  unfold moved
  simp only [List.getD_eq_getElem?_getD]
  rw [List.getElem?_set]
  by_cases h1 : j = k
  · subst h1
    rw [if_pos rfl, if_neg (by omega : ¬ j = i), if_pos rfl, if_pos (by rw [List.length_set]; omega)]
    simp only [Option.getD_some]
    rw [List.getElem?_set_ne (by omega)]
  · rw [if_neg h1, List.getElem?_set]
    by_cases h2 : i = k
    · subst h2
      rw [if_pos rfl, if_pos rfl, if_pos (by omega)]
      rfl
    · rw [if_neg h2, if_neg (by omega), if_neg (by omega)]
theorem front_get {ns : List Int} {k : Nat} (h : k < ns.length) : (ns ++ [0]).getD k 0 = ns[k] := by
  simp [List.getD, List.getElem?_append_left h, h]
theorem back_get {ns : List Int} : (ns ++ [0]).getD ns.length 0 = 0 := by simp [List.getD]
theorem sum_set_at : ∀ {l : List Int} {k : Nat} (z : Int), k < l.length → (l.set k z).sum = l.sum - l.getD k 0 + z
  | [], _, _, h => by simp at h
  | a :: r, 0, z, _ => by
    show (z :: r).sum = (a :: r).sum - a + z
    rw [List.sum_cons, List.sum_cons]
    omega
  | a :: r, k + 1, z, h => by
    have ih := sum_set_at (l := r) (k := k) z (by simpa using h)
    show (a :: r.set k z).sum = (a :: r).sum - r.getD k 0 + z
    rw [List.sum_cons, List.sum_cons, ih]
    omega
theorem moved_sum {ns : List Int} {i j : Nat} (hij : i < j) (hj : j ≤ ns.length) : (moved ns i j).sum = ns.sum := by
  have hl : (ns ++ [0]).length = ns.length + 1 := by simp
  unfold moved
  rw [sum_set_at _ (by rw [List.length_set]; omega), sum_set_at _ (by omega), sum_append]
  simp only [List.sum_cons, List.sum_nil]
  omega
theorem mem_getD {l : List Int} {x : Int} (h : x ∈ l) : ∃ k, k < l.length ∧ l.getD k 0 = x := by
  obtain ⟨k, hk, e⟩ := List.mem_iff_getElem.mp h
  exact ⟨k, hk, by simp [List.getD, hk, e]⟩
theorem getD_mem {l : List Int} {k : Nat} (h : k < l.length) : l.getD k 0 ∈ l := by
  have : l.getD k 0 = l[k] := by simp [List.getD, h]
  rw [this]
  exact List.getElem_mem h
/-! ### _law_pair_by: two partings of one whole -/
theorem desc_adj : ∀ {l : List Int}, (∀ t, t + 1 < l.length → l.getD (t + 1) 0 ≤ l.getD t 0) → l.Pairwise (fun a b => b ≤ a) := fun {l} step => by
  have far : ∀ d i, i + d < l.length → l.getD (i + d) 0 ≤ l.getD i 0 := by
    intro d
    induction d with
    | zero => exact fun i _ => Int.le_refl _
    | succ d ih =>
      intro i hi
      have h1 := ih i (by omega)
      have h2 := step (i + d) (by omega)
      rw [show i + (d + 1) = i + d + 1 by omega]
      omega
  rw [List.pairwise_iff_getElem]
  intro i j hi hj hij
  have h1 := far (j - i) i (by omega)
  rw [show i + (j - i) = j by omega] at h1
  simpa [List.getD, hi, hj] using h1
theorem sum_pos : ∀ {l : List Int}, (∀ x ∈ l, 0 ≤ x) → (l.filter fun z => decide (0 < z)).sum = l.sum
  | [], _ => rfl
  | x :: r, h => by
    have h1 := h x List.mem_cons_self
    have ih := sum_pos (l := r) fun y hy => h y (List.mem_cons_of_mem _ hy)
    rw [List.filter_cons]
    by_cases c : 0 < x
    · rw [if_pos (by simpa using c), List.sum_cons, List.sum_cons, ih]
    · rw [if_neg (by simpa using c), List.sum_cons, ih]
      omega
/-- a row of parts from 0 on that don't rise, its noughts left out -/
theorem pos_ok {l : List Int} (h0 : ∀ x ∈ l, 0 ≤ x) (hd : l.Pairwise (fun a b => b ≤ a)) (hs : l.sum ≤ 200) : IsP (l.filter fun z => decide (0 < z)) := by
  refine ⟨fun x hx => ?_, hd.filter _, by rw [sum_pos h0]; exact hs⟩
  have := (List.mem_filter.mp hx).2
  simp at this
  omega
theorem moved_nn {ns : List Int} {i j : Nat} (hp : IsP ns) (hi : i < ns.length) (hij : i < j) (hj : j ≤ ns.length) : ∀ x ∈ moved ns i j, 0 ≤ x := fun x hx => by
  obtain ⟨k, hk, rfl⟩ := mem_getD hx
  rw [moved_len] at hk
  rw [moved_get hij hj]
  have nn : 0 ≤ (ns ++ [0]).getD k 0 := by
    by_cases c : k < ns.length
    · rw [front_get c]
      have := hp.1 ns[k] (List.getElem_mem c)
      omega
    · rw [show k = ns.length by omega, back_get]
      exact Int.le_refl _
  by_cases c : k = i
  · rw [if_pos c, c, front_get hi]
    have := hp.1 ns[i] (List.getElem_mem hi)
    omega
  · rw [if_neg c]
    split <;> omega
theorem ones_flat (n : Nat) : (List.replicate n [V.int 1]).flatten = (List.replicate n (1 : Int)).map V.int := by
  induction n with
  | zero => rfl
  | succ n ih => rw [List.replicate_succ, List.flatten_cons, ih, List.replicate_succ]; rfl
theorem sum_ones (n : Nat) : (List.replicate n (1 : Int)).sum = (n : Int) := by
  induction n with
  | zero => rfl
  | succ n ih => rw [List.replicate_succ, List.sum_cons, ih]; omega
theorem ones_ok {ys : List Int} {n : Nat} (hp : IsP ys) (hs : ys.sum + (n : Int) ≤ 200) : IsP (ys ++ List.replicate n 1) := by
  refine ⟨fun x hx => ?_, ?_, by rw [sum_append, sum_ones]; exact hs⟩
  · rcases List.mem_append.mp hx with h | h
    · exact hp.1 x h
    · rw [(List.mem_replicate.mp h).2]
      exact Int.le_refl _
  · refine List.pairwise_append.mpr ⟨hp.2.1, ?_, fun a ha b hb => ?_⟩
    · exact List.pairwise_replicate.mpr (.inr (Int.le_refl _))
    · rw [(List.mem_replicate.mp hb).2]
      exact hp.1 a ha
theorem head_ok {y : Int} {r : List Int} {n : Int} (hp : IsP (y :: r)) (hn : 0 ≤ n) (hs : (y :: r).sum + n ≤ 200) : IsP ((y + n) :: r) := by
  obtain ⟨h1, h2, h3⟩ := hp
  rw [List.pairwise_cons] at h2
  rw [List.sum_cons] at hs h3
  refine ⟨fun x hx => ?_, List.pairwise_cons.mpr ⟨fun b hb => ?_, h2.2⟩, ?_⟩
  · rcases List.mem_cons.mp hx with e | h
    · have := h1 y List.mem_cons_self
      omega
    · exact h1 x (List.mem_cons_of_mem _ h)
  · have := h2.1 b hb
    omega
  · rw [List.sum_cons]
    omega
theorem cut_tail (xs : List V) : cutV xs (some 1) none = xs.drop 1 := by
  unfold cutV HT.sIx
  cases xs with
  | nil => rfl
  | cons x r =>
    simp
section
variable {P : Program} {w : World} {K : PySem.W.Frag} {mg : Str → Option Value} {base : Heap}
/-- a pair of partings of one whole, all new -/
def RetPair (H : Hp) (Q : VK) : Prop := ∀ (p1 p2 t : Addr) (xs ys : List Int) (H2 : Hp), H p1 = none → H p2 = none → H t = none → Ex H H2 → Ll H2 p1 xs → Ll H2 p2 ys → H2 t = some (.tup [.ref p1, .ref p2]) → IsP xs → IsP ys → xs.sum = ys.sum → Q (.ref t) H2
def sp_law_pair_by (K : PySem.W.Frag) : Sp := fun vs H Q _ => ∃ (a : Addr) (ns : List Int), vs = [.ref a] ∧ SqL K H a (ns.map V.int) ∧ ns.length ≤ 63 ∧ RetPair H Q
theorem ok_law_pair_by (T : Tx K mg) : FnOk P w K mg base CX0 4 T.a_law_pair_by T.d_law_pair_by ["_law_script"] (sp_law_pair_by K) := by
  refine T.F_law_pair_by.ok sc_law_pair_by (fun vs H Q E h => ?_) (fun cdv A outer s H vs Q E hr h => ?_)
  · obtain ⟨a, ns, rfl, _⟩ := h
    rfl
  · obtain ⟨a, ns, rfl, hS, hlen, q⟩ := h
    refine ⟨_, (pss_cons (ps_set (i := 1) sc_law_pair_by.nd rfl (Or.inl rfl) (pe_call (ok_law_parting_by T) (hr.mono (by decide)) (by rfl) T.g_law_parting_by T.F_law_parting_by.kp T.b_law_parting_by .nil pass0 (pa_cons (pv 0) (pa_cons pe_int pa_nil))))
    (pss_cons (ps_set (i := 2) sc_law_pair_by.nd rfl (Or.inl rfl) (pe_call (ok_law_number T) (hr.mono (by decide)) (by rfl) T.g_law_number T.F_law_number.kp T.b_law_number .nil pass0 (pa_cons (pv 0) (pa_cons pe_int pa_nil))))
    (pss_cut (ps_if (pt_cmpR op_gt (pe_op op_mod (pv 2) pe_int) pe_int (nomark _))
      (pss_cons (ps_set (i := 3) sc_law_pair_by.nd rfl (Or.inl rfl) (pe_call (ok_law_parting_by T) (hr.mono (by decide)) (by rfl) T.g_law_parting_by T.F_law_parting_by.kp T.b_law_parting_by .nil pass0 (pa_cons (pv 0) (pa_cons pe_int pa_nil))))
      (pss_cons (ps_set (i := 4) sc_law_pair_by.nd rfl (Or.inl rfl) (pe_op op_sub (pe_callB (sumK (K := K) rfl rfl) (by rfl) T.n_sum (by decide +kernel) (pa_cons (pv 1) pa_nil)) (pe_callB (sumK (K := K) rfl rfl) (by rfl) T.n_sum (by decide +kernel) (pa_cons (pv 3) pa_nil))))
      (pss_cut (ps_if (pt_cmpR op_lt (pv 4) pe_int (nomark _))
        (pss_one (ps_par (i := 1) (j := 3) (by rfl) sc_law_pair_by.nd rfl rfl (by decide) rfl rfl (pa_cons (pv 3) (pa_cons (pv 1) pa_nil)) (by rfl)))
        pss_nil)
      (pss_cons (ps_set (i := 4) sc_law_pair_by.nd rfl (Or.inl rfl) (pe_callB call_abs (by rfl) T.n_abs (by decide +kernel) (pa_cons (pv 4) pa_nil)))
      (pss_one (ps_if (PW.pt (pw_or (pt_cmpR op_eq (pe_op op_mod (pe_op op_fdiv (pv 2) pe_int) pe_int) pe_int (nomark _)) (pw_or1 (pt_cmpR (eqK (K := K) rfl hr.units) (pv 3) (pe_lst pa_nil) (nomark _)))))
        (pss_one (ps_set (i := 3) sc_law_pair_by.nd rfl (Or.inl rfl) (pe_op op_cat (pv 3) (pe_op op_rep (pe_lst (pa_cons pe_int pa_nil)) (pv 4)))))
        (pss_one (ps_set (i := 3) sc_law_pair_by.nd rfl (Or.inl rfl) (pe_op op_cat (pe_lst (pa_cons (pe_op op_add (pe_ix (ixlK (K := K) rfl) (pv 3) pe_int (fun _ _ => rfl)) (pv 4)) pa_nil)) (pe_slice (sllK (K := K) rfl) (pv 3) (po_some pe_int) po_none))))))))))
      (pss_cons (ps_set (i := 3) sc_law_pair_by.nd rfl (Or.inl rfl) (pe_callTy (listK (K := K) rfl) (by rfl) T.n_list (by decide +kernel) (pa_cons (pv 1) pa_nil)))
      (pss_one (ps_for PassesOwn.never rfl (pi_range1 rfl T.n_range (pa_cons (pe_op op_mod (pe_op op_fdiv (pv 2) pe_int) pe_int) pa_nil)) (pg_name (i := 5) sc_law_pair_by.nd rfl (Or.inl rfl))
        (pss_cons (ps_set (i := 6) sc_law_pair_by.nd rfl (Or.inl rfl) (pe_op op_mod (pe_call (ok_law_number T) (hr.mono (by decide)) (by rfl) T.g_law_number T.F_law_number.kp T.b_law_number .nil pass0 (pa_cons (pv 0) (pa_cons (pe_op op_add pe_int (pv 5)) pa_nil))) (pe_op op_add (pe_callB (lenK (K := K) rfl) (by rfl) T.n_len PySem.boot_len (pa_cons (pv 3) pa_nil)) pe_int)))
        (pss_cons (ps_set (i := 7) sc_law_pair_by.nd rfl (Or.inl rfl) (pe_op op_add (pe_op op_add (pv 6) pe_int) (pe_op op_mod (pe_call (ok_law_number T) (hr.mono (by decide)) (by rfl) T.g_law_number T.F_law_number.kp T.b_law_number .nil pass0 (pa_cons (pv 0) (pa_cons (pe_op op_add pe_int (pv 5)) pa_nil))) pe_int)))
        (pss_cons (ps_set (i := 8) sc_law_pair_by.nd rfl (Or.inr rfl) (pe_op op_cat (pv 3) (pe_lst (pa_cons pe_int pa_nil))))
        (pss_one (ps_if (PW.pt (pw_and (pt_cmpR op_lt (pv 6) (pe_callB (lenK (K := K) rfl) (by rfl) T.n_len PySem.boot_len (pa_cons (pv 3) pa_nil)) (nomark _)) (pw_and1 (pt_cmpR op_lt (pv 7) (pe_callB (lenK (K := K) rfl) (by rfl) T.n_len PySem.boot_len (pa_cons (pv 8) pa_nil)) (nomark _)))))
          (pss_cons (ps_asg (pe_op op_sub (pe_ix (ixlK (K := K) rfl) (pv 8) (pv 6) (fun _ _ => rfl)) pe_int) (pg_sub (pv 8) (pv 6) set_list))
          (pss_cons (ps_asg (pe_op op_add (pe_ix (ixlK (K := K) rfl) (pv 8) (pv 7) (fun _ _ => rfl)) pe_int) (pg_sub (pv 8) (pv 7) set_list))
          (pss_one (ps_if (pt_val (pe_callB (allK (K := K) rfl rfl) (by rfl) T.n_all (by decide +kernel) (pa_cons (pe_lc (own := [("_law_j", 9)]) (g := gName 9) (by rfl) sc_law_pair_by.nd (pi_range2 (by rfl) T.n_range (pa_cons pe_int (pa_cons (pe_callB (lenK (K := K) rfl) (by rfl) T.n_len PySem.boot_len (pa_cons (pv 8) pa_nil)) pa_nil))) (blkOk_by (own := [("_law_j", 9)]) (N := ["_law_script", "_law_one", "_law_number_here", "_law_other", "_law_less", "_law_k", "_law_at", "_law_far", "_law_row", "_law_j", "_law_part"]) (sc := defScope s_law_pair_by) (by decide +kernel)) (fun _ _ _ _ _ => (pg_name (i := 9) sc_law_pair_by.nd rfl (Or.inl rfl))) (fun _ _ _ _ _ => pts_nil) (fun _ _ _ _ _ => (pe_cmpR op_le (pe_ix (ixlK (K := K) rfl) (pv 8) (pv 9) (fun _ _ => rfl)) (pe_ix (ixlK (K := K) rfl) (pv 8) (pe_op op_sub (pv 9) pe_int) (fun _ _ => rfl)) (nomark _)))) pa_nil)))
            (pss_one (ps_setLc (i := 3) (own := [("_law_part", 10)]) (g := gName 10) (by rfl) sc_law_pair_by.nd rfl rfl (sw_true rfl rfl rfl (by decide +kernel)) (pi_list (pv 8)) (blkOk_by (own := [("_law_part", 10)]) (N := ["_law_script", "_law_one", "_law_number_here", "_law_other", "_law_less", "_law_k", "_law_at", "_law_far", "_law_row", "_law_j", "_law_part"]) (sc := defScope s_law_pair_by) (by decide +kernel)) (fun _ _ _ _ _ => (pg_name (i := 10) sc_law_pair_by.nd rfl (Or.inl rfl))) (fun _ _ _ _ _ => pts_one (pt_cmpR op_gt (pv 10) pe_int (nomark _))) (fun _ _ _ _ _ => (pv 10))))
            pss_nil))))
          pss_nil)))))))))
    (pss_cons (ps_if (pt_cmpR op_eq (pe_op op_mod (pe_op op_fdiv (pv 2) pe_int) pe_int) pe_int (nomark _))
      (pss_one (ps_ret (pe_tup (pa_cons (pv 3) (pa_cons (pv 1) pa_nil)))))
      pss_nil)
    (pss_one (ps_ret (pe_tup (pa_cons (pv 1) (pa_cons (pv 3) pa_nil))))))))), ?_⟩
    refine q_asgP (evP_parting (ea_cons (ev_var rfl) (ea_cons ev_c ea_nil)) hS hlen (by decide) (by decide)) fun v H1 e1 hv => ?_
    obtain ⟨p, xs, rfl, np, hp, ix⟩ := hv
    have lx := ix.len
    refine q_asg (ev_call (ea_cons (ev_var rfl) (ea_cons ev_c ea_nil)) (spv_number (ex_l e1 hS) (by decide) (by decide))) fun H2 e2 => ?_
    have n0 := numb_nn ns 1
    generalize numb ns 1 = n at n0 ⊢
    have e12 := e1.trans e2
    have hp2 := e2 _ _ hp
    refine q_cut (M := fun σ' H' => ∃ (p1 p2 : Addr) (us ws : List Int) (y4 y5 y6 y7 y8 : Option V), σ' = [some (.ref a), some (.ref p1), some (.int n), some (.ref p2), y4, y5, y6, y7, y8, none, none] ∧ Ex H H' ∧ H p1 = none ∧ H p2 = none ∧ Ll H' p1 us ∧ Ll H' p2 ws ∧ IsP us ∧ IsP ws ∧ us.sum = ws.sum)
      (s_if (b := decide (0 < n % 3)) (et_test (ev_rI0 (ev_rI (ev_var rfl) ev_c (by decide)) ev_c)) (fun _ H3 e3 => ?_) (fun _ H3 e3 => ?_)) fun σ' H' hM => ?_
    · -- another parting, raised to the same whole
      have e13 := e12.trans e3
      refine q_asgP (evP_parting (ea_cons (ev_var rfl) (ea_cons ev_c ea_nil)) (ex_l e13 hS) hlen (by decide) (by decide)) fun v H4 e4 hv => ?_
      obtain ⟨o, ys, rfl, no, ho, iy⟩ := hv
      have no0 : H o = none := fresh_back e13 no
      have hp4 := e4 _ _ (e3 _ _ hp2)
      refine q_asg (ev_rI0 (ev_cb (ea_cons (ev_var rfl) ea_nil) (rc_sum (Ll.sq hp4))) (ev_cb (ea_cons (ev_var rfl) ea_nil) (rc_sum ho.sq))) fun H5 e5 => ?_
      refine q_cut (M := fun σ' H' => ∃ (p1 p2 : Addr) (us ws : List Int) (d : Int), σ' = [some (.ref a), some (.ref p1), some (.int n), some (.ref p2), some (.int d), none, none, none, none, none, none] ∧ Ex H H' ∧ H p1 = none ∧ H p2 = none ∧ Ll H' p1 us ∧ Ll H' p2 ws ∧ IsP us ∧ IsP ws ∧ ws.sum ≤ us.sum ∧ (if d < 0 then -d else d) = us.sum - ws.sum)
        (s_when (b := decide (xs.sum - ys.sum < 0)) (et_test (ev_rI0 (ev_var rfl) ev_c)) (fun hb H6 e6 => ?_) (fun hb H6 e6 => ?_)) fun σ' H' hM => ?_
      · have hb' := of_decide_eq_true hb
        refine (ea_cons (ev_var rfl) (ea_cons (ev_var rfl) ea_nil)) H6 (Ex.refl H6) _ fun H7 e7 => ⟨_, _, rfl, o, p, ys, xs, xs.sum - ys.sum, rfl, (((e13.trans e4).trans e5).trans e6).trans e7, no0, np, ((e5.trans e6).trans e7) _ _ ho, ((e5.trans e6).trans e7) _ _ hp4, iy, ix, by omega, ?_⟩
        rw [if_pos hb']
        omega
      · have hb' := of_decide_eq_false hb
        refine ⟨p, o, xs, ys, xs.sum - ys.sum, rfl, ((e13.trans e4).trans e5).trans e6, np, no0, (e5.trans e6) _ _ hp4, (e5.trans e6) _ _ ho, ix, iy, by omega, ?_⟩
        rw [if_neg hb']
      · obtain ⟨p1, p2, us, ws, d, rfl, eH, n1, n2, h1, h2, iu, iw, hle, hd⟩ := hM
        have lu := iu.len
        have lw := iw.len
        have su := iu.2.2
        have sw := len_le_sum iw.1
        refine q_asg (ev_cb (ea_cons (ev_var rfl) ea_nil) (fun H1 _ _ q => ⟨d, rfl, q H1 (Ex.refl H1)⟩)) fun H7 e7 => ?_
        rw [hd]
        have h17 := e7 _ _ h1
        have h27 := e7 _ _ h2
        refine s_if (b := decide (n / 3 % 2 = 1) || decide (ws = [])) (et_or (et_is (et_test (ev_eq (ev_rI (ev_rI (ev_var rfl) ev_c ⟨by decide, by decide⟩) ev_c (by decide)) ev_c rfl)) (by simp)) fun _ => et_test (ev_opL (ev_var rfl) (el_lst (vs := []) ea_nil (by decide)) fun z H8 hz e8 => rv_eqL (ys := []) (ex_l e8 (Ll.sq h27)) (sq_of hz))) (fun _ H8 e8 => ?_) (fun hb H8 e8 => ?_)
        · refine s_asgL (el_is (el_catR (zs := ws.map V.int) (ev_var rfl) (el_is (el_rep (el_lst (ea_cons ev_c ea_nil) (by show 1 ≤ 100000; decide)) (ev_var rfl) ⟨by omega, by omega⟩ (by show 1 * _ ≤ _; omega)) (ones_flat _)) (e8 _ _ h27) (by rw [List.length_map, List.length_map, List.length_replicate]; omega)) (List.map_append (f := V.int)).symm) fun z H9 nz e9 hz => ?_
          have hs' : ws.sum + (((us.sum - ws.sum).toNat : Nat) : Int) = us.sum := by omega
          exact ⟨p1, z, us, ws ++ List.replicate (us.sum - ws.sum).toNat 1, _, _, _, _, _, rfl, eH.trans ((e7.trans e8).trans e9), n1, fresh_back (eH.trans (e7.trans e8)) nz, (e8.trans e9) _ _ h17, hz, iu, ones_ok iw (by omega), by rw [sum_append, sum_ones]; omega⟩
        · have hb' : ws ≠ [] := fun z => by rw [z] at hb; simp at hb
          obtain ⟨y, r, rfl⟩ := List.exists_cons_of_ne_nil hb'
          refine s_asgL (el_is (el_catNN (zs := [V.int (y + (us.sum - (y :: r).sum))]) (ws := r.map V.int) (el_lst (ea_cons (ev_rI0 (ev_ixJ (j := 0) (ev_var rfl) ev_c (Ll.sq (e8 _ _ h27)) (by simp)) (ev_var rfl)) ea_nil) (by show 1 ≤ 100000; decide)) (el_is (el_sl (ev_var rfl) (eo_some ev_c) eo_none (Ll.sq (e8 _ _ h27))) (cut_tail _)) (by rw [List.length_map]; simp at lw ⊢; omega)) (zs := _) (ws := ((y + (us.sum - (y :: r).sum)) :: r).map V.int) rfl) fun z H9 nz e9 hz => ?_
          exact ⟨p1, z, us, _, _, _, _, _, _, rfl, eH.trans ((e7.trans e8).trans e9), n1, fresh_back (eH.trans (e7.trans e8)) nz, (e8.trans e9) _ _ h17, hz, iu, head_ok iw (by omega) (by omega), by rw [List.sum_cons, List.sum_cons]; omega⟩
    · -- the same parting, boxes moved
      refine q_asgL (el_cb (ea_cons (ev_var rfl) ea_nil) (rcl_list (Ll.sq (e3 _ _ hp2)))) fun o H4 no e4 ho => ?_
      have e14 := (e12.trans e3).trans e4
      have no0 : H o = none := fresh_back (e12.trans e3) no
      have hp4 := e4 _ _ (e3 _ _ hp2)
      refine s_forR1 (n := n / 3 % 5) (ea_cons (ev_rI (ev_rI (ev_var rfl) ev_c ⟨by decide, by decide⟩) ev_c (by decide)) ea_nil) ⟨by omega, by omega⟩
        (fun k σ' H' => ∃ (o : Addr) (zs : List Int) (y5 y6 y7 y8 : Option V), σ' = [some (.ref a), some (.ref p), some (.int n), some (.ref o), none, y5, y6, y7, y8, none, none] ∧ Ex H4 H' ∧ H o = none ∧ Ll H' o zs ∧ IsP zs ∧ zs.sum = xs.sum)
        (fun H5 e5 => ⟨o, xs, none, none, none, none, rfl, e5, no0, e5 _ _ ho, ix, rfl⟩) (fun k σ' H' hk hP => ?_) (fun σ' H' hP => ?_)
      · obtain ⟨o, zs, y5, y6, y7, y8, rfl, eH, no0, ho, iz, hsum⟩ := hP
        have lz := iz.len
        have hS' := ex_l (e14.trans eH) hS
        have hk5 : k < 5 := by omega
        have elz : ((zs.map V.int).length : Int) = (zs.length : Int) := by rw [List.length_map]
        refine q_asg (ev_rI (ev_call (ea_cons (ev_var rfl) (ea_cons (ev_rI0 ev_c (ev_var rfl)) ea_nil)) (spv_number hS' (by omega) (by omega))) (ev_rI0 (ev_cb (ea_cons (ev_var rfl) ea_nil) (rc_len ho.sq)) ev_c) (by rw [elz]; omega)) fun H5 e5 => ?_
        rw [elz]
        have a0 : 0 ≤ numb ns (200 + (k : Int)) % ((zs.length : Int) + 1) := Int.emod_nonneg _ (by omega)
        obtain ⟨i, hi⟩ := Int.eq_ofNat_of_zero_le a0
        rw [hi]
        have b0 := numb_nn ns (210 + (k : Int))
        refine q_asg (ev_rI0 (ev_rI0 (ev_var rfl) ev_c) (ev_rI (ev_call (ea_cons (ev_var rfl) (ea_cons (ev_rI0 ev_c (ev_var rfl)) ea_nil)) (spv_number (ex_l e5 hS') (by omega) (by omega))) ev_c (by decide))) fun H6 e6 => ?_
        have b1 : 0 ≤ numb ns (210 + (k : Int)) % 4 := by omega
        obtain ⟨j, hj⟩ := Int.eq_ofNat_of_zero_le (show 0 ≤ (i : Int) + 1 + numb ns (210 + (k : Int)) % 4 by omega)
        rw [hj]
        have hij : i < j := by omega
        have e56 := e5.trans e6
        refine q_asgL (xs := (zs ++ [0]).map V.int) (el_is (el_catR (ev_var rfl) (el_lst (ea_cons ev_c ea_nil) (by show 1 ≤ 100000; decide)) (e56 _ _ ho) (by rw [List.length_map]; show zs.length + 1 ≤ 100000; omega)) (by rw [List.map_append]; rfl)) fun r H7 nr e7 hr7 => ?_
        have nr' : H' r = none := fresh_back e56 nr
        have nrH : H4 r = none := fresh_back eH nr'
        have e57 := e56.trans e7
        have elr : (((zs ++ [0]).map V.int).length : Int) = (zs.length : Int) + 1 := by simp
        refine s_when (b := decide ((i : Int) < (zs.length : Int)) && decide ((j : Int) < (zs.length : Int) + 1)) (et_and (et_is (et_test (ev_rI0 (ev_var rfl) (ev_cb (ea_cons (ev_var rfl) ea_nil) (rc_len (Ll.sq (e57 _ _ ho)))))) (by rw [elz])) fun _ => et_is (et_test (ev_rI0 (ev_var rfl) (ev_cb (ea_cons (ev_var rfl) ea_nil) (rc_len (sq_of hr7))))) (by rw [elr])) (fun hb H8 e8 => ?_) (fun _ H8 e8 => ?_)
        · simp only [Bool.and_eq_true, decide_eq_true_eq] at hb
          have hi' : i < zs.length := by omega
          have hj' : j ≤ zs.length := by omega
          have l1 : (zs ++ [0]).length = zs.length + 1 := by simp
          have hr8 : Ll H8 r (zs ++ [0]) := e8 _ _ hr7
          refine q_setL hr8 (ev_rI0 (ev_ixJ (ev_var rfl) (ev_var rfl) hr8.sq (by omega)) ev_c) (ev_var rfl) (ev_var rfl) (by rw [List.length_map]; omega) fun H9 e9 => ?_
          rw [← List.map_set]
          have m9 : Ex H' (upd H9 r (.lst (((zs ++ [0]).set i ((zs ++ [0]).getD i 0 - 1)).map V.int))) := ((e57.trans e8).trans e9).mut nr'
          have hr9 : Ll (upd H9 r (.lst (((zs ++ [0]).set i ((zs ++ [0]).getD i 0 - 1)).map V.int))) r ((zs ++ [0]).set i ((zs ++ [0]).getD i 0 - 1)) := upd_same
          generalize upd H9 r (.lst (((zs ++ [0]).set i ((zs ++ [0]).getD i 0 - 1)).map V.int)) = G at m9 hr9
          refine q_setL hr9 (ev_rI0 (ev_ixJ (ev_var rfl) (ev_var rfl) hr9.sq (by rw [List.length_set]; omega)) ev_c) (ev_var rfl) (ev_var rfl) (by rw [List.length_map, List.length_set]; omega) fun G2 e10 => ?_
          rw [← List.map_set]
          have er : ((zs ++ [0]).set i ((zs ++ [0]).getD i 0 - 1)).set j (((zs ++ [0]).set i ((zs ++ [0]).getD i 0 - 1)).getD j 0 + 1) = moved zs i j := rfl
          rw [er]
          have m10 : Ex H' (upd G2 r (.lst ((moved zs i j).map V.int))) := (m9.trans e10).mut nr'
          have hr10 : Ll (upd G2 r (.lst ((moved zs i j).map V.int))) r (moved zs i j) := upd_same
          generalize upd G2 r (.lst ((moved zs i j).map V.int)) = G3 at m10 hr10
          have ml := moved_len zs i j
          have elm : (((moved zs i j).map V.int).length : Int) = ((moved zs i j).length : Int) := by rw [List.length_map]
          refine s_when (b := ((List.range (((moved zs i j).length : Int) - 1).toNat).map fun t => decide ((moved zs i j).getD (t + 1) 0 ≤ (moved zs i j).getD t 0)).all id)
            (et_B (ev_cbL (el_is (el_lcR2A (lo := 1) (n := ((moved zs i j).length : Int)) (fun t => V.bl (decide ((moved zs i j).getD (t + 1) 0 ≤ (moved zs i j).getD t 0))) (ea_cons ev_c (ea_cons (ev_is (ev_cb (ea_cons (ev_var rfl) ea_nil) (rc_len hr10.sq)) (by rw [elm])) ea_nil)) ⟨by decide, by decide, by omega, by omega⟩ (fun _ => rfl)
              fun t G4 e11 ht => ?_) (show _ = ((List.range (((moved zs i j).length : Int) - 1).toNat).map fun t => decide ((moved zs i j).getD (t + 1) 0 ≤ (moved zs i j).getD t 0)).map V.bl from (List.map_map).symm)) fun z G4 _ hz => rc_all (sq_of hz))) (fun hb2 G4 e11 => ?_) (fun _ G4 e11 => ?_)
          · have e1t : (1 : Int) + (t : Int) = ((t + 1 : Nat) : Int) := by omega
            rw [e1t]
            refine ev_rI0 (ev_ixJ (j := t + 1) (ev_var rfl) (ev_var rfl) (Ll.sq (e11 _ _ hr10)) (by omega)) (ev_ixJ (j := t) (ev_var rfl) (ev_is (ev_rI0 (ev_var rfl) ev_c) ?_) (Ll.sq (e11 _ _ hr10)) (by omega))
            rw [show ((t + 1 : Nat) : Int) - 1 = (t : Int) by omega]
          · have hd : (moved zs i j).Pairwise (fun a b => b ≤ a) := desc_adj fun t ht => by
              rw [List.all_eq_true] at hb2
              have := hb2 (decide ((moved zs i j).getD (t + 1) 0 ≤ (moved zs i j).getD t 0)) (List.mem_map.mpr ⟨t, List.mem_range.mpr (by omega), rfl⟩)
              simpa using this
            have nn := moved_nn iz hi' hij hj'
            have ms := moved_sum hij hj'
            have sz := iz.2.2
            refine s_asgL (el_lcI (fun z => decide (0 < z)) V.int (ev_var rfl) (Ll.sq (e11 _ _ hr10)) (by omega) (fun _ => rfl) (fun z G5 _ _ => et_test (ev_rI0 (ev_var rfl) ev_c)) fun z G5 _ _ _ => ev_var rfl) fun o2 G5 no2 e12' ho2 => ?_
            have eG := (m10.trans e11).trans e12'
            exact ⟨o2, _, _, _, _, _, rfl, eH.trans eG, fresh_back (e14.trans (eH.trans (m10.trans e11))) no2, ho2, pos_ok nn hd (by omega), by rw [sum_pos nn]; omega⟩
          · exact ⟨o, zs, _, _, _, _, rfl, eH.trans (m10.trans e11), no0, (m10.trans e11) _ _ ho, iz, hsum⟩
        · exact ⟨o, zs, _, _, _, _, rfl, eH.trans (e57.trans e8), no0, (e57.trans e8) _ _ ho, iz, hsum⟩
      · obtain ⟨o, zs, y5, y6, y7, y8, rfl, eH, no0, ho, iz, hsum⟩ := hP
        exact ⟨p, o, xs, zs, _, _, _, _, _, rfl, e14.trans eH, np, no0, eH _ _ hp4, ho, ix, iz, hsum.symm⟩
    · obtain ⟨p1, p2, us, ws, y4, y5, y6, y7, y8, rfl, eH, n1, n2, h1, h2, iu, iw, hs⟩ := hM
      refine q_when (b := decide (n / 60 % 2 = 1)) (et_is (et_test (ev_eq (ev_rI (ev_rI (ev_var rfl) ev_c ⟨by decide, by decide⟩) ev_c (by decide)) ev_c rfl)) (by simp)) (fun _ H7 e7 => ?_) (fun _ H7 e7 => ?_)
      · exact s_retU (eu_tup (ea_cons (ev_var rfl) (ea_cons (ev_var rfl) ea_nil)) (by show 2 ≤ 100000; decide)) fun t H8 nt e8 ht => q p2 p1 t ws us H8 n2 n1 (fresh_back (eH.trans e7) nt) ((eH.trans e7).trans e8) ((e7.trans e8) _ _ h2) ((e7.trans e8) _ _ h1) ht iw iu hs.symm
      · exact s_retU (eu_tup (ea_cons (ev_var rfl) (ea_cons (ev_var rfl) ea_nil)) (by show 2 ≤ 100000; decide)) fun t H8 nt e8 ht => q p1 p2 t us ws H8 n1 n2 (fresh_back (eH.trans e7) nt) ((eH.trans e7).trans e8) ((e7.trans e8) _ _ h1) ((e7.trans e8) _ _ h2) ht iu iw hs
theorem evP_pair {a : Addr} {ns : List Int} {σ : L2.St} {H : Hp} {ta : TA} {E : XK} (h : EvA ta σ H [.ref a]) (hS : SqL K H a (ns.map V.int)) (hl : ns.length ≤ 63) :
    EvP (tCall (sp_law_pair_by K) [] E ta) σ H (fun v H1 => ∃ (p1 p2 t : Addr) (xs ys : List Int), v = .ref t ∧ H p1 = none ∧ H p2 = none ∧ H t = none ∧ Ll H1 p1 xs ∧ Ll H1 p2 ys ∧ H1 t = some (.tup [.ref p1, .ref p2]) ∧ IsP xs ∧ IsP ys ∧ xs.sum = ys.sum) :=
  evP_call h fun H1 e Q q E => ⟨a, ns, rfl, ex_l e hS, hl, fun p1 p2 t xs ys H2 n1 n2 nt e2 h1 h2 ht ix iy hs => q _ _ e2 ⟨p1, p2, t, xs, ys, rfl, fresh_back e n1, fresh_back e n2, fresh_back e nt, h1, h2, ht, ix, iy, hs⟩⟩
end
/-! ### _law_name -/
section
variable {P : Program} {w : World} {K : PySem.W.Frag} {mg : Str → Option Value} {base : Heap}
/-- the name of the refusal NoFit -/
def sp_law_name (C : Addr) : Sp := fun vs H Q _ => ∃ e : Addr, vs = [.ref e] ∧ H e = some (ErrO (.ref C) e) ∧ RetV (.str "fit") H Q
theorem ok_law_name (T : Tx K mg) : FnOk P w K mg base CX0 1 T.a_law_name T.d_law_name ["_law_error"] (sp_law_name T.C_NoFit) := by
  refine T.F_law_name.ok sc_law_name (fun vs H Q E h => ?_) (fun cdv A outer s H vs Q E hr h => ?_)
  · obtain ⟨e, rfl, _⟩ := h
    rfl
  · obtain ⟨e, rfl, he, q⟩ := h
    refine ⟨_, (pss_cons (ps_set (i := 1) sc_law_name.nd rfl (Or.inl rfl) (pe_lst (pa_cons (pe_callB (isxK (K := K) rfl) (by rfl) T.n_isinstance (by decide +kernel) (pa_cons (pv 0) (pa_cons (pe_glob (v := .ref T.C_NoParting) rfl T.g_NoParting rfl) pa_nil))) (pa_cons (pe_callB (isxK (K := K) rfl) (by rfl) T.n_isinstance (by decide +kernel) (pa_cons (pv 0) (pa_cons (pe_glob (v := .ref T.C_NoFit) rfl T.g_NoFit rfl) pa_nil))) (pa_cons (pe_callB (isxK (K := K) rfl) (by rfl) T.n_isinstance (by decide +kernel) (pa_cons (pv 0) (pa_cons (pe_glob (v := .ref T.C_NoNumber) rfl T.g_NoNumber rfl) pa_nil))) pa_nil)))))
    (pss_cons (ps_if (PW.pt (pw_or (pt_cmpR op_ne (pe_bm PySem.F.plainAttrs_list PySem.F.slot_list_count PySem.F.type_list_count (mt_countB (K := K) rfl) (pv 1) (pa_cons pe_bl pa_nil)) pe_int (nomark _)) (pw_or1 (pt_not (pt_val (pe_callB (isxK (K := K) rfl) (by rfl) T.n_isinstance (by decide +kernel) (pa_cons (pv 0) (pa_cons (pe_bltn (v := .ty "ValueError") (u := .type "ValueError") (by rfl) T.n_ValueError (by decide +kernel) rfl) pa_nil))))))))
      (pss_one (ps_ret pe_str))
      pss_nil)
    (pss_one (ps_ret (pe_ix (ixlK (K := K) rfl) (pe_lst (pa_cons pe_str (pa_cons pe_str (pa_cons pe_str pa_nil)))) (pe_bm PySem.F.plainAttrs_list PySem.F.slot_list_index PySem.F.type_list_index mt_index (pv 1) (pa_cons pe_bl pa_nil)) (fun _ _ => rfl)))))), ?_⟩
    refine q_asgL (xs := [false, true, false].map V.bl) (el_lst (ea_cons (ev_cb (ea_cons (ev_var rfl) (ea_cons ev_c ea_nil)) (rc_isx he T.e_NoFit (.own _) T.q_NoFit_NoParting)) (ea_cons (ev_cb (ea_cons (ev_var rfl) (ea_cons ev_c ea_nil)) (rc_isx he T.e_NoFit (.own _) T.q_NoFit_NoFit)) (ea_cons (ev_cb (ea_cons (ev_var rfl) (ea_cons ev_c ea_nil)) (rc_isx he T.e_NoFit (.own _) T.q_NoFit_NoNumber)) ea_nil))) (by decide)) fun p H1 np e1 hp => ?_
    refine q_when (et_or (et_test (ev_ne (ev_countB (ev_var rfl) (sq_of hp) (ea_cons ev_c ea_nil)) ev_c rfl)) fun _ => et_not (et_B (ev_cb (ea_cons (ev_var rfl) (ea_cons ev_c ea_nil)) (rc_isx (e1 _ _ he) T.e_NoFit (.ty _) T.q_NoFit_ValueError)))) (fun hb => absurd hb (by decide)) (fun _ H2 e2 => ?_)
    refine s_ret (ev_ixN (i := 1) (el_lst (ea_cons ev_c (ea_cons ev_c (ea_cons ev_c ea_nil))) (by decide)) (fun H3 e3 => ev_indexB (n := 1) (ev_var rfl) (sq_of (e3 _ _ (e2 _ _ hp))) (ea_cons ev_c ea_nil) rfl (fun m c hm hc => ?_)) rfl) fun H3 e3 => q H3 ((e1.trans e2).trans e3)
    have : m = 0 := by omega
    subst this
    cases hc
    exact Bool.false_ne_true
theorem spv_name {e C : Addr} {H : Hp} (he : H e = some (ErrO (.ref C) e)) : SpV (sp_law_name C) [.ref e] H (.str "fit") := fun H1 ex _ q _ => ⟨e, rfl, ex _ _ he, q⟩
/-- two written texts against what was told -/
theorem rv_neTT {t u : Addr} {H : Hp} {a b : Str} (h1 : H t = some (.tup [.str a, .str b])) (h2 : H u = some (.tup [.str a, .str b])) (ha : PyData.strOk a = true) (hb : PyData.strOk b = true) : RV (rNeD K) (.ref t) (.ref u) H (.bl false) := fun H1 e Q q => by
  have sh : SeqAt.shaped (.tuple [.str a, .str b]) = true := by
    unfold SeqAt.shaped
    simp [PyData.canLay0, PyData.canLayAll0, PyData.depth, PyData.depthAll, ha, hb]
  have eq1 : PyData.eqv (.tuple [.str a, .str b]) (.tuple [.str a, .str b]) = true := by simp [PyData.eqv, PyData.eqvAll]
  refine ⟨.tuple [.str a, .str b], .tuple [.str a, .str b], .tup (st_of (e _ _ h1)) (.cons (.str a) (.cons (.str b) .nil)), .tup (st_of (e _ _ h2)) (.cons (.str a) (.cons (.str b) .nil)), sh, sh, ?_⟩
  rw [eq1]
  exact q H1 (Ex.refl H1)
end
/-! ### way_down, so far as it refuses; the helpers of the law -/
section
variable {P : Program} {w : World} {K : PySem.W.Frag} {mg : Str → Option Value} {base : Heap}
def sp_way_down (C : Addr) : Sp := fun vs H Q E => ∃ (a b : Addr) (xs ys : List Int), vs = [.ref a, .ref b] ∧ Ll H a xs ∧ Ll H b ys ∧ IsP xs ∧ IsP ys ∧ xs.sum ≠ ys.sum ∧ ∀ H', Ex H H' → E (.ref C) none H'
theorem ok_way_down (T : Tx K mg) : FnOk P w K mg base (L2.CX P w) 6 T.a_way_down T.d_way_down ["one", "other"] (sp_way_down T.C_NoFit) := by
  refine T.F_way_down.okX sc_way_down (fun vs H Q E h => ?_) (fun cdv A outer s H vs Q E hr h => ?_)
  · obtain ⟨a, b, xs, ys, rfl, _⟩ := h
    rfl
  · obtain ⟨a, b, xs, ys, rfl, hx, hy, ix, iy, hne, qn⟩ := h
    refine ⟨_, (pss_cons (ps_if (pt_cmpR op_notN (pe_call (ok_lacking_count T) (hr.mono (by decide)) (by rfl) T.g_lacking_count T.F_lacking_count.kp T.b_lacking_count .nil (E := E) (passes_call (takes_of rfl rfl rfl rfl) fun _ _ _ _ h => h) (pa_cons (pv 0) (pa_cons (pv 1) pa_nil))) pe_non (nomark _))
      (pss_one (ps_ret pe_non))
      pss_nil) pss_never), ?_⟩
    exact ⟨.ref a, rfl, .ref b, rfl, a, b, xs, ys, rfl, hx, hy, ix, iy, fun _ => qn, fun z => absurd z hne⟩
def sp_law_lacking : Sp := fun vs H Q _ => ∃ (a b : Addr) (xs ys : List Int), vs = [.ref a, .ref b] ∧ Ll H a xs ∧ Ll H b ys ∧ xs.length ≤ 400 ∧ ys.length ≤ 400 ∧ RetV (lackV xs ys) H Q
theorem ok_law_lacking (T : Tx K mg) : FnOk P w K mg base CX0 1 T.a_law_lacking T.d_law_lacking ["_law_one", "_law_other"] sp_law_lacking := by
  refine T.F_law_lacking.ok sc_law_lacking (fun vs H Q E h => ?_) (fun cdv A outer s H vs Q E hr h => ?_)
  · obtain ⟨a, b, xs, ys, rfl, _⟩ := h
    rfl
  · obtain ⟨a, b, xs, ys, rfl, hx, hy, lx, ly, q⟩ := h
    refine ⟨_, (pss_cons (ps_for PassesOwn.never rfl (pi_range2 (by rfl) T.n_range (pa_cons pe_int (pa_cons (pe_op op_add (pe_callB (call_max2 rfl) (by rfl) T.n_max (by decide +kernel) (pa_cons (pe_callB (lenK (K := K) rfl) (by rfl) T.n_len PySem.boot_len (pa_cons (pv 0) pa_nil)) (pa_cons (pe_callB (lenK (K := K) rfl) (by rfl) T.n_len PySem.boot_len (pa_cons (pv 1) pa_nil)) pa_nil))) pe_int) pa_nil))) (pg_name (i := 2) sc_law_lacking.nd rfl (Or.inl rfl))
      (pss_one (ps_if (pt_cmpR op_lt (pe_callB (sumK (K := K) rfl rfl) (by rfl) T.n_sum (by decide +kernel) (pa_cons (pe_slice (sllK (K := K) rfl) (pv 0) po_none (po_some (pv 2))) pa_nil)) (pe_callB (sumK (K := K) rfl rfl) (by rfl) T.n_sum (by decide +kernel) (pa_cons (pe_slice (sllK (K := K) rfl) (pv 1) po_none (po_some (pv 2))) pa_nil)) (nomark _))
        (pss_one (ps_ret (pv 2)))
        pss_nil)))
    (pss_one (ps_ret pe_non))), ?_⟩
    have elx : ((xs.map V.int).length : Int) = (xs.length : Int) := by rw [List.length_map]
    have ely : ((ys.map V.int).length : Int) = (ys.length : Int) := by rw [List.length_map]
    have em : (if ((ys.map V.int).length : Int) > ((xs.map V.int).length : Int) then ((ys.map V.int).length : Int) else ((xs.map V.int).length : Int)) = ((max xs.length ys.length : Nat) : Int) := by
      rw [elx, ely]
      split <;> omega
    refine q_forR2 (lo := 1) (n := ((max xs.length ys.length : Nat) : Int) + 1) (ea_cons ev_c (ea_cons (ev_is (ev_rI0 (ev_cb (ea_cons (ev_cb (ea_cons (ev_var rfl) ea_nil) (rc_len hx.sq)) (ea_cons (ev_cb (ea_cons (ev_var rfl) ea_nil) (rc_len hy.sq)) ea_nil)) rc_max2) ev_c) (by rw [em])) ea_nil)) ⟨by omega, by omega, by omega, by omega⟩
      (fun i σ' H' => ∃ y2 : Option V, σ' = [some (.ref a), some (.ref b), y2] ∧ Ex H H' ∧ lackV xs ys = firstF (lead xs ys) i (max xs.length ys.length - i)) (fun H1 e1 => ⟨none, rfl, e1, rfl⟩) (fun i σ' H' hi hP => ?_) (fun σ' H' hP => ?_)
    · obtain ⟨y2, rfl, eH, hl⟩ := hP
      rw [firstF_step (by omega)] at hl
      have e1i : (1 : Int) + (i : Int) = ((i + 1 : Nat) : Int) := by omega
      rw [e1i]
      have part : ∀ {c : Addr} {zs : List Int} {j : Nat}, Ll H c zs → [some (V.ref a), some (.ref b), some (.int ((i + 1 : Nat) : Int))][j]? = some (some (.ref c)) → Ev (tCB (rSum K) (tCons (tSl (rSlL K) (tVar j) tNoPart (tPart (tVar 2))) tNil)) [some (V.ref a), some (.ref b), some (.int ((i + 1 : Nat) : Int))] H' (.int (zs.take (i + 1)).sum) := fun {c zs j} hc hv =>
        ev_cbL (el_is (el_sl (ev_var hv) eo_none (eo_some (ev_var rfl)) (Ll.sq (eH _ _ hc))) (by rw [cut_upto, ← List.map_take])) fun p H1 _ hp => rc_sum (sq_of hp)
      refine s_when (b := decide (lead xs ys (i + 1) < 0)) (et_is (et_test (ev_rI0 (part hx rfl) (part hy rfl))) (by
        unfold lead
        rw [Bool.eq_iff_iff]
        simp only [decide_eq_true_eq]
        omega)) (fun hb H1 e1 => ?_) (fun hb H1 e1 => ?_)
      · rw [if_pos (of_decide_eq_true hb)] at hl
        refine s_ret (ev_var rfl) fun H2 e2 => ?_
        rw [← hl]
        exact q H2 (eH.trans (e1.trans e2))
      · rw [if_neg (of_decide_eq_false hb)] at hl
        exact ⟨_, rfl, eH.trans e1, hl⟩
    · obtain ⟨y2, rfl, eH, hl⟩ := hP
      rw [show (((max xs.length ys.length : Nat) : Int) + 1 - 1).toNat = max xs.length ys.length by omega, Nat.sub_self] at hl
      have hl' : lackV xs ys = .non := hl
      rw [hl'] at q
      exact s_ret ev_c fun H3 e3 => q H3 (eH.trans e3)
theorem spv_lawlack {a b : Addr} {xs ys : List Int} {H : Hp} (hx : Ll H a xs) (hy : Ll H b ys) (lx : xs.length ≤ 400) (ly : ys.length ≤ 400) : SpV sp_law_lacking [.ref a, .ref b] H (lackV xs ys) := fun H1 e _ q _ => ⟨a, b, xs, ys, rfl, e _ _ hx, e _ _ hy, lx, ly, q⟩
/-- what is told of two partings of one whole -/
def toldV (n : Int) (xs ys : List Int) : V := if n = 0 then .bl (decide (lackV xs ys = .non)) else lackV xs ys
def sp_law_told : Sp := fun vs H Q _ => ∃ (n : Int) (a b : Addr) (xs ys : List Int), vs = [.int n, .ref a, .ref b] ∧ Ll H a xs ∧ Ll H b ys ∧ IsP xs ∧ IsP ys ∧ (xs.sum = ys.sum → (n = 0 ∨ n = 1) ∧ RetU [.str "told", toldV n xs ys] H Q) ∧ (xs.sum ≠ ys.sum → RetU [.str "refused", .str "fit"] H Q)
theorem ok_law_told (T : Tx K mg) : FnOk P w K mg base CX0 7 T.a_law_told T.d_law_told ["_law_which", "_law_one", "_law_other"] sp_law_told := by
  refine T.F_law_told.ok sc_law_told (fun vs H Q E h => ?_) (fun cdv A outer s H vs Q E hr h => ?_)
  · obtain ⟨n, a, b, xs, ys, rfl, _⟩ := h
    rfl
  · obtain ⟨n, a, b, xs, ys, rfl, hx, hy, ix, iy, qs, qn⟩ := h
    refine ⟨_, (pss_cons (ps_set (i := 3) sc_law_told.nd rfl (Or.inl rfl) pe_non)
    (pss_cons (ps_set (i := 4) sc_law_told.nd rfl (Or.inl rfl) pe_non)
    (pss_cons (ps_try_keep (tb := (fun W => tIfS (tTest (tOp rEq (tVar 0) (tC (.int 0)))) (tAsg (tCallS (sp_lies_above T.C_NoFit) (WE W) (tCons (tVar 1) (tCons (tVar 2) tNil))) (gName 4)) (tIfS (tTest (tOp rEq (tVar 0) (tC (.int 1)))) (tAsg (tCallS (sp_lacking_count T.C_NoFit) (WE W) (tCons (tVar 1) (tCons (tVar 2) tNil))) (gName 4)) (tAsg (tCallS (sp_way_down T.C_NoFit) (WE W) (tCons (tVar 1) (tCons (tVar 2) tNil))) (gName 4))))) (Wout := fun _ _ _ _ => False) (i := 5) (j := 3) rfl rfl rfl sc_law_told.nd rfl rfl rfl rfl ⟨rfl, by decide, Or.inl T.g_PartError⟩ takes0
      (fun W pn xe tk _ => (pss_one (ps_if (pt_cmpR op_eq (pv 0) pe_int (nomark _))
        (pss_one (ps_set (i := 4) sc_law_told.nd rfl (Or.inl rfl) (pe_callS (ok_lies_above T) (hr.mono (by decide)) (by rfl) T.g_lies_above T.F_lies_above.kp T.b_lies_above (fun σ => passAt tk σ) (by exact (pa_cons (pv 1) (pa_cons (pv 2) pa_nil))))))
        (pss_one (ps_if (pt_cmpR op_eq (pv 0) pe_int (nomark _))
          (pss_one (ps_set (i := 4) sc_law_told.nd rfl (Or.inl rfl) (pe_callS (ok_lacking_count T) (hr.mono (by decide)) (by rfl) T.g_lacking_count T.F_lacking_count.kp T.b_lacking_count (fun σ => passAt tk σ) (by exact (pa_cons (pv 1) (pa_cons (pv 2) pa_nil))))))
          (pss_one (ps_set (i := 4) sc_law_told.nd rfl (Or.inl rfl) (pe_callS (ok_way_down T) (hr.mono (by decide)) (by rfl) T.g_way_down T.F_way_down.kp T.b_way_down (fun σ => passAt tk σ) (by exact (pa_cons (pv 1) (pa_cons (pv 2) pa_nil))))))))))))
    (pss_one (ps_ret (pe_ifExp (pt_cmpR op_isN (pv 3) pe_non (nomark _)) (pe_tup (pa_cons pe_str (pa_cons (pv 4) pa_nil))) (pe_tup (pa_cons pe_str (pa_cons (pe_call (ok_law_name T) (hr.mono (by decide)) (by rfl) T.g_law_name T.F_law_name.kp T.b_law_name .nil pass0 (pa_cons (pv 3) pa_nil)) pa_nil))))))))), ?_⟩
    refine q_asg ev_c fun H1 e1 => ?_
    refine q_asg ev_c fun H2 e2 => ?_
    have e12 := e1.trans e2
    have refused : xs.sum ≠ ys.sum → ∀ H3, Ex H H3 → ∀ e, H3 e = none → tRet (tIf (tTest (tOp (fun x y H Q => y = .non ∧ Q (.bl (decide (x = .non))) H) (tVar 3) (tC .non))) (tTup (tCons (tC (.str "told")) (tCons (tVar 4) tNil))) (tTup (tCons (tC (.str "refused")) (tCons (tCall (sp_law_name T.C_NoFit) [] E0 (tCons (tVar 3) tNil)) tNil))))
        { nx := fun _ H => Q V.non H, rt := fun v H => Q v H, bk := fun _ _ => False, ct := fun _ _ => False } [some (.int n), some (.ref a), some (.ref b), some (.ref e), some .non, none] (upd H3 e (ErrO (.ref T.C_NoFit) e)) := fun hne H3 e3 e he => by
      have e4 : Ex H (upd H3 e (ErrO (.ref T.C_NoFit) e)) := e3.trans (Ex.new he)
      exact s_retU (eu_if (et_test (ev_isN (ev_var rfl))) (fun z => by cases z) fun _ => eu_tup (ea_cons ev_c (ea_cons (ev_call (ea_cons (ev_var rfl) ea_nil) (spv_name upd_same)) ea_nil)) (by show 2 ≤ 100000; decide)) fun t H4 nt e5 ht => qn hne t H4 (fresh_back e4 nt) (e4.trans e5) ht
    have told : ∀ v H3, Ex H H3 → (xs.sum = ys.sum → v = toldV n xs ys) → xs.sum = ys.sum → tRet (tIf (tTest (tOp (fun x y H Q => y = .non ∧ Q (.bl (decide (x = .non))) H) (tVar 3) (tC .non))) (tTup (tCons (tC (.str "told")) (tCons (tVar 4) tNil))) (tTup (tCons (tC (.str "refused")) (tCons (tCall (sp_law_name T.C_NoFit) [] E0 (tCons (tVar 3) tNil)) tNil))))
        { nx := fun _ H => Q V.non H, rt := fun v H => Q v H, bk := fun _ _ => False, ct := fun _ _ => False } [some (.int n), some (.ref a), some (.ref b), some .non, some v, none] H3 := fun v H3 e3 hv he => by
      rw [hv he]
      exact s_retU (eu_if (et_test (ev_isN (ev_var rfl))) (fun _ => eu_tup (ea_cons ev_c (ea_cons (ev_var rfl) ea_nil)) (by show 2 ≤ 100000; decide)) fun z => by cases z) fun t H4 nt e5 ht => (qs he).2 t H4 (fresh_back e3 nt) (e3.trans e5) ht
    show tIfS _ _ _ _ _ _
    refine s_if (et_test (ev_eq (ev_var rfl) ev_c rfl)) (fun hb H3 e3 => ?_) (fun hb H3 e3 => ?_)
    · have e13 := e12.trans e3
      have hn : n = 0 := V.int.inj (of_decide_eq_true hb)
      refine ⟨.ref a, rfl, .ref b, rfl, a, b, xs, ys, rfl, e13 _ _ hx, e13 _ _ hy, ix, iy, fun hne H4 e4 => ⟨true, T.m_NoFit_PartError, fun _ => ⟨rfl, fun e he => refused hne H4 (e13.trans e4) e he⟩, fun z => by cases z⟩, fun he H4 e4 => told _ H4 (e13.trans e4) (fun _ => ?_) he⟩
      unfold toldV
      rw [if_pos hn]
    · have hn : n ≠ 0 := fun z => by
        rw [z] at hb
        simp at hb
      have e13 := e12.trans e3
      refine s_if (et_test (ev_eq (ev_var rfl) ev_c rfl)) (fun hb H4 e4 => ?_) (fun hb H4 e4 => ?_)
      · have e14 := e13.trans e4
        refine ⟨.ref a, rfl, .ref b, rfl, a, b, xs, ys, rfl, e14 _ _ hx, e14 _ _ hy, ix, iy, fun hne H5 e5 => ⟨true, T.m_NoFit_PartError, fun _ => ⟨rfl, fun e he => refused hne H5 (e14.trans e5) e he⟩, fun z => by cases z⟩, fun he H5 e5 => told _ H5 (e14.trans e5) (fun _ => ?_) he⟩
        unfold toldV
        rw [if_neg hn]
      · have e14 := e13.trans e4
        have hn1 : n ≠ 1 := fun z => by
          rw [z] at hb
          simp at hb
        have hne : xs.sum ≠ ys.sum := fun z => by
          have := (qs z).1
          omega
        exact ⟨.ref a, rfl, .ref b, rfl, a, b, xs, ys, rfl, e14 _ _ hx, e14 _ _ hy, ix, iy, hne, fun H5 e5 => ⟨true, T.m_NoFit_PartError, fun _ => ⟨rfl, fun e he => refused hne H5 (e14.trans e5) e he⟩, fun z => by cases z⟩⟩
theorem spu_told {n : Int} {a b : Addr} {xs ys : List Int} {H : Hp} (hx : Ll H a xs) (hy : Ll H b ys) (ix : IsP xs) (iy : IsP ys) (he : xs.sum = ys.sum) (hn : n = 0 ∨ n = 1) : SpU sp_law_told [.int n, .ref a, .ref b] H [.str "told", toldV n xs ys] := fun H1 e _ q _ => ⟨n, a, b, xs, ys, rfl, e _ _ hx, e _ _ hy, ix, iy, fun _ => ⟨hn, q⟩, fun z => absurd he z⟩
theorem spu_refused {n : Int} {a b : Addr} {xs ys : List Int} {H : Hp} (hx : Ll H a xs) (hy : Ll H b ys) (ix : IsP xs) (iy : IsP ys) (hne : xs.sum ≠ ys.sum) : SpU sp_law_told [.int n, .ref a, .ref b] H [.str "refused", .str "fit"] := fun H1 e _ q _ => ⟨n, a, b, xs, ys, rfl, e _ _ hx, e _ _ hy, ix, iy, fun z => absurd z hne, fun _ => q⟩
theorem lackV_sc (xs ys : List Int) : ∃ d, scD (lackV xs ys) = some d := by
  by_cases h : lackV xs ys = .non
  · rw [h]
    exact ⟨_, rfl⟩
  · obtain ⟨m, h1, _⟩ := firstF_some (P := lead xs ys) (i := 0) (n := max xs.length ys.length) rfl h
    have h1' : lackV xs ys = .int (m : Int) := h1
    rw [h1']
    exact ⟨_, rfl⟩
theorem toldV_sc (n : Int) (xs ys : List Int) : ∃ d, scD (toldV n xs ys) = some d := by
  unfold toldV
  split
  · exact ⟨_, rfl⟩
  · exact lackV_sc xs ys
/-- isinstance(.., bool) of a plain value -/
def isB : V → Bool
  | .bl _ => true
  | _ => false
theorem rc_isB {x : V} {d : PyData} {H : Hp} (h : scD x = some d) : RC (rIsi K) [x, .ty "bool"] H (.bl (isB x)) := by
  cases x <;> cases h
  · exact rc_isi (t := .type "NoneType") (.ty _) (fun _ _ => .base .non) (kit_ty (by decide +kernel))
  · exact rc_isi (k := true) (t := .type "bool") (.ty _) (fun _ _ => .base (.bl _)) (kit_ty (by decide +kernel))
  · exact rc_isiBool
theorem lackV_notB (xs ys : List Int) : isB (lackV xs ys) = false := by
  by_cases h : lackV xs ys = .non
  · rw [h]
    rfl
  · obtain ⟨m, h1, _⟩ := firstF_some (P := lead xs ys) (i := 0) (n := max xs.length ys.length) rfl h
    have h1' : lackV xs ys = .int (m : Int) := h1
    rw [h1']
    rfl
def sp_law_right : Sp := fun vs H Q _ => ∃ (a b : Addr) (xs ys : List Int), vs = [.ref a, .ref b] ∧ Ll H a xs ∧ Ll H b ys ∧ IsP xs ∧ IsP ys ∧ xs.sum = ys.sum ∧ RetV (.bl true) H Q
theorem ok_law_right (T : Tx K mg) : FnOk P w K mg base CX0 8 T.a_law_right T.d_law_right ["_law_one", "_law_other"] sp_law_right := by
  refine T.F_law_right.ok sc_law_right (fun vs H Q E h => ?_) (fun cdv A outer s H vs Q E hr h => ?_)
  · obtain ⟨a, b, xs, ys, rfl, _⟩ := h
    rfl
  · obtain ⟨a, b, xs, ys, rfl, hx, hy, ix, iy, he, q⟩ := h
    refine ⟨_, (pss_cons (ps_set (i := 2) sc_law_right.nd rfl (Or.inl rfl) (pe_call (ok_law_lacking T) (hr.mono (by decide)) (by rfl) T.g_law_lacking T.F_law_lacking.kp T.b_law_lacking .nil pass0 (pa_cons (pv 0) (pa_cons (pv 1) pa_nil))))
    (pss_cons (ps_set (i := 3) sc_law_right.nd rfl (Or.inl rfl) (pe_lst (pa_cons (pe_callTy (listK (K := K) rfl) (by rfl) T.n_list (by decide +kernel) (pa_cons (pv 0) pa_nil)) (pa_cons (pe_callTy (listK (K := K) rfl) (by rfl) T.n_list (by decide +kernel) (pa_cons (pv 1) pa_nil)) pa_nil))))
    (pss_cons (ps_for PassesOwn.never rfl (pi_range1 rfl T.n_range (pa_cons pe_int pa_nil)) (pg_name (i := 4) sc_law_right.nd rfl (Or.inl rfl))
      (pss_cons (ps_set (i := 5) sc_law_right.nd rfl (Or.inl rfl) (pe_call (ok_law_told T) (hr.mono (by decide)) (by rfl) T.g_law_told T.F_law_told.kp T.b_law_told .nil pass0 (pa_cons (pv 4) (pa_cons (pe_ix (ixlK (K := K) rfl) (pv 3) pe_int (fun _ _ => rfl)) (pa_cons (pe_ix (ixlK (K := K) rfl) (pv 3) pe_int (fun _ _ => rfl)) pa_nil)))))
      (pss_cons (ps_if (PW.pt (pw_or (pt_cmpR (neK (K := K) rfl hr.units) (pv 5) (pe_ix (ixlK (K := K) rfl) (pe_lst (pa_cons (pe_tup (pa_cons pe_str (pa_cons (pe_cmpR op_isN (pv 2) pe_non (nomark _)) pa_nil))) (pa_cons (pe_tup (pa_cons pe_str (pa_cons (pv 2) pa_nil))) pa_nil))) (pv 4) (fun _ _ => rfl)) (nomark _)) (pw_or1 (pt_cmpR (neK (K := K) rfl hr.units) (pv 3) (pe_lst (pa_cons (pv 0) (pa_cons (pv 1) pa_nil))) (nomark _)))))
        (pss_one (ps_ret pe_bl))
        pss_nil)
      (pss_one (ps_if (PW.pt (pw_or (PW.pt (pw_and (pt_cmpR op_eq (pv 4) pe_int (nomark _)) (pw_and1 (pt_not (pt_val (pe_callB (isiK (K := K) rfl) (by rfl) T.n_isinstance (by decide +kernel) (pa_cons (pe_ix (ixtK (K := K) rfl) (pv 5) pe_int (fun _ _ => rfl)) (pa_cons (pe_bltn (v := .ty "bool") (u := .type "bool") (by rfl) T.n_bool (by decide +kernel) rfl) pa_nil)))))))) (pw_or1 (PW.pt (pw_and (pt_cmpR op_eq (pv 4) pe_int (nomark _)) (pw_and1 (pt_val (pe_callB (isiK (K := K) rfl) (by rfl) T.n_isinstance (by decide +kernel) (pa_cons (pe_ix (ixtK (K := K) rfl) (pv 5) pe_int (fun _ _ => rfl)) (pa_cons (pe_bltn (v := .ty "bool") (u := .type "bool") (by rfl) T.n_bool (by decide +kernel) rfl) pa_nil))))))))))
        (pss_one (ps_ret pe_bl))
        pss_nil)))))
    (pss_one (ps_ret pe_bl))))), ?_⟩
    have lx := ix.len
    have ly := iy.len
    refine q_asg (ev_call (ea_cons (ev_var rfl) (ea_cons (ev_var rfl) ea_nil)) (spv_lawlack hx hy (by omega) (by omega))) fun H1 e1 => ?_
    refine q_asgP (ep_lst (eap_consL (el_cb (ea_cons (ev_var rfl) ea_nil) (rcl_list (Ll.sq (e1 _ _ hx)))) (eap_consL (el_cb (ea_cons (ev_var rfl) ea_nil) (rcl_list (Ll.sq (e1 _ _ hy)))) eap_nil)) (mono_consL (mono_consL mono_nil)) (fun vs H' hv => by
      obtain ⟨_, _, rfl, _, _, _, _, rfl, _, _, rfl⟩ := hv
      show 2 ≤ 100000
      decide)) fun v H2 e2 hv => ?_
    obtain ⟨h, vs, rfl, nh, hh, p1, us, rfl, n1, h1, p2, us2, rfl, n2, h2, rfl⟩ := hv
    have e12 := e1.trans e2
    refine q_forR1 (n := 2) (ea_cons ev_c ea_nil) ⟨by decide, by decide⟩ (fun i σ' H' => ∃ y4 y5 : Option V, σ' = [some (.ref a), some (.ref b), some (lackV xs ys), some (.ref h), y4, y5] ∧ Ex H2 H') (fun H3 e3 => ⟨none, none, rfl, e3⟩) (fun i σ' H' hi hP => ?_) (fun σ' H' hP => ?_)
    · obtain ⟨y4, y5, rfl, eH⟩ := hP
      have hh' := eH _ _ hh
      have h1' : Ll H' p1 xs := eH _ _ h1
      have h2' : Ll H' p2 ys := eH _ _ h2
      have i2 : i = 0 ∨ i = 1 := by omega
      obtain ⟨d, hd⟩ := toldV_sc (i : Int) xs ys
      refine q_asgU (eu_call (ea_cons (ev_var rfl) (ea_cons (ev_op (ev_var rfl) ev_c (rv_ixL (sq_of hh') rfl)) (ea_cons (ev_op (ev_var rfl) ev_c (rv_ixL (sq_of hh') rfl)) ea_nil))) (spu_told h1' h2' ix iy he (by omega))) fun t H3 nt e3 ht => ?_
      have hh3 := e3 _ _ hh'
      have due : EvP (tOp (rIxL K) (tLst (tCons (tTup (tCons (tC (.str "told")) (tCons (tOp (fun x y H Q => y = .non ∧ Q (.bl (decide (x = .non))) H) (tVar 2) (tC .non)) tNil))) (tCons (tTup (tCons (tC (.str "told")) (tCons (tVar 2) tNil))) tNil))) (tVar 4))
          [some (.ref a), some (.ref b), some (lackV xs ys), some (.ref h), some (.int (i : Int)), some (.ref t)] H3 (fun v H4 => ∃ u : Addr, v = .ref u ∧ H4 u = some (.tup [.str "told", toldV (i : Int) xs ys])) := by
        refine evP_ixP (i := (i : Int)) (ep_lst (eap_consU (eu_tup (ea_cons ev_c (ea_cons (ev_isN (ev_var rfl)) ea_nil)) (by show 2 ≤ 100000; decide)) (eap_consU (eu_tup (ea_cons ev_c (ea_cons (ev_var rfl) ea_nil)) (by show 2 ≤ 100000; decide)) eap_nil)) (mono_consU (mono_consU mono_nil)) ?_)
          (fun v H4 e4 _ => ev_var rfl) (fun v H4 H5 e hv => ?_) (fun v H4 e4 hv => ?_)
        · rintro vs H4 ⟨_, _, rfl, _, _, _, _, rfl, _, _, rfl⟩
          show 2 ≤ 100000
          decide
        · obtain ⟨u, rfl, hu⟩ := hv
          exact ⟨u, rfl, e _ _ hu⟩
        · obtain ⟨l, vs, rfl, _, hl, u1, us, rfl, _, hu1, u2, us2, rfl, _, hu2, rfl⟩ := hv
          rcases i2 with rfl | rfl
          · exact ⟨l, _, _, rfl, hl, rfl, u1, rfl, hu1⟩
          · exact ⟨l, _, _, rfl, hl, rfl, u2, rfl, hu2⟩
      refine q_when (b := false) (et_is (et_or (et_test (ev_opP (ev_var rfl) due fun v H4 e4 hv => by
        obtain ⟨u, rfl, hu⟩ := hv
        exact rv_neTV (e4 _ _ ht) hu (by decide +kernel) hd)) fun _ => et_test (ev_opL (ev_var rfl) (el_lst (ea_cons (ev_var rfl) (ea_cons (ev_var rfl) ea_nil)) (by show 2 ≤ 100000; decide)) fun l H4 hl e4 =>
        rv_neLL (xss := [xs, ys]) (yss := [xs, ys]) (sq_of (e4 _ _ hh3)) (.cons ((e3.trans e4) _ _ h1') (.cons ((e3.trans e4) _ _ h2') .nil)) (sq_of hl) (.cons ((((e12.trans eH).trans e3).trans e4) _ _ hx) (.cons ((((e12.trans eH).trans e3).trans e4) _ _ hy) .nil)))) (by simp)) (fun z => by cases z) (fun _ H4 e4 => ?_)
      refine s_when (b := false) (et_is (et_or (et_and (et_test (ev_eq (ev_var rfl) ev_c rfl)) fun _ => et_not (et_B (ev_cb (ea_cons (ev_ixT (n := 1) (ev_var rfl) ev_c (e4 _ _ ht) rfl) (ea_cons ev_c ea_nil)) (rc_isB hd)))) fun _ => et_and (et_test (ev_eq (ev_var rfl) ev_c rfl)) fun _ => et_B (ev_cb (ea_cons (ev_ixT (n := 1) (ev_var rfl) ev_c (e4 _ _ ht) rfl) (ea_cons ev_c ea_nil)) (rc_isB hd))) ?_) (fun z => by cases z) (fun _ H5 e5 => ?_)
      · rcases i2 with rfl | rfl
        · rfl
        · have : isB (toldV ((1 : Nat) : Int) xs ys) = false := lackV_notB xs ys
          rw [this]
          rfl
      · exact ⟨_, _, rfl, eH.trans ((e3.trans e4).trans e5)⟩
    · obtain ⟨y4, y5, rfl, eH⟩ := hP
      exact s_ret ev_c fun H3 e3 => q H3 (e12.trans (eH.trans e3))
theorem spv_right {a b : Addr} {xs ys : List Int} {H : Hp} (hx : Ll H a xs) (hy : Ll H b ys) (ix : IsP xs) (iy : IsP ys) (he : xs.sum = ys.sum) : SpV sp_law_right [.ref a, .ref b] H (.bl true) := fun H1 e _ q _ => ⟨a, b, xs, ys, rfl, e _ _ hx, e _ _ hy, ix, iy, he, q⟩
/-- a parting of another whole -/
def moreL (xs : List Int) : List Int := if xs.sum = 200 then xs.dropLast else xs ++ [1]
theorem more_ok {xs : List Int} (ix : IsP xs) : IsP (moreL xs) ∧ (moreL xs).sum ≠ xs.sum := by
  unfold moreL
  by_cases c : xs.sum = 200
  · rw [if_pos c]
    have hne : xs ≠ [] := fun z => by
      rw [z] at c
      cases c
    have e := List.dropLast_concat_getLast hne
    have hs : xs.dropLast.sum + (xs.getLast hne + 0) = xs.sum := by
      have := congrArg List.sum e
      rw [sum_append] at this
      exact this
    have h1 := ix.1 _ (List.getLast_mem hne)
    have h3 := ix.2.2
    exact ⟨⟨fun x hx => ix.1 x ((List.dropLast_sublist xs).subset hx), ix.2.1.sublist (List.dropLast_sublist xs), by omega⟩, by omega⟩
  · rw [if_neg c]
    have h3 := ix.2.2
    have h1 : IsP (xs ++ List.replicate 1 1) := ones_ok ix (by omega)
    exact ⟨h1, by rw [sum_append]; show xs.sum + (1 + 0) ≠ xs.sum; omega⟩
theorem more_len {xs : List Int} (ix : IsP xs) : (moreL xs).length ≤ 201 := by
  have := (more_ok ix).1.len
  omega
def sp_law (K : PySem.W.Frag) : Sp := fun vs H Q _ => ∃ (a : Addr) (ns : List Int), vs = [.ref a] ∧ SqL K H a (ns.map V.int) ∧ ns.length ≤ 63 ∧ ∀ H', Q (.bl true) H'
theorem ok_law (T : Tx K mg) : FnOk P w K mg base CX0 9 T.a_law T.d_law ["_law_script"] (sp_law K) := by
  refine T.F_law.ok sc_law (fun vs H Q E h => ?_) (fun cdv A outer s H vs Q E hr h => ?_)
  · obtain ⟨a, ns, rfl, _⟩ := h
    rfl
  · obtain ⟨a, ns, rfl, hS, hlen, q⟩ := h
    refine ⟨_, (pss_cons (ps_asg (pe_call (ok_law_pair_by T) (hr.mono (by decide)) (by rfl) T.g_law_pair_by T.F_law_pair_by.kp T.b_law_pair_by .nil pass0 (pa_cons (pv 0) pa_nil)) (show PG _ _ (g2n K 1 2) from (pg_tup rfl (pgs_cons (pg_name (i := 1) sc_law.nd rfl (Or.inl rfl)) (pgs_cons (pg_name (i := 2) sc_law.nd rfl (Or.inl rfl)) pgs_nil)))))
    (pss_cons (ps_if (PW.pt (pw_or (pt_not (pt_val (pe_call (ok_law_right T) (hr.mono (by decide)) (by rfl) T.g_law_right T.F_law_right.kp T.b_law_right .nil pass0 (pa_cons (pv 1) (pa_cons (pv 2) pa_nil))))) (pw_or (pt_not (pt_val (pe_call (ok_law_right T) (hr.mono (by decide)) (by rfl) T.g_law_right T.F_law_right.kp T.b_law_right .nil pass0 (pa_cons (pv 2) (pa_cons (pv 1) pa_nil))))) (pw_or1 (pt_not (pt_val (pe_call (ok_law_right T) (hr.mono (by decide)) (by rfl) T.g_law_right T.F_law_right.kp T.b_law_right .nil pass0 (pa_cons (pv 1) (pa_cons (pv 1) pa_nil)))))))))
      (pss_one (ps_ret pe_bl))
      pss_nil)
    (pss_cons (ps_set (i := 3) sc_law.nd rfl (Or.inl rfl) (pe_ifExp (pt_cmpR op_eq (pe_callB (sumK (K := K) rfl rfl) (by rfl) T.n_sum (by decide +kernel) (pa_cons (pv 1) pa_nil)) pe_int (nomark _)) (pe_slice (sllK (K := K) rfl) (pv 1) po_none (po_some (pe_un un_neg pe_int))) (pe_op op_cat (pv 1) (pe_lst (pa_cons pe_int pa_nil)))))
    (pss_cons (ps_for PassesOwn.never rfl (pi_range1 rfl T.n_range (pa_cons pe_int pa_nil)) (pg_name (i := 4) sc_law.nd rfl (Or.inl rfl))
      (pss_one (ps_if (PW.pt (pw_or (pt_cmpR (neK (K := K) rfl hr.units) (pe_call (ok_law_told T) (hr.mono (by decide)) (by rfl) T.g_law_told T.F_law_told.kp T.b_law_told .nil pass0 (pa_cons (pv 4) (pa_cons (pv 1) (pa_cons (pv 3) pa_nil)))) (pe_tup (pa_cons pe_str (pa_cons pe_str pa_nil))) (nomark _)) (pw_or1 (pt_cmpR (neK (K := K) rfl hr.units) (pe_call (ok_law_told T) (hr.mono (by decide)) (by rfl) T.g_law_told T.F_law_told.kp T.b_law_told .nil pass0 (pa_cons (pv 4) (pa_cons (pv 3) (pa_cons (pv 1) pa_nil)))) (pe_tup (pa_cons pe_str (pa_cons pe_str pa_nil))) (nomark _)))))
        (pss_one (ps_ret pe_bl))
        pss_nil)))
    (pss_one (ps_ret pe_bl)))))), ?_⟩
    refine q_asg2 (evP_pair (ea_cons (ev_var rfl) ea_nil) hS hlen) fun v H1 e1 hv => ?_
    obtain ⟨p, o, t, xs, ys, rfl, np, no, nt, hp, ho, ht, ix, iy, he⟩ := hv
    refine ⟨t, _, _, rfl, ht, ?_⟩
    refine q_when (b := false) (et_is (et_or (et_not (et_B (ev_call (ea_cons (ev_var rfl) (ea_cons (ev_var rfl) ea_nil)) (spv_right hp ho ix iy he)))) fun _ => et_or (et_not (et_B (ev_call (ea_cons (ev_var rfl) (ea_cons (ev_var rfl) ea_nil)) (spv_right ho hp iy ix he.symm)))) fun _ =>
      et_not (et_B (ev_call (ea_cons (ev_var rfl) (ea_cons (ev_var rfl) ea_nil)) (spv_right hp hp ix ix rfl)))) rfl) (fun z => by cases z) (fun _ H2 e2 => ?_)
    have hp2 := e2 _ _ hp
    have lx := ix.len
    obtain ⟨im, hne⟩ := more_ok ix
    refine q_asgL (xs := (moreL xs).map V.int) (el_if (c := decide (xs.sum = 200)) (et_is (et_test (ev_eq (ev_cb (ea_cons (ev_var rfl) ea_nil) (rc_sum (Ll.sq hp2))) ev_c rfl)) (by simp)) (fun hb => el_is (el_sl (ev_var rfl) eo_none (eo_some (ev_un ev_c ru_neg)) (Ll.sq hp2)) ?_) fun hb => el_is (el_catR (ev_var rfl) (el_lst (ea_cons ev_c ea_nil) (by show 1 ≤ 100000; decide)) hp2 (by rw [List.length_map]; show xs.length + 1 ≤ 100000; omega)) ?_) fun m H3 nm e3 hm => ?_
    · have e1 : (-(1 : Int)) = -1 := rfl
      rw [cut_butLast]
      unfold moreL
      rw [if_pos (of_decide_eq_true hb), List.map_dropLast]
    · unfold moreL
      rw [if_neg (of_decide_eq_false hb), List.map_append]
      rfl
    refine q_forR1 (n := 3) (ea_cons ev_c ea_nil) ⟨by decide, by decide⟩ (fun i σ' H' => ∃ y4 : Option V, σ' = [some (.ref a), some (.ref p), some (.ref o), some (.ref m), y4] ∧ Ex H3 H') (fun H4 e4 => ⟨none, rfl, e4⟩) (fun i σ' H' hi hP => ?_) (fun σ' H' hP => ?_)
    · obtain ⟨y4, rfl, eH⟩ := hP
      have hp3 : Ll H' p xs := eH _ _ (e3 _ _ hp2)
      have hm3 : Ll H' m (moreL xs) := eH _ _ hm
      refine s_when (b := false) (et_is (et_or (et_test (ev_opUU (eu_call (ea_cons (ev_var rfl) (ea_cons (ev_var rfl) (ea_cons (ev_var rfl) ea_nil))) (spu_refused hp3 hm3 ix im fun z => hne z.symm)) (eu_tup (ea_cons ev_c (ea_cons ev_c ea_nil)) (by decide)) fun t u H6 ht hu e6 => rv_neTT ht hu (by decide +kernel) (by decide +kernel))) fun _ =>
        et_test (ev_opUU (eu_call (ea_cons (ev_var rfl) (ea_cons (ev_var rfl) (ea_cons (ev_var rfl) ea_nil))) (spu_refused hm3 hp3 im ix hne)) (eu_tup (ea_cons ev_c (ea_cons ev_c ea_nil)) (by decide)) fun t u H6 ht hu e6 => rv_neTT ht hu (by decide +kernel) (by decide +kernel))) rfl) (fun z => by cases z) (fun _ H4 e4 => ?_)
      exact ⟨_, rfl, eH.trans e4⟩
    · obtain ⟨y4, rfl, eH⟩ := hP
      exact s_ret ev_c fun H4 e4 => q H4
end
theorem all_mk {l : PySem.W.OpenLaw} {w : World} {K : PySem.W.Frag} {h : Heap} {mg : Str → Option Value} {fa : Addr} (X : K.In h) (G : h.Ns mainGlobals mg) (hfa : mg "law" = some (.ref fa))
    {f1 : Addr} {od1 an1 : Option Addr} {sl1 : Array (Option Value)} {oc1 kV1 dc1 pm1 cd1 ct1 : Value}
    {f2 : Addr} {od2 an2 : Option Addr} {sl2 : Array (Option Value)} {oc2 kV2 dc2 pm2 cd2 ct2 : Value}
    {f3 : Addr} {od3 an3 : Option Addr} {sl3 : Array (Option Value)} {oc3 kV3 dc3 pm3 cd3 ct3 : Value}
    {f4 : Addr} {od4 an4 : Option Addr} {sl4 : Array (Option Value)} {oc4 kV4 dc4 pm4 cd4 ct4 : Value}
    {f5 : Addr} {od5 an5 : Option Addr} {sl5 : Array (Option Value)} {oc5 kV5 dc5 pm5 cd5 ct5 : Value}
    {f6 : Addr} {od6 an6 : Option Addr} {sl6 : Array (Option Value)} {oc6 kV6 dc6 pm6 cd6 ct6 : Value}
    {f7 : Addr} {od7 an7 : Option Addr} {sl7 : Array (Option Value)} {oc7 kV7 dc7 pm7 cd7 ct7 : Value}
    {f8 : Addr} {od8 an8 : Option Addr} {sl8 : Array (Option Value)} {oc8 kV8 dc8 pm8 cd8 ct8 : Value}
    {f9 : Addr} {od9 an9 : Option Addr} {sl9 : Array (Option Value)} {oc9 kV9 dc9 pm9 cd9 ct9 : Value}
    {f10 : Addr} {od10 an10 : Option Addr} {sl10 : Array (Option Value)} {oc10 kV10 dc10 pm10 cd10 ct10 : Value}
    {f11 : Addr} {od11 an11 : Option Addr} {sl11 : Array (Option Value)} {oc11 kV11 dc11 pm11 cd11 ct11 : Value}
    {f12 : Addr} {od12 an12 : Option Addr} {sl12 : Array (Option Value)} {oc12 kV12 dc12 pm12 cd12 ct12 : Value}
    {f13 : Addr} {od13 an13 : Option Addr} {sl13 : Array (Option Value)} {oc13 kV13 dc13 pm13 cd13 ct13 : Value}
    {f14 : Addr} {od14 an14 : Option Addr} {sl14 : Array (Option Value)} {oc14 kV14 dc14 pm14 cd14 ct14 : Value}
    {f15 : Addr} {od15 an15 : Option Addr} {sl15 : Array (Option Value)} {oc15 kV15 dc15 pm15 cd15 ct15 : Value}
    {f16 : Addr} {od16 an16 : Option Addr} {sl16 : Array (Option Value)} {oc16 kV16 dc16 pm16 cd16 ct16 : Value}
    {f17 : Addr} {od17 an17 : Option Addr} {sl17 : Array (Option Value)} {oc17 kV17 dc17 pm17 cd17 ct17 : Value}
    {t_GREATEST_WHOLE : Tok}
    {C_NoFit : Addr}
    {C_NoNumber : Addr}
    {C_NoParting : Addr}
    {C_PartError : Addr}
    (a1 : PySem.W.nsIn K mainGlobals "is_number" = some (some (.ref f1)))
    (l1 : K.lookup f1 = some ⟨oc1, od1, .func (PySem.W.fnOf "is_number" "is_number" (defArgs s_is_number) (defBody s_is_number) (defScope s_is_number) .none kV1 dc1 pm1 an1 cd1 ct1), sl1⟩)
    (c1 : PySem.W.codeIn K cd1 "is_number" = true) (k1 : PySem.W.keepIn K (.ref f1) = true)
    (a2 : PySem.W.nsIn K mainGlobals "is_parting" = some (some (.ref f2)))
    (l2 : K.lookup f2 = some ⟨oc2, od2, .func (PySem.W.fnOf "is_parting" "is_parting" (defArgs s_is_parting) (defBody s_is_parting) (defScope s_is_parting) .none kV2 dc2 pm2 an2 cd2 ct2), sl2⟩)
    (c2 : PySem.W.codeIn K cd2 "is_parting" = true) (k2 : PySem.W.keepIn K (.ref f2) = true)
    (a3 : PySem.W.nsIn K mainGlobals "check_parting" = some (some (.ref f3)))
    (l3 : K.lookup f3 = some ⟨oc3, od3, .func (PySem.W.fnOf "check_parting" "check_parting" (defArgs s_check_parting) (defBody s_check_parting) (defScope s_check_parting) .none kV3 dc3 pm3 an3 cd3 ct3), sl3⟩)
    (c3 : PySem.W.codeIn K cd3 "check_parting" = true) (k3 : PySem.W.keepIn K (.ref f3) = true)
    (a4 : PySem.W.nsIn K mainGlobals "lies_above" = some (some (.ref f4)))
    (l4 : K.lookup f4 = some ⟨oc4, od4, .func (PySem.W.fnOf "lies_above" "lies_above" (defArgs s_lies_above) (defBody s_lies_above) (defScope s_lies_above) .none kV4 dc4 pm4 an4 cd4 ct4), sl4⟩)
    (c4 : PySem.W.codeIn K cd4 "lies_above" = true) (k4 : PySem.W.keepIn K (.ref f4) = true)
    (a5 : PySem.W.nsIn K mainGlobals "lacking_count" = some (some (.ref f5)))
    (l5 : K.lookup f5 = some ⟨oc5, od5, .func (PySem.W.fnOf "lacking_count" "lacking_count" (defArgs s_lacking_count) (defBody s_lacking_count) (defScope s_lacking_count) .none kV5 dc5 pm5 an5 cd5 ct5), sl5⟩)
    (c5 : PySem.W.codeIn K cd5 "lacking_count" = true) (k5 : PySem.W.keepIn K (.ref f5) = true)
    (a6 : PySem.W.nsIn K mainGlobals "way_down" = some (some (.ref f6)))
    (l6 : K.lookup f6 = some ⟨oc6, od6, .func (PySem.W.fnOf "way_down" "way_down" (defArgs s_way_down) (defBody s_way_down) (defScope s_way_down) .none kV6 dc6 pm6 an6 cd6 ct6), sl6⟩)
    (c6 : PySem.W.codeIn K cd6 "way_down" = true) (k6 : PySem.W.keepIn K (.ref f6) = true)
    (a7 : PySem.W.nsIn K mainGlobals "_check_pair" = some (some (.ref f7)))
    (l7 : K.lookup f7 = some ⟨oc7, od7, .func (PySem.W.fnOf "_check_pair" "_check_pair" (defArgs s_check_pair) (defBody s_check_pair) (defScope s_check_pair) .none kV7 dc7 pm7 an7 cd7 ct7), sl7⟩)
    (c7 : PySem.W.codeIn K cd7 "_check_pair" = true) (k7 : PySem.W.keepIn K (.ref f7) = true)
    (a8 : PySem.W.nsIn K mainGlobals "_gaps" = some (some (.ref f8)))
    (l8 : K.lookup f8 = some ⟨oc8, od8, .func (PySem.W.fnOf "_gaps" "_gaps" (defArgs s_gaps) (defBody s_gaps) (defScope s_gaps) .none kV8 dc8 pm8 an8 cd8 ct8), sl8⟩)
    (c8 : PySem.W.codeIn K cd8 "_gaps" = true) (k8 : PySem.W.keepIn K (.ref f8) = true)
    (a9 : PySem.W.nsIn K mainGlobals "_law_mixed" = some (some (.ref f9)))
    (l9 : K.lookup f9 = some ⟨oc9, od9, .func (PySem.W.fnOf "_law_mixed" "_law_mixed" (defArgs s_law_mixed) (defBody s_law_mixed) (defScope s_law_mixed) .none kV9 dc9 pm9 an9 cd9 ct9), sl9⟩)
    (c9 : PySem.W.codeIn K cd9 "_law_mixed" = true) (k9 : PySem.W.keepIn K (.ref f9) = true)
    (a10 : PySem.W.nsIn K mainGlobals "_law_number" = some (some (.ref f10)))
    (l10 : K.lookup f10 = some ⟨oc10, od10, .func (PySem.W.fnOf "_law_number" "_law_number" (defArgs s_law_number) (defBody s_law_number) (defScope s_law_number) .none kV10 dc10 pm10 an10 cd10 ct10), sl10⟩)
    (c10 : PySem.W.codeIn K cd10 "_law_number" = true) (k10 : PySem.W.keepIn K (.ref f10) = true)
    (a11 : PySem.W.nsIn K mainGlobals "_law_parting_by" = some (some (.ref f11)))
    (l11 : K.lookup f11 = some ⟨oc11, od11, .func (PySem.W.fnOf "_law_parting_by" "_law_parting_by" (defArgs s_law_parting_by) (defBody s_law_parting_by) (defScope s_law_parting_by) .none kV11 dc11 pm11 an11 cd11 ct11), sl11⟩)
    (c11 : PySem.W.codeIn K cd11 "_law_parting_by" = true) (k11 : PySem.W.keepIn K (.ref f11) = true)
    (a12 : PySem.W.nsIn K mainGlobals "_law_pair_by" = some (some (.ref f12)))
    (l12 : K.lookup f12 = some ⟨oc12, od12, .func (PySem.W.fnOf "_law_pair_by" "_law_pair_by" (defArgs s_law_pair_by) (defBody s_law_pair_by) (defScope s_law_pair_by) .none kV12 dc12 pm12 an12 cd12 ct12), sl12⟩)
    (c12 : PySem.W.codeIn K cd12 "_law_pair_by" = true) (k12 : PySem.W.keepIn K (.ref f12) = true)
    (a13 : PySem.W.nsIn K mainGlobals "_law_lacking" = some (some (.ref f13)))
    (l13 : K.lookup f13 = some ⟨oc13, od13, .func (PySem.W.fnOf "_law_lacking" "_law_lacking" (defArgs s_law_lacking) (defBody s_law_lacking) (defScope s_law_lacking) .none kV13 dc13 pm13 an13 cd13 ct13), sl13⟩)
    (c13 : PySem.W.codeIn K cd13 "_law_lacking" = true) (k13 : PySem.W.keepIn K (.ref f13) = true)
    (a14 : PySem.W.nsIn K mainGlobals "_law_name" = some (some (.ref f14)))
    (l14 : K.lookup f14 = some ⟨oc14, od14, .func (PySem.W.fnOf "_law_name" "_law_name" (defArgs s_law_name) (defBody s_law_name) (defScope s_law_name) .none kV14 dc14 pm14 an14 cd14 ct14), sl14⟩)
    (c14 : PySem.W.codeIn K cd14 "_law_name" = true) (k14 : PySem.W.keepIn K (.ref f14) = true)
    (a15 : PySem.W.nsIn K mainGlobals "_law_told" = some (some (.ref f15)))
    (l15 : K.lookup f15 = some ⟨oc15, od15, .func (PySem.W.fnOf "_law_told" "_law_told" (defArgs s_law_told) (defBody s_law_told) (defScope s_law_told) .none kV15 dc15 pm15 an15 cd15 ct15), sl15⟩)
    (c15 : PySem.W.codeIn K cd15 "_law_told" = true) (k15 : PySem.W.keepIn K (.ref f15) = true)
    (a16 : PySem.W.nsIn K mainGlobals "_law_right" = some (some (.ref f16)))
    (l16 : K.lookup f16 = some ⟨oc16, od16, .func (PySem.W.fnOf "_law_right" "_law_right" (defArgs s_law_right) (defBody s_law_right) (defScope s_law_right) .none kV16 dc16 pm16 an16 cd16 ct16), sl16⟩)
    (c16 : PySem.W.codeIn K cd16 "_law_right" = true) (k16 : PySem.W.keepIn K (.ref f16) = true)
    (a17 : PySem.W.nsIn K mainGlobals "law" = some (some (.ref f17)))
    (l17 : K.lookup f17 = some ⟨oc17, od17, .func (PySem.W.fnOf "law" "law" (defArgs s_law) (defBody s_law) (defScope s_law) .none kV17 dc17 pm17 an17 cd17 ct17), sl17⟩)
    (c17 : PySem.W.codeIn K cd17 "law" = true) (k17 : PySem.W.keepIn K (.ref f17) = true)
    (z_ValueError : PySem.W.nsIn K mainGlobals "ValueError" = some none)
    (z_abs : PySem.W.nsIn K mainGlobals "abs" = some none)
    (z_all : PySem.W.nsIn K mainGlobals "all" = some none)
    (z_bool : PySem.W.nsIn K mainGlobals "bool" = some none)
    (z_enumerate : PySem.W.nsIn K mainGlobals "enumerate" = some none)
    (z_int : PySem.W.nsIn K mainGlobals "int" = some none)
    (z_isinstance : PySem.W.nsIn K mainGlobals "isinstance" = some none)
    (z_len : PySem.W.nsIn K mainGlobals "len" = some none)
    (z_list : PySem.W.nsIn K mainGlobals "list" = some none)
    (z_max : PySem.W.nsIn K mainGlobals "max" = some none)
    (z_min : PySem.W.nsIn K mainGlobals "min" = some none)
    (z_range : PySem.W.nsIn K mainGlobals "range" = some none)
    (z_sorted : PySem.W.nsIn K mainGlobals "sorted" = some none)
    (z_sum : PySem.W.nsIn K mainGlobals "sum" = some none)
    (y_zip_longest : PySem.W.nsIn K mainGlobals "zip_longest" = some (some (.type "itertools.zip_longest")))
    (v_GREATEST_WHOLE : PySem.W.nsIn K mainGlobals "GREATEST_WHOLE" = some (some (.int 200 t_GREATEST_WHOLE)))
    (g_NoFit : PySem.W.nsIn K mainGlobals "NoFit" = some (some (.ref C_NoFit)))
    (g_NoNumber : PySem.W.nsIn K mainGlobals "NoNumber" = some (some (.ref C_NoNumber)))
    (g_NoParting : PySem.W.nsIn K mainGlobals "NoParting" = some (some (.ref C_NoParting)))
    (g_PartError : PySem.W.nsIn K mainGlobals "PartError" = some (some (.ref C_PartError)))
    (x_NoFit : PySem.W.excIn K C_NoFit [.type "ValueError", .type "Exception", .type "BaseException", .type "object"] "ValueError.__new__" = true)
    (k_NoFit : PySem.W.keepIn K (.ref C_NoFit) = true)
    (s_NoFit : PySem.W.subIn K (.ref C_NoFit) (.type "BaseException") = some true)
    (t_NoFit : PySem.W.typeIn K (.ref C_NoFit) = some (.type "type"))
    (ehg_NoFit : PySem.W.findIn K (.ref C_NoFit) "__getattribute__" = some (some (.builtin "BaseException.__getattribute__")))
    (ehk_NoFit : PySem.W.findIn K (.ref C_NoFit) "__getattr__" = some none)
    (ehd_NoFit : PySem.W.hasDictIn K C_NoFit = true)
    (eha_NoFit : PySem.W.findIn K (.ref C_NoFit) "__class__" = some (some (.builtin "object.__class__")))
    (ehm_NoFit : PySem.W.mroIn K C_NoFit (.type "object") = some true)
    (e_hn : PySem.W.specialIn K (.builtin "object.__class__") "__get__" = some (some (.builtin "getset_descriptor.__get__")))
    (e_ht : PySem.W.takesIn K (.builtin "object.__class__") = some true)
    (ns_PartError : PySem.W.subIn K (.ref C_PartError) (.type "BaseException") = some true)
    (nd_PartError : PySem.W.hasDictIn K C_PartError = true)
    (nt_PartError : PySem.W.typeIn K (.ref C_PartError) = some (.type "type"))
    (ns_NoParting : PySem.W.subIn K (.ref C_NoParting) (.type "BaseException") = some true)
    (nd_NoParting : PySem.W.hasDictIn K C_NoParting = true)
    (nt_NoParting : PySem.W.typeIn K (.ref C_NoParting) = some (.type "type"))
    (ns_NoNumber : PySem.W.subIn K (.ref C_NoNumber) (.type "BaseException") = some true)
    (nd_NoNumber : PySem.W.hasDictIn K C_NoNumber = true)
    (nt_NoNumber : PySem.W.typeIn K (.ref C_NoNumber) = some (.type "type"))
    (m_NoFit_PartError : PySem.W.subIn K (.ref C_NoFit) (.ref C_PartError) = some true)
    (q_NoFit_NoParting : PySem.W.subIn K (.ref C_NoFit) (.ref C_NoParting) = some false)
    (u_NoFit_NoParting : (Value.ref C_NoFit == Value.ref C_NoParting) = false)
    (q_NoFit_NoNumber : PySem.W.subIn K (.ref C_NoFit) (.ref C_NoNumber) = some false)
    (u_NoFit_NoNumber : (Value.ref C_NoFit == Value.ref C_NoNumber) = false)
    (q_NoFit_ValueError : PySem.W.subIn K (.ref C_NoFit) (.type "ValueError") = some true)
    : ∃ fd : FuncData, (∀ (s : Shared) (v : Value), BindsTo s fd ⟨[v], []⟩ [("_law_script", v)]) ∧ ∀ base : Heap, K.In base → base.Ns mainGlobals mg → FnOk l.prog w K mg base CX0 9 fa fd ["_law_script"] (sp_law K) := by
  have e := hfa.symm.trans (PySem.W.mg_of X G a17)
  cases e
  have F1 := fun_mk (st := s_is_number) l1 c1 k1
  have b1 := F1.binds (ps := ["thing"]) fun _ _ _ _ _ _ us hl => match us, hl with | [_], _ => rfl
  have F2 := fun_mk (st := s_is_parting) l2 c2 k2
  have b2 := F2.binds (ps := ["thing"]) fun _ _ _ _ _ _ us hl => match us, hl with | [_], _ => rfl
  have F3 := fun_mk (st := s_check_parting) l3 c3 k3
  have b3 := F3.binds (ps := ["thing"]) fun _ _ _ _ _ _ us hl => match us, hl with | [_], _ => rfl
  have F4 := fun_mk (st := s_lies_above) l4 c4 k4
  have b4 := F4.binds (ps := ["one", "other"]) fun _ _ _ _ _ _ us hl => match us, hl with | [_, _], _ => rfl
  have F5 := fun_mk (st := s_lacking_count) l5 c5 k5
  have b5 := F5.binds (ps := ["one", "other"]) fun _ _ _ _ _ _ us hl => match us, hl with | [_, _], _ => rfl
  have F6 := fun_mk (st := s_way_down) l6 c6 k6
  have b6 := F6.binds (ps := ["one", "other"]) fun _ _ _ _ _ _ us hl => match us, hl with | [_, _], _ => rfl
  have F7 := fun_mk (st := s_check_pair) l7 c7 k7
  have b7 := F7.binds (ps := ["one", "other"]) fun _ _ _ _ _ _ us hl => match us, hl with | [_, _], _ => rfl
  have F8 := fun_mk (st := s_gaps) l8 c8 k8
  have b8 := F8.binds (ps := ["one", "other"]) fun _ _ _ _ _ _ us hl => match us, hl with | [_, _], _ => rfl
  have F9 := fun_mk (st := s_law_mixed) l9 c9 k9
  have b9 := F9.binds (ps := ["_law_number_here", "_law_k"]) fun _ _ _ _ _ _ us hl => match us, hl with | [_, _], _ => rfl
  have F10 := fun_mk (st := s_law_number) l10 c10 k10
  have b10 := F10.binds (ps := ["_law_script", "_law_k"]) fun _ _ _ _ _ _ us hl => match us, hl with | [_, _], _ => rfl
  have F11 := fun_mk (st := s_law_parting_by) l11 c11 k11
  have b11 := F11.binds (ps := ["_law_script", "_law_first"]) fun _ _ _ _ _ _ us hl => match us, hl with | [_, _], _ => rfl
  have F12 := fun_mk (st := s_law_pair_by) l12 c12 k12
  have b12 := F12.binds (ps := ["_law_script"]) fun _ _ _ _ _ _ us hl => match us, hl with | [_], _ => rfl
  have F13 := fun_mk (st := s_law_lacking) l13 c13 k13
  have b13 := F13.binds (ps := ["_law_one", "_law_other"]) fun _ _ _ _ _ _ us hl => match us, hl with | [_, _], _ => rfl
  have F14 := fun_mk (st := s_law_name) l14 c14 k14
  have b14 := F14.binds (ps := ["_law_error"]) fun _ _ _ _ _ _ us hl => match us, hl with | [_], _ => rfl
  have F15 := fun_mk (st := s_law_told) l15 c15 k15
  have b15 := F15.binds (ps := ["_law_which", "_law_one", "_law_other"]) fun _ _ _ _ _ _ us hl => match us, hl with | [_, _, _], _ => rfl
  have F16 := fun_mk (st := s_law_right) l16 c16 k16
  have b16 := F16.binds (ps := ["_law_one", "_law_other"]) fun _ _ _ _ _ _ us hl => match us, hl with | [_, _], _ => rfl
  have F17 := fun_mk (st := s_law) l17 c17 k17
  have b17 := F17.binds (ps := ["_law_script"]) fun _ _ _ _ _ _ us hl => match us, hl with | [_], _ => rfl
  let T : Tx K mg := { a_is_number := f1, d_is_number := _, F_is_number := F1, b_is_number := b1, g_is_number := PySem.W.mg_of X G a1, a_is_parting := f2, d_is_parting := _, F_is_parting := F2, b_is_parting := b2, g_is_parting := PySem.W.mg_of X G a2, a_check_parting := f3, d_check_parting := _, F_check_parting := F3, b_check_parting := b3, g_check_parting := PySem.W.mg_of X G a3, a_lies_above := f4, d_lies_above := _, F_lies_above := F4, b_lies_above := b4, g_lies_above := PySem.W.mg_of X G a4, a_lacking_count := f5, d_lacking_count := _, F_lacking_count := F5, b_lacking_count := b5, g_lacking_count := PySem.W.mg_of X G a5, a_way_down := f6, d_way_down := _, F_way_down := F6, b_way_down := b6, g_way_down := PySem.W.mg_of X G a6, a_check_pair := f7, d_check_pair := _, F_check_pair := F7, b_check_pair := b7, g_check_pair := PySem.W.mg_of X G a7, a_gaps := f8, d_gaps := _, F_gaps := F8, b_gaps := b8, g_gaps := PySem.W.mg_of X G a8, a_law_mixed := f9, d_law_mixed := _, F_law_mixed := F9, b_law_mixed := b9, g_law_mixed := PySem.W.mg_of X G a9, a_law_number := f10, d_law_number := _, F_law_number := F10, b_law_number := b10, g_law_number := PySem.W.mg_of X G a10, a_law_parting_by := f11, d_law_parting_by := _, F_law_parting_by := F11, b_law_parting_by := b11, g_law_parting_by := PySem.W.mg_of X G a11, a_law_pair_by := f12, d_law_pair_by := _, F_law_pair_by := F12, b_law_pair_by := b12, g_law_pair_by := PySem.W.mg_of X G a12, a_law_lacking := f13, d_law_lacking := _, F_law_lacking := F13, b_law_lacking := b13, g_law_lacking := PySem.W.mg_of X G a13, a_law_name := f14, d_law_name := _, F_law_name := F14, b_law_name := b14, g_law_name := PySem.W.mg_of X G a14, a_law_told := f15, d_law_told := _, F_law_told := F15, b_law_told := b15, g_law_told := PySem.W.mg_of X G a15, a_law_right := f16, d_law_right := _, F_law_right := F16, b_law_right := b16, g_law_right := PySem.W.mg_of X G a16, a_law := fa, d_law := _, F_law := F17, b_law := b17, g_law := PySem.W.mg_of X G a17, n_ValueError := PySem.W.mg_none_of X G z_ValueError, n_abs := PySem.W.mg_none_of X G z_abs, n_all := PySem.W.mg_none_of X G z_all, n_bool := PySem.W.mg_none_of X G z_bool, n_enumerate := PySem.W.mg_none_of X G z_enumerate, n_int := PySem.W.mg_none_of X G z_int, n_isinstance := PySem.W.mg_none_of X G z_isinstance, n_len := PySem.W.mg_none_of X G z_len, n_list := PySem.W.mg_none_of X G z_list, n_max := PySem.W.mg_none_of X G z_max, n_min := PySem.W.mg_none_of X G z_min, n_range := PySem.W.mg_none_of X G z_range, n_sorted := PySem.W.mg_none_of X G z_sorted, n_sum := PySem.W.mg_none_of X G z_sum, g_zip_longest := PySem.W.mg_of X G y_zip_longest, u_GREATEST_WHOLE := _, c_GREATEST_WHOLE := PySem.W.mg_of X G v_GREATEST_WHOLE, r_GREATEST_WHOLE := ⟨_, rfl⟩, C_NoFit := C_NoFit, g_NoFit := PySem.W.mg_of X G g_NoFit, C_NoNumber := C_NoNumber, g_NoNumber := PySem.W.mg_of X G g_NoNumber, C_NoParting := C_NoParting, g_NoParting := PySem.W.mg_of X G g_NoParting, C_PartError := C_PartError, g_PartError := PySem.W.mg_of X G g_PartError, x_NoFit := x_NoFit, k_NoFit := k_NoFit, s_NoFit := s_NoFit, t_NoFit := t_NoFit, e_NoFit := ⟨ehg_NoFit, ehk_NoFit, s_NoFit, ehd_NoFit, eha_NoFit, e_hn, e_ht, ehm_NoFit⟩, m_NoFit_PartError := PySem.W.exm_ref ns_PartError nd_PartError nt_PartError m_NoFit_PartError, q_NoFit_NoParting := kit_own u_NoFit_NoParting nd_NoParting nt_NoParting q_NoFit_NoParting, q_NoFit_NoFit := kit_same, q_NoFit_NoNumber := kit_own u_NoFit_NoNumber nd_NoNumber nt_NoNumber q_NoFit_NoNumber, q_NoFit_ValueError := kit_built (by decide +kernel) q_NoFit_ValueError }
  exact ⟨PySem.W.fnOf "law" "law" (defArgs s_law) (defBody s_law) (defScope s_law) .none kV17 dc17 pm17 an17 cd17 ct17, fun s v => .of_eq rfl, fun base _ _ => ok_law T⟩
end K3
open PySem PySem.W PyProof.Rows
set_option maxHeartbeats 0 in
theorem PySem.Challenge.cw_stairparts_k03_above_and_lacking_holds : PySem.Challenge.rw_stairparts_k03_above_and_lacking.Holds := by
  w_on; o_law; k_head; (case hw => w_witness2)
  k_fill
  refine L2.walk_of (l := PySem.Challenge.rw_stairparts_k03_above_and_lacking) (n := 63) (k := 9) (x := "_law_script") (CX := fun _ => L2.CX0) (sp := fun w => K3.sp_law _) rfl (by decide) rfl ⟨rfl, by decide, by decide⟩ (fun w h Y => PySem.W.kIn_of Y) ?F (fun _ _ a ns hl _ hS => ⟨a, ns, rfl, hS, hl, fun _ => rfl⟩) (fun _ _ _ _ _ h => h)
  case F =>
    intro w mg fa h KX G hmg
    refine' K3.all_mk KX G hmg ?a1 ?l1 ?c1 ?k1 ?a2 ?l2 ?c2 ?k2 ?a3 ?l3 ?c3 ?k3 ?a4 ?l4 ?c4 ?k4 ?a5 ?l5 ?c5 ?k5 ?a6 ?l6 ?c6 ?k6 ?a7 ?l7 ?c7 ?k7 ?a8 ?l8 ?c8 ?k8 ?a9 ?l9 ?c9 ?k9 ?a10 ?l10 ?c10 ?k10 ?a11 ?l11 ?c11 ?k11 ?a12 ?l12 ?c12 ?k12 ?a13 ?l13 ?c13 ?k13 ?a14 ?l14 ?c14 ?k14 ?a15 ?l15 ?c15 ?k15 ?a16 ?l16 ?c16 ?k16 ?a17 ?l17 ?c17 ?k17 ?z_ValueError ?z_abs ?z_all ?z_bool ?z_enumerate ?z_int ?z_isinstance ?z_len ?z_list ?z_max ?z_min ?z_range ?z_sorted ?z_sum ?y_zip_longest ?v_GREATEST_WHOLE ?g_NoFit ?g_NoNumber ?g_NoParting ?g_PartError ?x_NoFit ?k_NoFit ?s_NoFit ?t_NoFit ?ehg_NoFit ?ehk_NoFit ?ehd_NoFit ?eha_NoFit ?ehm_NoFit ?e_hn ?e_ht ?ns_PartError ?nd_PartError ?nt_PartError ?ns_NoParting ?nd_NoParting ?nt_NoParting ?ns_NoNumber ?nd_NoNumber ?nt_NoNumber ?m_NoFit_PartError ?q_NoFit_NoParting ?u_NoFit_NoParting ?q_NoFit_NoNumber ?u_NoFit_NoNumber ?q_NoFit_ValueError
    (case a1 => k_is); (case l1 => k_is); (case c1 => k_is); (case k1 => k_is)
    (case a2 => k_is); (case l2 => k_is); (case c2 => k_is); (case k2 => k_is)
    (case a3 => k_is); (case l3 => k_is); (case c3 => k_is); (case k3 => k_is)
    (case a4 => k_is); (case l4 => k_is); (case c4 => k_is); (case k4 => k_is)
    (case a5 => k_is); (case l5 => k_is); (case c5 => k_is); (case k5 => k_is)
    (case a6 => k_is); (case l6 => k_is); (case c6 => k_is); (case k6 => k_is)
    (case a7 => k_is); (case l7 => k_is); (case c7 => k_is); (case k7 => k_is)
    (case a8 => k_is); (case l8 => k_is); (case c8 => k_is); (case k8 => k_is)
    (case a9 => k_is); (case l9 => k_is); (case c9 => k_is); (case k9 => k_is)
    (case a10 => k_is); (case l10 => k_is); (case c10 => k_is); (case k10 => k_is)
    (case a11 => k_is); (case l11 => k_is); (case c11 => k_is); (case k11 => k_is)
    (case a12 => k_is); (case l12 => k_is); (case c12 => k_is); (case k12 => k_is)
    (case a13 => k_is); (case l13 => k_is); (case c13 => k_is); (case k13 => k_is)
    (case a14 => k_is); (case l14 => k_is); (case c14 => k_is); (case k14 => k_is)
    (case a15 => k_is); (case l15 => k_is); (case c15 => k_is); (case k15 => k_is)
    (case a16 => k_is); (case l16 => k_is); (case c16 => k_is); (case k16 => k_is)
    (case a17 => k_is); (case l17 => k_is); (case c17 => k_is); (case k17 => k_is)
    (case z_ValueError => k_is); (case z_abs => k_is); (case z_all => k_is); (case z_bool => k_is)
    (case z_enumerate => k_is); (case z_int => k_is); (case z_isinstance => k_is); (case z_len => k_is)
    (case z_list => k_is); (case z_max => k_is); (case z_min => k_is); (case z_range => k_is)
    (case z_sorted => k_is); (case z_sum => k_is); (case y_zip_longest => k_is); (case v_GREATEST_WHOLE => k_is)
    (case g_NoFit => k_is); (case g_NoNumber => k_is); (case g_NoParting => k_is); (case g_PartError => k_is)
    (case x_NoFit => k_exc); (case k_NoFit => k_is); (case s_NoFit => k_is); (case t_NoFit => k_is)
    (case ehg_NoFit => k_is); (case ehk_NoFit => k_is); (case ehd_NoFit => k_is); (case eha_NoFit => k_is)
    (case ehm_NoFit => k_is); (case e_hn => k_is); (case e_ht => k_is); (case ns_PartError => k_is)
    (case nd_PartError => k_is); (case nt_PartError => k_is); (case ns_NoParting => k_is); (case nd_NoParting => k_is)
    (case nt_NoParting => k_is); (case ns_NoNumber => k_is); (case nd_NoNumber => k_is); (case nt_NoNumber => k_is)
    (case m_NoFit_PartError => first | rfl | k_is); (case q_NoFit_NoParting => k_is); (case u_NoFit_NoParting => first | rfl | decide +kernel); (case q_NoFit_NoNumber => k_is)
    (case u_NoFit_NoNumber => first | rfl | decide +kernel); (case q_NoFit_ValueError => k_is)
