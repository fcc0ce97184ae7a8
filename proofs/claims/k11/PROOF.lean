import PyProof.Rows.All
import Wide.All
import OpenK.AllK
import Wide.FinOn
import KE.DatumOrd
import KE.KEqSeq
import HandS.Base
import HandS.Call
import HandS.List
import HandS.Comp
import HandS.Iter
import HandS.Ends
import HandS.Words
import HandS.SortKw
import HandS.SortInts
import HandS.IsInst
import HandS.Style
import HandS.Evl
import HandS.Star
import HandS.SetFor
import HandS.Exc
import HandS.ExcOwn
import HandS.ExcValue
import HandS.ExcIs
import HandS.TryOnly
import HandS.WordsExc
import PyProof.Rows.CountFlat
import PyProof.CallType
import KE.GoesEnumKw
import PyProof.ZipIter
import PyProof.RulesTry
import HandS.Zip
import HandS.Set
import HandS.Strs
import HandS.Defaults
import KE.SortData
import PySem.Challenge.RW_stairparts_k11_whole_numbered
set_option Elab.async false
set_option linter.all false
set_option maxRecDepth 100000
set_option maxHeartbeats 2000000
namespace XP
open PySem PySem.Spec PyProof.Rows L2
/-! ### max(xs, default=d) over a list of whole numbers -/
theorem fold_max (x : Int) : ∀ xs : List Int, (xs.foldl (fun a y => if decide (a < y) = true then y else a) x ∈ x :: xs) ∧ ∀ y ∈ x :: xs, y ≤ xs.foldl (fun a y => if decide (a < y) = true then y else a) x := by
  intro xs
  induction xs generalizing x with
  | nil => exact ⟨List.mem_cons_self, fun y hy => by simp at hy; simp [hy]⟩
  | cons z r ih =>
    rw [List.foldl_cons]
    by_cases c : x < z
    · rw [if_pos (decide_eq_true c)]
      obtain ⟨h1, h2⟩ := ih z
      refine ⟨List.mem_cons_of_mem _ h1, fun y hy => ?_⟩
      rcases List.mem_cons.mp hy with e | hy
      · have := h2 z List.mem_cons_self
        omega
      · exact h2 y hy
    · rw [if_neg (by simpa using c)]
      obtain ⟨h1, h2⟩ := ih x
      refine ⟨?_, fun y hy => ?_⟩
      · rcases List.mem_cons.mp h1 with e | h
        · rw [e]; exact List.mem_cons_self
        · exact List.mem_cons_of_mem _ (List.mem_cons_of_mem _ h)
      · rcases List.mem_cons.mp hy with e | hy
        · rw [e]; exact h2 x List.mem_cons_self
        · rcases List.mem_cons.mp hy with e | hy
          · have := h2 x List.mem_cons_self
            omega
          · exact h2 y (List.mem_cons_of_mem _ hy)
theorem readsAll_ints (h : Heap) : ∀ {vs : List Value} {ns : List Int}, IntsAre vs ns → ReadsAll h vs (ns.map (PySem.W.Datum.toD (α := Int))) []
  | _, _, .nil => .nil
  | _, _, .cons n t r => by
    rw [List.map_cons]
    exact ReadsAll.cons (as := []) (bs := []) (.int n t) (readsAll_ints h r)
def rMaxD (K : PySem.W.Frag) : List V → List V → Hp → VK → Prop := fun vs zs H Q => ∃ (a : Addr) (ns : List Int) (d : Int), vs = [V.ref a] ∧ zs = [.int d] ∧ SqL K H a (ns.map V.int) ∧
  (ns = [] → Q (.int d) H) ∧ ∀ m, m ∈ ns → (∀ y, y ∈ ns → y ≤ m) → Q (.int m) H
theorem cr_maxD {X : Cx} (hc : X.calm = true) (hu : X.A.units + 2 < cLine) : CallRK X (.builtin "max") [Str.ofString "default"] (rMaxD X.K) := by
  intro pins s σ H vs zs us ws Q I r rz h
  obtain ⟨a, ns, d, rfl, rfl, hs, q0, q⟩ := h
  obtain ⟨its, rv, hl, _⟩ := I.list hs
  rw [Vals.ref1 r]
  obtain ⟨w1, rfl, t1, rfl⟩ := vals1 rz
  refine PySem.W.max_list_datum_default (α := Int) (I.ok.hd hc) hl.isList ⟨[], readsAll_ints _ rv.ints⟩ (by show X.A.units + 1 + 0 < cLine; omega) (fun e h' tk hk => ⟨.int d, H, I.kept hk, ⟨_, rfl⟩, q0 e⟩) fun y ys i v h' tk e hi hd hk => ?_
  obtain ⟨as, hr⟩ := hd
  obtain ⟨g1, g2⟩ := fold_max y ys
  have hr' : Reads h' v (.int (ys.foldl (fun a y => if decide (a < y) = true then y else a) y)) as := hr
  cases hr' with
  | int _ t => exact ⟨.int _, H, I.kept hk, ⟨_, rfl⟩, q _ (by rw [e]; exact g1) (by rw [e]; exact g2)⟩
end XP
/-! ## Short words over the hand layer: what evaluates to what -/
open PySem in
theorem L2.Room.two {k : Nat} {A : PySem.Around} (r : L2.Room k A) : A.units + 2 < cLine := by
  have := r.un
  omega
namespace XP
open PySem PySem.Spec PyProof.Rows L2
/-! ### the rules that name the written part K, by a K of one's own (within comprehensions) -/
section
variable {X : Cx} {K : PySem.W.Frag}
theorem isiK (h : X.K = K) : CallR X (.builtin "isinstance") (rIsi K) := h ▸ call_isi
def rLenK (K : PySem.W.Frag) : List V → Hp → VK → Prop := fun xs H Q => ∃ p ys, xs = [.ref p] ∧ (SqL K H p ys ∨ SqT K H p ys) ∧ Q (.int ys.length) H
theorem lenK (h : X.K = K) : CallR X (.builtin "len") (rLenK K) := h ▸ call_len_seq
theorem sumK (h : X.K = K) (hc : X.calm = true) : CallR X (.builtin "sum") (rSum K) := h ▸ cr_sum hc
theorem maxK (h : X.K = K) (hc : X.calm = true) : CallR X (.builtin "max") (rMax K) := h ▸ cr_max hc
theorem minK (h : X.K = K) (hc : X.calm = true) : CallR X (.builtin "min") (rMin K) := h ▸ cr_min hc
theorem allK (h : X.K = K) (hc : X.calm = true) : CallR X (.builtin "all") (rAll K) := h ▸ cr_all hc
theorem anyK (h : X.K = K) (hc : X.calm = true) : CallR X (.builtin "any") (rAny K) := h ▸ cr_any hc
theorem sortedK (h : X.K = K) : CallR X (.builtin "sorted") (rSortedI K) := h ▸ cr_sortedI
def rListK (K : PySem.W.Frag) : List V → Hp → VK → Prop := fun xs H Q => ∃ p ys, xs = [.ref p] ∧ (SqL K H p ys ∨ SqT K H p ys) ∧ ∀ l, H l = none → Q (.ref l) (upd H l (.lst ys))
theorem listK (h : X.K = K) : CallR X (.type "list") (rListK K) := h ▸ call_list_of
theorem ixlK (h : X.K = K) : IxR X (rIxL K) := h ▸ ix_list
theorem ixtK (h : X.K = K) : IxR X (rIxT K) := h ▸ ix_tup
theorem eqK (h : X.K = K) (hu : X.A.units + 64 < cLine) : OpR X (compareOp .Eq) (rEqD K) := h ▸ op_eqD hu
theorem neK (h : X.K = K) (hu : X.A.units + 64 < cLine) : OpR X (compareOp .NotEq) (rNeD K) := h ▸ op_neD hu
theorem inK (h : X.K = K) : OpR X (compareOp .In) (rIn K false) := h ▸ op_in_seq
theorem notInK (h : X.K = K) : OpR X (compareOp .NotIn) (rIn K true) := h ▸ op_notIn_seq
theorem sllK (h : X.K = K) : SlR X (rSlL K) := h ▸ sl_list
theorem maxDK (h : X.K = K) (hc : X.calm = true) (hu : X.A.units + 2 < cLine) : CallRK X (.builtin "max") [Str.ofString "default"] (rMaxD K) := h ▸ cr_maxD hc hu
end
end XP
namespace XP
open PySem PySem.Spec PyProof.Rows L2 Evl
/-- a list of whole numbers stands at a -/
abbrev Ll (H : Hp) (a : Addr) (ns : List Int) : Prop := H a = some (.lst (ns.map V.int))
theorem Ll.sq {K : PySem.W.Frag} {H : Hp} {a : Addr} {ns : List Int} (h : Ll H a ns) : SqL K H a (ns.map V.int) := .inl (.inl h)
theorem map_int_inj : ∀ {xs ys : List Int}, xs.map V.int = ys.map V.int → xs = ys
  | [], [], _ => rfl
  | [], _ :: _, h => by simp at h
  | _ :: _, [], h => by simp at h
  | x :: xs, y :: ys, h => by
    rw [List.map_cons, List.map_cons] at h
    injection h with h1 h2
    injection h1 with h1
    rw [h1, map_int_inj h2]
theorem get_int {ns : List Int} {i : Nat} {v : V} (h : (ns.map V.int)[i]? = some v) : ∃ z, ns[i]? = some z ∧ v = .int z := by
  rw [List.getElem?_map] at h
  cases e : ns[i]? with
  | none => rw [e] at h; cases h
  | some z => rw [e] at h; cases h; exact ⟨z, rfl, rfl⟩
theorem take_one {α : Type} {l : List α} {i : Nat} {x : α} (h : l[i]? = some x) : l.take (i + 1) = l.take i ++ [x] := by
  rw [List.take_add_one, h]
  rfl
theorem drop_one {α : Type} {l : List α} {i : Nat} {x : α} (h : l[i]? = some x) : l.drop i = x :: l.drop (i + 1) := by
  obtain ⟨hi, e⟩ := List.getElem?_eq_some_iff.mp h
  rw [List.drop_eq_getElem_cons hi, e]
theorem lt_of_get {α : Type} {l : List α} {i : Nat} {x : α} (h : l[i]? = some x) : i < l.length := (List.getElem?_eq_some_iff.mp h).1
/-! data -/
theorem dpall_ints {K : PySem.W.Frag} {H : Hp} : ∀ ns : List Int, DpAll K H (ns.map V.int) (ns.map PyData.int)
  | [] => .nil
  | n :: r => .cons (.int n) (dpall_ints r)
theorem dp_ints {K : PySem.W.Frag} {H : Hp} {a : Addr} {ns : List Int} (h : SqL K H a (ns.map V.int)) : Dp K H (.ref a) (.list (ns.map PyData.int)) := .lst h (dpall_ints ns)
theorem eqvAll_ints : ∀ xs ys : List Int, PyData.eqvAll (xs.map PyData.int) (ys.map PyData.int) = decide (xs = ys)
  | [], [] => by simp [PyData.eqvAll]
  | [], _ :: _ => by simp [PyData.eqvAll]
  | _ :: _, [] => by simp [PyData.eqvAll]
  | x :: xs, y :: ys => by
    show (PyData.eqv (.int x) (.int y) && PyData.eqvAll (xs.map PyData.int) (ys.map PyData.int)) = _
    rw [eqvAll_ints xs ys]
    rw [Bool.eq_iff_iff]
    simp [PyData.eqv]
theorem eqv_ints (xs ys : List Int) : PyData.eqv (.list (xs.map PyData.int)) (.list (ys.map PyData.int)) = decide (xs = ys) := by
  simp only [PyData.eqv]
  exact eqvAll_ints xs ys
theorem shaped_ints (ns : List Int) : SeqAt.shaped (.list (ns.map PyData.int)) = true := PySem.W.ke_shaped_ints ns
section
variable {K : PySem.W.Frag} {σ : L2.St} {H H' : Hp} {ta tb te tx : TE} {t u : TT} {x y z v : V} {r : R2} {a b p : Addr} {xs ys : List Int} {i j : Int}
/-! operators -/
theorem ev_rI0 {g : Int → Int → V} (ha : Ev ta σ H (.int i)) (hb : Ev tb σ H (.int j)) : Ev (tOp (rI0 g) ta tb) σ H (g i j) := ev_op ha hb rv_I0
theorem ev_rI {C : Int → Int → Prop} {g : Int → Int → V} (ha : Ev ta σ H (.int i)) (hb : Ev tb σ H (.int j)) (hc : C i j) : Ev (tOp (rI C g) ta tb) σ H (g i j) := ev_op ha hb (rv_I hc)
theorem ev_eq (ha : Ev ta σ H x) (hb : Ev tb σ H y) (h : scal x y = true) : Ev (tOp rEq ta tb) σ H (.bl (decide (x = y))) := ev_op ha hb (rv_eq h)
theorem ev_ne (ha : Ev ta σ H x) (hb : Ev tb σ H y) (h : scal x y = true) : Ev (tOp rNe ta tb) σ H (.bl (!decide (x = y))) := ev_op ha hb (rv_ne h)
theorem rv_eqL (h1 : SqL K H a (xs.map V.int)) (h2 : SqL K H b (ys.map V.int)) : RV (rEqD K) (.ref a) (.ref b) H (.bl (decide (xs = ys))) := fun H1 e Q q =>
  ⟨_, _, dp_ints (ex_l e h1), dp_ints (ex_l e h2), shaped_ints xs, shaped_ints ys, by rw [eqv_ints]; exact q H1 (Ex.refl H1)⟩
theorem rv_neL (h1 : SqL K H a (xs.map V.int)) (h2 : SqL K H b (ys.map V.int)) : RV (rNeD K) (.ref a) (.ref b) H (.bl (!decide (xs = ys))) := fun H1 e Q q =>
  ⟨_, _, dp_ints (ex_l e h1), dp_ints (ex_l e h2), shaped_ints xs, shaped_ints ys, by rw [eqv_ints]; exact q H1 (Ex.refl H1)⟩
/-- is None, is True -/
theorem ev_isN (ha : Ev ta σ H x) : Ev (tOp (fun x y H Q => y = .non ∧ Q (.bl (decide (x = .non))) H) ta (tC .non)) σ H (.bl (decide (x = .non))) := ev_op ha ev_c fun H1 _ _ q => ⟨rfl, q H1 (Ex.refl H1)⟩
theorem ev_notN (ha : Ev ta σ H x) : Ev (tOp (fun x y H Q => y = .non ∧ Q (.bl (!decide (x = .non))) H) ta (tC .non)) σ H (.bl (!decide (x = .non))) := ev_op ha ev_c fun H1 _ _ q => ⟨rfl, q H1 (Ex.refl H1)⟩
theorem ev_isB {c d : Bool} (ha : Ev ta σ H (.bl c)) (hb : Ev tb σ H (.bl d)) : Ev (tOp rIsB ta tb) σ H (.bl (decide (c = d))) := ev_op ha hb fun H1 _ _ q => ⟨c, d, rfl, rfl, q H1 (Ex.refl H1)⟩
theorem ev_notB {c d : Bool} (ha : Ev ta σ H (.bl c)) (hb : Ev tb σ H (.bl d)) : Ev (tOp rNotB ta tb) σ H (.bl (!decide (c = d))) := ev_op ha hb fun H1 _ _ q => ⟨c, d, rfl, rfl, q H1 (Ex.refl H1)⟩
/-! calls of built-ins, by values -/
theorem rc_isi {c : V} {t u : Value} {k : Bool} (hc : ClsV c u) (ht : ∀ H1, Ex H H1 → TyX K H1 x t) (hk : PySem.W.kitOne K t u = some k) : RC (rIsi K) [x, c] H (.bl k) := fun H1 e _ q =>
  ⟨x, c, t, u, k, rfl, hc, ht H1 e, hk, q H1 (Ex.refl H1)⟩
theorem rc_isiL {zs : List V} (h : H a = some (.lst zs)) : RC (rIsi K) [.ref a, .ty "list"] H (.bl true) := rc_isi (.ty _) (fun H1 e => .base (.lst (e a _ h))) (kit_ty (by decide +kernel))
theorem rc_isiInt : RC (rIsi K) [.int i, .ty "int"] H (.bl true) := rc_isi (.ty _) (fun _ _ => .base (.int _)) (kit_ty (by decide +kernel))
theorem rc_isiBool : RC (rIsi K) [.int i, .ty "bool"] H (.bl false) := rc_isi (.ty _) (fun _ _ => .base (.int _)) (kit_ty (by decide +kernel))
theorem rc_len {zs : List V} (h : SqL K H a zs) : RC (rLenK K) [.ref a] H (.int (zs.length : Int)) := fun H1 e _ q =>
  ⟨a, zs, rfl, .inl (ex_l e h), q H1 (Ex.refl H1)⟩
theorem rc_sum (h : SqL K H a (xs.map V.int)) : RC (rSum K) [.ref a] H (.int xs.sum) := fun H1 e _ q => ⟨a, xs, rfl, ex_l e h, q H1 (Ex.refl H1)⟩
theorem rc_all {bs : List Bool} (h : SqL K H a (bs.map V.bl)) : RC (rAll K) [.ref a] H (.bl (bs.all id)) := fun H1 e _ q => ⟨a, bs, rfl, ex_l e h, q H1 (Ex.refl H1)⟩
theorem rc_any {bs : List Bool} (h : SqL K H a (bs.map V.bl)) : RC (rAny K) [.ref a] H (.bl (bs.any id)) := fun H1 e _ q => ⟨a, bs, rfl, ex_l e h, q H1 (Ex.refl H1)⟩
theorem rc_min2 : RC (fun xs H Q => ∃ i j, xs = [.int i, .int j] ∧ Q (.int (if j < i then j else i)) H) [.int i, .int j] H (.int (if j < i then j else i)) := fun H1 _ _ q => ⟨i, j, rfl, q H1 (Ex.refl H1)⟩
theorem rc_max2 : RC (fun xs H Q => ∃ i j, xs = [.int i, .int j] ∧ Q (.int (if j > i then j else i)) H) [.int i, .int j] H (.int (if j > i then j else i)) := fun H1 _ _ q => ⟨i, j, rfl, q H1 (Ex.refl H1)⟩
/-- a call whose only argument is a new list -/
theorem ev_cbL {r : List V → Hp → VK → Prop} {zs : List V} (h : EvL ta σ H zs) (hr : ∀ p H1, Ex H H1 → H1 p = some (.lst zs) → RC r [.ref p] H1 z) : Ev (tCB r (tCons ta tNil)) σ H z := fun H1 e Q q =>
  h H1 e _ fun p H2 _ e2 hp => hr p H2 (e.trans e2) hp H2 (Ex.refl H2) Q fun H3 e3 => q H3 (e2.trans e3)
/-- list(xs): a new list -/
theorem rcl_list {zs : List V} (h : SqL K H a zs) : RCL (rListK K) [.ref a] H zs := fun H1 e _ q =>
  ⟨a, zs, rfl, .inl (ex_l e h), fun l hl => q l _ hl (Ex.new hl) upd_same⟩
/-- a value of which P is known: what a call may hand back -/
def EvP (te : TE) (σ : L2.St) (H : Hp) (P : V → Hp → Prop) : Prop := ∀ H1, Ex H H1 → ∀ Q : VK, (∀ v H2, Ex H1 H2 → P v H2 → Q v H2) → te σ H1 Q
theorem q_asgP {i : Nat} {D : Ends} {tz : TS} {P : V → Hp → Prop} (h : EvP te σ H P) (k : ∀ v H1, Ex H H1 → P v H1 → tz D (σ.set i (some v)) H1) : tSeq (tAsg te (gName i)) tz D σ H := h H (Ex.refl H) _ fun v H1 e p => k v H1 e p
theorem EvP.of (h : Ev te σ H v) : EvP te σ H (fun w _ => w = v) := fun H1 e Q q => h H1 e Q fun H2 e2 => q v H2 e2 rfl
theorem evP_call {sp : Sp} {dvs vs : List V} {E : XK} {ta : TA} {P : V → Hp → Prop} (h : EvA ta σ H vs) (hs : ∀ H1, Ex H H1 → ∀ Q : VK, (∀ v H2, Ex H1 H2 → P v H2 → Q v H2) → ∀ E : XK, sp (vs ++ dvs) H1 Q E) : EvP (tCall sp dvs E ta) σ H P := fun H1 e Q q =>
  h H1 e _ fun H2 e2 => hs H2 (e.trans e2) Q (fun v H3 e3 p => q v H3 (e2.trans e3) p) E
/-- xs + ys of lists that stand in H -/
theorem el_cat {l m : Addr} {zs ws : List V} (ha : Ev ta σ H (.ref l)) (hb : Ev tb σ H (.ref m)) (h1 : H l = some (.lst zs)) (h2 : H m = some (.lst ws)) (hz : zs.length + ws.length ≤ 100000) : EvL (tOp rCat ta tb) σ H (zs ++ ws) := fun H1 e Q q =>
  ha H1 e _ fun H2 e2 => hb H2 (e.trans e2) _ fun H3 e3 => ⟨l, m, zs, ws, rfl, rfl, (((e.trans e2).trans e3) l _ h1), (((e.trans e2).trans e3) m _ h2), sz_of hz, fun p hp => q p _ (fresh_back (e2.trans e3) hp) ((e2.trans e3).trans (Ex.new hp)) upd_same⟩
/-- [..] + ys -/
theorem el_catN {m : Addr} {zs ws : List V} (ha : EvL ta σ H zs) (hb : Ev tb σ H (.ref m)) (h2 : H m = some (.lst ws)) (hz : zs.length + ws.length ≤ 100000) : EvL (tOp rCat ta tb) σ H (zs ++ ws) := fun H1 e Q q =>
  ha H1 e _ fun l H2 hl e2 h1 => hb H2 (e.trans e2) _ fun H3 e3 => ⟨l, m, zs, ws, rfl, rfl, e3 l _ h1, (((e.trans e2).trans e3) m _ h2), sz_of hz, fun p hp => q p _ (fresh_back (e2.trans e3) hp) ((e2.trans e3).trans (Ex.new hp)) upd_same⟩
/-- xs + [..] -/
theorem el_catR {l : Addr} {zs ws : List V} (ha : Ev ta σ H (.ref l)) (hb : EvL tb σ H ws) (h1 : H l = some (.lst zs)) (hz : zs.length + ws.length ≤ 100000) : EvL (tOp rCat ta tb) σ H (zs ++ ws) := fun H1 e Q q =>
  ha H1 e _ fun H2 e2 => hb H2 (e.trans e2) _ fun m H3 hm e3 h2 => ⟨l, m, zs, ws, rfl, rfl, (((e.trans e2).trans e3) l _ h1), h2, sz_of hz, fun p hp => q p _ (fresh_back (e2.trans e3) hp) ((e2.trans e3).trans (Ex.new hp)) upd_same⟩
/-- [..] + [..], slices and the like -/
theorem el_catNN {zs ws : List V} (ha : EvL ta σ H zs) (hb : EvL tb σ H ws) (hz : zs.length + ws.length ≤ 100000) : EvL (tOp rCat ta tb) σ H (zs ++ ws) := fun H1 e Q q =>
  ha H1 e _ fun l H2 hl e2 h1 => hb H2 (e.trans e2) _ fun m H3 hm e3 h2 => ⟨l, m, zs, ws, rfl, rfl, e3 l _ h1, h2, sz_of hz, fun p hp => q p _ (fresh_back (e2.trans e3) hp) ((e2.trans e3).trans (Ex.new hp)) upd_same⟩
/-- [..] * k -/
theorem el_rep {zs : List V} {k : Int} (ha : EvL ta σ H zs) (hb : Ev tb σ H (.int k)) (h0 : 0 ≤ k ∧ k ≤ 100000) (hz : zs.length * k.toNat ≤ 100000) : EvL (tOp rRep ta tb) σ H (List.replicate k.toNat zs).flatten := fun H1 e Q q =>
  ha H1 e _ fun l H2 hl e2 h1 => hb H2 (e.trans e2) _ fun H3 e3 => ⟨l, k, zs, rfl, rfl, e3 l _ h1, by omega, by omega, sz_of hz, fun p hp => q p _ (fresh_back (e2.trans e3) hp) ((e2.trans e3).trans (Ex.new hp)) upd_same⟩
theorem EvP.mono {P : V → Hp → Prop} (e : Ex H H') (h : EvP te σ H P) : EvP te σ H' P := fun H1 a Q q => h H1 (e.trans a) Q q
end
end XP
namespace XP
open PySem PySem.Spec PyProof.Rows L2 Evl
/-! ### comprehensions -/
theorem given_getD {ns : List Int} (p : Int → Bool) (g : Int → V) : given ns.length (fun i => p (ns.getD i 0)) (fun i => g (ns.getD i 0)) = (ns.filter p).map g := by
  unfold given
  have key : ∀ (ns : List Int), (List.range ns.length).map (fun i => ns.getD i 0) = ns := by
    intro ns
    refine List.ext_getElem (by simp) fun i h1 h2 => ?_
    rw [List.getElem_map, List.getElem_range]
    simp [List.getD, h2]
  have e2 : ((List.range ns.length).filter fun i => p (ns.getD i 0)).map (fun i => ns.getD i 0) = ns.filter p := by
    have := List.filter_map (f := fun i => ns.getD i 0) (p := p) (l := List.range ns.length)
    rw [key ns] at this
    exact this.symm
  rw [← e2, List.map_map]
  rfl
theorem given_all (n : Nat) (v : Nat → V) : given n (fun _ => true) v = (List.range n).map v := by
  unfold given
  rw [List.filter_eq_self.mpr fun _ _ => rfl]
section
variable {K : PySem.W.Frag} {σ : L2.St} {H H' : Hp} {ta tb te tx : TE} {t u : TT} {x y z v : V} {r : R2} {a b p : Addr} {xs ys : List Int} {i j : Int} {D : Ends} {tz : TS}
theorem et_yes : EvT tYes σ H true := fun H1 _ _ q => q H1 (Ex.refl H1)
theorem el_is {zs ws : List V} (h : EvL te σ H zs) (e : zs = ws) : EvL te σ H ws := by
  rw [← e]
  exact h
theorem el_lcI {tl : TE} {k : Nat} {vs : List Nat} {ns : List Int} (p : Int → Bool) (g : Int → V) (h : Ev tl σ H (.ref a)) (hx : SqL K H a (ns.map V.int)) (hz : ns.length ≤ 40000) (hw : ∀ x, wipe ((wipe σ vs).set k (some x)) vs = wipe σ vs)
    (ht : ∀ (z : Int) H1, Ex H H1 → z ∈ ns → EvT t ((wipe σ vs).set k (some (.int z))) H1 (p z)) (he : ∀ (z : Int) H1, Ex H H1 → z ∈ ns → p z = true → Ev te ((wipe σ vs).set k (some (.int z))) H1 (g z)) :
    EvL (tLc (iList K tl) (gName k) t te vs) σ H ((ns.filter p).map g) := by
  refine el_is (el_lcL (fun i => p (ns.getD i 0)) (fun i => g (ns.getD i 0)) h hx (by rw [List.length_map]; exact hz) hw (fun i x H1 e1 hi => ?_) (fun i x H1 e1 hi hp => ?_)) (by rw [List.length_map]; exact given_getD p g)
  · obtain ⟨z, e, rfl⟩ := get_int hi
    have ez : ns.getD i 0 = z := by simp [List.getD, e]
    rw [ez]
    exact ht z H1 e1 (List.mem_of_getElem? e)
  · obtain ⟨z, e, rfl⟩ := get_int hi
    have ez : ns.getD i 0 = z := by simp [List.getD, e]
    rw [ez] at hp ⊢
    exact he z H1 e1 (List.mem_of_getElem? e) hp
theorem el_lcIA {tl : TE} {k : Nat} {vs : List Nat} {ns : List Int} (g : Int → V) (h : Ev tl σ H (.ref a)) (hx : SqL K H a (ns.map V.int)) (hz : ns.length ≤ 40000) (hw : ∀ x, wipe ((wipe σ vs).set k (some x)) vs = wipe σ vs)
    (he : ∀ (z : Int) H1, Ex H H1 → z ∈ ns → Ev te ((wipe σ vs).set k (some (.int z))) H1 (g z)) :
    EvL (tLc (iList K tl) (gName k) tYes te vs) σ H (ns.map g) := by
  refine el_is (el_lcI (fun _ => true) g h hx hz hw (fun _ _ _ _ => et_yes) fun z H1 e1 hm _ => he z H1 e1 hm) ?_
  rw [List.filter_eq_self.mpr fun _ _ => rfl]
theorem el_lcRA {tr : TA} {k : Nat} {vs : List Nat} {n : Int} (g : Nat → V) (h : EvA tr σ H [.int n]) (hn : 0 ≤ n ∧ n ≤ 40000) (hw : ∀ x, wipe ((wipe σ vs).set k (some x)) vs = wipe σ vs)
    (he : ∀ (i : Nat) H1, Ex H H1 → (i : Int) < n → Ev te ((wipe σ vs).set k (some (.int (i : Int)))) H1 (g i)) :
    EvL (tLc (iRng1 tr) (gName k) tYes te vs) σ H ((List.range n.toNat).map g) :=
  el_is (el_lcR1 (fun _ => true) g h hn hw (fun _ _ _ _ => et_yes) fun i H1 e1 hi _ => he i H1 e1 hi) (given_all _ _)
/-! ### calls of built-ins, further -/
theorem rc_maxOf {m : Int} (h : SqL K H a (xs.map V.int)) (h0 : 0 < xs.length) (hm : ∀ k, k ∈ xs → (∀ y, y ∈ xs → y ≤ k) → k = m) : RC (rMax K) [.ref a] H (.int m) := fun H1 e _ q =>
  ⟨a, xs, rfl, ex_l e h, h0, fun k h1 h2 => by rw [hm k h1 h2]; exact q H1 (Ex.refl H1)⟩
theorem rc_minOf {m : Int} (h : SqL K H a (xs.map V.int)) (h0 : 0 < xs.length) (hm : ∀ k, k ∈ xs → (∀ y, y ∈ xs → k ≤ y) → k = m) : RC (rMin K) [.ref a] H (.int m) := fun H1 e _ q =>
  ⟨a, xs, rfl, ex_l e h, h0, fun k h1 h2 => by rw [hm k h1 h2]; exact q H1 (Ex.refl H1)⟩
theorem ev_maxD {m d : Int} {t1 t2 : TA} (h1 : EvA t1 σ H [.ref a]) (h2 : EvA t2 σ H [.int d]) (h : SqL K H a (xs.map V.int)) (h0 : xs = [] → d = m) (hm : ∀ k, k ∈ xs → (∀ y, y ∈ xs → y ≤ k) → k = m) :
    Ev (tCKw (rMaxD K) t1 t2) σ H (.int m) := fun H1 e Q q => h1 H1 e _ fun H2 e2 => h2 H2 (e.trans e2) _ fun H3 e3 =>
  ⟨a, xs, d, rfl, rfl, ex_l ((e.trans e2).trans e3) h, fun z => by rw [h0 z]; exact q H3 (e2.trans e3), fun k k1 k2 => by rw [hm k k1 k2]; exact q H3 (e2.trans e3)⟩
/-! ### xs[i] of a written list -/
theorem ev_ixN {zs : List V} (ha : EvL ta σ H zs) (hb : ∀ H1, Ex H H1 → Ev tb σ H1 (.int i)) (hv : atI zs i = some v) : Ev (tOp (rIxL K) ta tb) σ H v := ev_opL1 ha hb fun p H1 hp _ => rv_ixL (sq_of hp) hv
theorem ev_ixI (ha : Ev ta σ H (.ref a)) (hb : Ev tb σ H (.int i)) (h : SqL K H a (xs.map V.int)) (h0 : 0 ≤ i) (h1 : i < xs.length) : Ev (tOp (rIxL K) ta tb) σ H (.int (xs.getD i.toNat 0)) := by
  refine ev_op ha hb (rv_ixL h ?_)
  have hi : i.toNat < xs.length := by omega
  obtain ⟨j, rfl⟩ := Int.eq_ofNat_of_zero_le h0
  have hj : j < xs.length := by omega
  refine atI_nat ?_
  rw [List.getElem?_map, List.getElem?_eq_getElem hj]
  simp [List.getD, hj]
theorem ev_ixJ {j : Nat} (ha : Ev ta σ H (.ref a)) (hb : Ev tb σ H (.int (j : Int))) (h : SqL K H a (xs.map V.int)) (hj : j < xs.length) : Ev (tOp (rIxL K) ta tb) σ H (.int (xs.getD j 0)) := ev_ixI (i := (j : Int)) ha hb h (by omega) (by omega)
/-! ### statements that change a list -/
theorem q_rev {l : Addr} {zs : List V} (ha : Ev ta σ H (.ref l)) (hl : H l = some (.lst zs)) (k : ∀ H1, Ex H H1 → tz D σ (upd H1 l (.lst zs.reverse))) : tSeq (tDrop (tBM0 K "list" rReverse ta)) tz D σ H :=
  ha H (Ex.refl H) _ fun H1 e1 => ⟨.inl ⟨rfl, zs, sq_of (e1 l _ hl)⟩, l, zs, rfl, rfl, e1 l _ hl, k H1 e1⟩
theorem q_clear {l : Addr} {zs : List V} (ha : Ev ta σ H (.ref l)) (hl : H l = some (.lst zs)) (k : ∀ H1, Ex H H1 → tz D σ (upd H1 l (.lst []))) : tSeq (tDrop (tBM0 K "list" rClear ta)) tz D σ H :=
  ha H (Ex.refl H) _ fun H1 e1 => ⟨.inl ⟨rfl, zs, sq_of (e1 l _ hl)⟩, l, zs, rfl, rfl, e1 l _ hl, k H1 e1⟩
/-- sorted(xs) as a value: some rising arrangement, new -/
theorem evP_sorted {tr : TA} (h : EvA tr σ H [.ref a]) (hx : SqL K H a (xs.map V.int)) : EvP (tCB (rSortedI K) tr) σ H (fun v H1 => ∃ (p : Addr) (ys : List Int), v = .ref p ∧ H p = none ∧ ys.Perm xs ∧ ys.Pairwise (· ≤ ·) ∧ Ll H1 p ys) := fun H1 e Q q =>
  h H1 e _ fun H2 e2 => ⟨a, xs, rfl, ex_l (e.trans e2) hx, fun ys p hp ho hn => q _ _ (e2.trans (Ex.new hn)) ⟨p, ys, rfl, fresh_back (e.trans e2) hn, hp, ho, upd_same⟩⟩
/-! ### displays of new lists; calls of new lists; a choice as a statement -/
theorem ep_lst3 {t1 t2 t3 : TE} {z1 z2 z3 : List V} (h1 : EvL t1 σ H z1) (h2 : EvL t2 σ H z2) (h3 : EvL t3 σ H z3) : EvP (tLst (tCons t1 (tCons t2 (tCons t3 tNil)))) σ H (fun v H' => ∃ p p1 p2 p3 : Addr, v = .ref p ∧ H' p = some (.lst [.ref p1, .ref p2, .ref p3]) ∧
    (H p1 = none ∧ H' p1 = some (.lst z1)) ∧ (H p2 = none ∧ H' p2 = some (.lst z2)) ∧ (H p3 = none ∧ H' p3 = some (.lst z3))) := fun H1 e Q q =>
  h1 H1 e _ fun p1 H2 n1 e2 k1 => h2 H2 (e.trans e2) _ fun p2 H3 n2 e3 k2 => h3 H3 ((e.trans e2).trans e3) _ fun p3 H4 n3 e4 k3 => ⟨sz_of (by show 3 ≤ 100000; decide), fun p hp => q _ _ (((e2.trans e3).trans e4).trans (Ex.new hp))
    ⟨p, p1, p2, p3, rfl, upd_same, ⟨fresh_back e n1, Ex.new hp _ _ (e4 _ _ (e3 _ _ k1))⟩, ⟨fresh_back (e.trans e2) n2, Ex.new hp _ _ (e4 _ _ k2)⟩, ⟨fresh_back ((e.trans e2).trans e3) n3, Ex.new hp _ _ k3⟩⟩⟩
theorem evP_ixP {P R : V → Hp → Prop} (h : EvP ta σ H P) (hb : ∀ v H1, Ex H H1 → P v H1 → Ev tb σ H1 (.int i)) (hR : ∀ v H1 H2, Ex H1 H2 → R v H1 → R v H2)
    (hr : ∀ v H1, Ex H H1 → P v H1 → ∃ p zs w, v = .ref p ∧ H1 p = some (.lst zs) ∧ atI zs i = some w ∧ R w H1) : EvP (tOp (rIxL K) ta tb) σ H R := fun H1 e Q q =>
  h H1 e _ fun v H2 e2 p2 => by
    obtain ⟨p, zs, w, rfl, hz, hw, r1⟩ := hr v H2 (e.trans e2) p2
    exact hb _ H2 (e.trans e2) p2 H2 (Ex.refl H2) _ fun H3 e3 => ⟨p, zs, i, w, rfl, rfl, sq_of (e3 _ _ hz), hw, q w H3 (e2.trans e3) (hR _ _ _ e3 r1)⟩
theorem ev_callL {sp : Sp} {E : XK} {zs : List V} (h : EvL te σ H zs) (hb : ∀ H1, Ex H H1 → Ev tb σ H1 y) (hs : ∀ p H1, Ex H H1 → H1 p = some (.lst zs) → SpV sp [.ref p, y] H1 z) : Ev (tCall sp [] E (tCons te (tCons tb tNil))) σ H z := fun H1 e Q q =>
  h H1 e _ fun p H2 _ e2 hp => hb H2 (e.trans e2) H2 (Ex.refl H2) _ fun H3 e3 => hs p H3 ((e.trans e2).trans e3) (e3 _ _ hp) H3 (Ex.refl H3) Q (fun H4 e4 => q H4 ((e2.trans e3).trans e4)) E
theorem ev_callLL {sp : Sp} {E : XK} {zs ws : List V} (h : EvL te σ H zs) (hb : ∀ H1, Ex H H1 → EvL tb σ H1 ws) (hs : ∀ p q H1, Ex H H1 → H1 p = some (.lst zs) → H1 q = some (.lst ws) → SpV sp [.ref p, .ref q] H1 z) : Ev (tCall sp [] E (tCons te (tCons tb tNil))) σ H z := fun H1 e Q q =>
  h H1 e _ fun p H2 _ e2 hp => hb H2 (e.trans e2) H2 (Ex.refl H2) _ fun p2 H3 _ e3 hp2 => hs p p2 H3 ((e.trans e2).trans e3) (e3 _ _ hp) hp2 H3 (Ex.refl H3) Q (fun H4 e4 => q H4 ((e2.trans e3).trans e4)) E
theorem s_asgP {i : Nat} {P : V → Hp → Prop} (h : EvP te σ H P) (k : ∀ v H1, Ex H H1 → P v H1 → D.nx (σ.set i (some v)) H1) : tAsg te (gName i) D σ H := h H (Ex.refl H) _ fun v H1 e p => k v H1 e p
theorem s_dropIf {c : Bool} (h : EvT t σ H c) (h1 : c = true → ∀ H1, Ex H H1 → tDrop ta D σ H1) (h2 : c = false → ∀ H1, Ex H H1 → tDrop tb D σ H1) : tDrop (tIf t ta tb) D σ H := h H (Ex.refl H) _ fun H1 e => by
  cases c with
  | true => exact h1 rfl H1 e
  | false => exact h2 rfl H1 e
theorem s_pop {l : Addr} {zs : List V} {w : V} (ha : Ev ta σ H (.ref l)) (hl : H l = some (.lst zs)) (hw : zs[zs.length - 1]? = some w) (k : ∀ H1, Ex H H1 → D.nx σ (upd H1 l (.lst zs.dropLast))) : tDrop (tBM0 K "list" rPop ta) D σ H :=
  ha H (Ex.refl H) _ fun H1 e1 => ⟨.inl ⟨rfl, zs, sq_of (e1 l _ hl)⟩, l, zs, w, rfl, rfl, e1 l _ hl, hw, k H1 e1⟩
end
end XP
/-! ## Rules of our own: three comparisons in a row, xs[i] += e, a list's count of True -/
namespace XP
open PySem PySem.Spec PyProof.Rows L2 Evl
/-- a op b op' c op'' d -/
def tChain3 (r1 r2 r3 : R2) (ta tb tc td : TE) : TE := fun σ H Q => ta σ H fun x H1 => tb σ H1 fun y H2 => r1 x y H2 fun z H3 => ∃ k, z = .bl k ∧
  (if k = true then tc σ H3 fun x3 H4 => r2 y x3 H4 fun z2 H5 => ∃ k2, z2 = .bl k2 ∧ (if k2 = true then td σ H5 fun x4 H6 => r3 x3 x4 H6 Q else Q (.bl false) H5) else Q (.bl false) H3)
section
variable {X : Cx} {a b c d : Expr} {ta tb tc td : TE} {pos : Pos}
theorem pe_chain3 {o1 o2 o3 : CmpOp} {r1 r2 r3 : R2} (h1 : OpR X (compareOp o1) r1) (h2 : OpR X (compareOp o2) r2) (h3 : OpR X (compareOp o3) r3) (ha : PE X a ta) (hb : PE X b tb) (hc : PE X c tc) (hd : PE X d td)
    (hm : lastMarks [o1, o2, o3] [b, c, d] = false := by with_unfolding_all rfl) : PE X (.Compare a [o1, o2, o3] [b, c, d] pos) (tChain3 r1 r2 r3 ta tb tc td) := by
  refine ⟨fun pins s σ H Q I h => Compare_chain (thn (ha.run pins s σ H _ I h) fun va sa ⟨x, Ha, Ia, ra, qa⟩ => chain_link (thn (hb.run pins sa σ Ha _ Ia qa) fun vb sb ⟨y, Hb, Ib, rb, qb⟩ => thn (h1 pins sb σ Hb x y va vb _ Ib ra rb qb) fun w1 s1 hw1 => ?_)) hm⟩
  obtain ⟨z1, H1, I1, rz1, k1, rfl, q1⟩ := hw1
  obtain rfl : w1 = Value.bool k1 := rz1
  refine wpAny_truthy_bool ?_
  cases k1
  · exact ite_ff ⟨V.bl false, H1, I1, rfl, q1⟩
  · refine ite_tt (chain_link (thn (hc.run pins s1 σ H1 _ I1 q1) fun vc sc ⟨y3, Hc, Ic, rc, qc⟩ => thn (h2 pins sc σ Hc y y3 vb vc _ Ic rb rc qc) fun w2 s2 hw2 => ?_))
    obtain ⟨z2, H2, I2, rz2, k2, rfl, q2⟩ := hw2
    obtain rfl : w2 = Value.bool k2 := rz2
    refine wpAny_truthy_bool ?_
    cases k2
    · exact ite_ff ⟨V.bl false, H2, I2, rfl, q2⟩
    · exact ite_tt (chain_last (thn (hd.run pins s2 σ H2 _ I2 q2) fun vd sd ⟨y4, Hd, Id, rd, qd⟩ => h3 pins sd σ Hd y3 y4 vc vd Q Id rc rd qd))
/-- xs[i] as a value, for xs[i] op= e -/
theorem get_listK {K : PySem.W.Frag} (hK : X.K = K) : PGet X (fun o i H Q => ∃ p zs k v, o = .ref p ∧ i = .int k ∧ SqL K H p zs ∧ 0 ≤ k ∧ zs[k.toNat]? = some v ∧ Q v H) := by
  subst hK
  intro pins s σ H o i ov iv Q I ro ri h
  obtain ⟨p, zs, k, v, rfl, rfl, hq, h0, hv, q⟩ := h
  obtain rfl : ov = Value.ref p := ro
  obtain ⟨t, rfl⟩ := ri
  obtain ⟨its, r, pl, hz⟩ := I.list hq
  obtain ⟨w, ew, rw'⟩ := r.get hv
  have hn := line63
  have hl := r.length
  have hk : k.toNat < zs.length := (List.getElem?_eq_some_iff.mp hv).1
  refine wpAny_getItem_list (x := w) pl.isList h0 (by omega) (by simpa using ew) ?_
  exact ⟨v, H, I, rw', q⟩
def tAugL (K : PySem.W.Frag) (to ti te : TE) (f : Int → Int → Int) : TS :=
  tAugS to ti te (fun o i H Q => ∃ p zs k v, o = .ref p ∧ i = .int k ∧ SqL K H p zs ∧ 0 ≤ k ∧ zs[k.toNat]? = some v ∧ Q v H) (ipI f) rSetL
theorem ps_augL {K : PySem.W.Frag} {o i e : Expr} {to ti te : TE} {f : Int → Int → Int} {op : Operator} {tpos : Pos} (hK : X.K = K) (ho : PE X o to) (hi : PE X i ti) (he : PE X e te) (hp : PIp X op (ipI f))
    (ha : ∀ ov iv new, augStore i ov iv new = (do holding [new, ov, iv] (setItem ov iv new); release [new, ov, iv] []; pure .next) := by intros; rfl) : PS X (.AugAssign (.Subscript o i tpos) op e pos) (tAugL K to ti te f) :=
  ps_augS ho hi (get_listK hK) he hp set_list ha
/-- xs.count(True) of a list of truths -/
def rCountB (K : PySem.W.Frag) : V → List V → Hp → VK → Prop := fun x xs H Q => ∃ (p : Addr) (bs : List Bool) (k : Bool), x = .ref p ∧ xs = [.bl k] ∧ SqL K H p (bs.map V.bl) ∧ Q (.int (bs.count k : Nat)) H
theorem readsAll_bools (h : Heap) : ∀ bs : List Bool, ReadsAll h (bs.map Value.bool) (bs.map PyData.bool) []
  | [] => .nil
  | b :: r => ReadsAll.cons (as := []) (bs := []) (.bool b) (readsAll_bools h r)
theorem countIn_bools (k : Bool) : ∀ bs : List Bool, countIn (.bool k) (bs.map PyData.bool) = ((bs.count k : Nat) : Int)
  | [] => rfl
  | b :: r => by
    rw [List.map_cons, countIn, countIn_bools k r, List.count_cons]
    cases b <;> cases k <;> simp [PySem.Spec.same] <;> omega
theorem mt_countB {K : PySem.W.Frag} (hK : X.K = K) : MtR X "list.count" (rCountB K) := by
  subst hK
  intro pins s σ H x xs v us Q I rx rxs h
  obtain ⟨p, bs, k, rfl, rfl, hs, q⟩ := h
  obtain rfl : v = Value.ref p := rx
  obtain ⟨u, rfl, ru⟩ := rxs.one
  obtain rfl : u = Value.bool k := ru
  obtain ⟨its, rv, pl, hlen⟩ := I.list hs
  have e := rv.bls
  subst e
  refine count_list_bools pl.isList (readsAll_bools s.heap bs) (List.all_eq_true.mpr fun d hd => by obtain ⟨b, _, rfl⟩ := List.mem_map.mp hd; rfl) ?_
  rw [countIn_bools]
  exact ⟨.int ((bs.count k : Nat) : Int), H, I.tok _, ⟨_, rfl⟩, q⟩
end
section
variable {K : PySem.W.Frag} {σ : L2.St} {H H' : Hp} {ta tb tc td te tx : TE} {x y z v : V} {i j : Int} {D : Ends} {tz : TS}
/-- 0 <= i < j <= n and the like -/
theorem ev_chain3 {g1 g2 g3 : Int → Int → Bool} {i1 i2 i3 i4 : Int} (ha : Ev ta σ H (.int i1)) (hb : Ev tb σ H (.int i2)) (hc : Ev tc σ H (.int i3)) (hd : Ev td σ H (.int i4)) :
    Ev (tChain3 (rI0 fun a b => .bl (g1 a b)) (rI0 fun a b => .bl (g2 a b)) (rI0 fun a b => .bl (g3 a b)) ta tb tc td) σ H (.bl (g1 i1 i2 && (g2 i2 i3 && g3 i3 i4))) := fun H1 e Q q =>
  ha H1 e _ fun H2 e2 => hb H2 (e.trans e2) _ fun H3 e3 => ⟨i1, i2, rfl, rfl, _, rfl, by
    cases k1 : g1 i1 i2 with
    | false =>
      refine iteF ?_
      rw [k1] at q
      exact q H3 (e2.trans e3)
    | true =>
      refine iteT (hc H3 ((e.trans e2).trans e3) _ fun H4 e4 => ⟨i2, i3, rfl, rfl, _, rfl, ?_⟩)
      rw [k1] at q
      cases k2 : g2 i2 i3 with
      | false =>
        refine iteF ?_
        rw [k2] at q
        exact q H4 ((e2.trans e3).trans e4)
      | true =>
        refine iteT (hd H4 (((e.trans e2).trans e3).trans e4) _ fun H5 e5 => ⟨i3, i4, rfl, rfl, ?_⟩)
        rw [k2] at q
        exact q H5 (((e2.trans e3).trans e4).trans e5)⟩
/-- a < b <= c -/
theorem ev_chain2 {g1 g2 : Int → Int → Bool} {i1 i2 i3 : Int} (ha : Ev ta σ H (.int i1)) (hb : Ev tb σ H (.int i2)) (hc : Ev tc σ H (.int i3)) :
    Ev (tChain (rI0 fun a b => .bl (g1 a b)) (rI0 fun a b => .bl (g2 a b)) ta tb tc) σ H (.bl (g1 i1 i2 && g2 i2 i3)) := fun H1 e Q q =>
  ha H1 e _ fun H2 e2 => hb H2 (e.trans e2) _ fun H3 e3 => ⟨i1, i2, rfl, rfl, _, rfl, by
    cases k1 : g1 i1 i2 with
    | false =>
      refine iteF ?_
      rw [k1] at q
      exact q H3 (e2.trans e3)
    | true =>
      refine iteT (hc H3 ((e.trans e2).trans e3) _ fun H4 e4 => ⟨i2, i3, rfl, rfl, ?_⟩)
      rw [k1] at q
      exact q H4 ((e2.trans e3).trans e4)⟩
/-- [*xs, e, ..] -/
theorem ea_star {t : TA} {a : Addr} {zs vs : List V} (h : Ev te σ H (.ref a)) (hz : SqL K H a zs) (ht : EvA t σ H vs) : EvA (StX.tStar K te t) σ H (zs ++ vs) := fun H1 e Q q =>
  h H1 e _ fun H2 e2 => ⟨a, zs, rfl, .inr (ex_l (e.trans e2) hz), ht H2 (e.trans e2) _ fun H3 e3 => q H3 (e2.trans e3)⟩
/-- xs[i] += e -/
theorem q_augL {l : Addr} {ns : List Int} {f : Int → Int → Int} {k : Nat} {a b : Int} (ho : Ev ta σ H (.ref l)) (hi : Ev tb σ H (.int (k : Int))) (he : Ev te σ H (.int b)) (hl : Ll H l ns) (hk : ns[k]? = some a)
    (g : ∀ H1, Ex H H1 → tz D σ (upd H1 l (.lst ((ns.set k (f a b)).map V.int)))) : tSeq (tAugL K ta tb te f) tz D σ H :=
  ho H (Ex.refl H) _ fun H1 e1 => hi H1 e1 _ fun H2 e2 => ⟨l, ns.map V.int, k, .int a, rfl, rfl, Ll.sq ((e1.trans e2) _ _ hl), by omega, by rw [Int.toNat_natCast, List.getElem?_map, hk]; rfl,
    he H2 (e1.trans e2) _ fun H3 e3 => ⟨a, b, rfl, rfl, l, ns.map V.int, k, k, rfl, rfl, (((e1.trans e2).trans e3) _ _ hl), Evl.ixN_nat (by rw [List.length_map]; exact (List.getElem?_eq_some_iff.mp hk).1), by
      rw [← List.map_set] at *
      exact g H3 ((e1.trans e2).trans e3)⟩⟩
end
end XP
/-! ## An error that a clause names and a local name keeps: try: .. except C as n: y = n -/
namespace XP
open PySem PySem.Spec PyProof.Rows L2 Evl
/-- an error object of the class cls stands at e -/
def ErrO (cls : Value) (e : Addr) : HO := .ext fun h => ∃ ob : Obj, h.get? e = some ob ∧ Zc cls none ob ∧ ∃ fs, ob.data = .fields fs
section
variable {X : Cx} {pins : List (Addr × Obj)} {σ : L2.St} {H : Hp} {s : Shared}
/-- a pinned error object is tracked from here on -/
theorem tracked_err {e : Addr} {ob : Obj} {cls : Value} (I : Inv X ((e, ob) :: pins) σ H s) (hz : Zc cls none ob) (hd : ∃ fs, ob.data = .fields fs) (hnew : X.s_0.heap.get? e = none) (hcell : ∀ x c, X.env.cells.lookup x = some c → c ≠ e) (hpin : ∀ p ∈ X.pn ++ pins, p.1 ≠ e) :
    Inv X pins σ (upd H e (ErrO cls e)) s := by
  obtain ⟨hg, hn, hL, hF, _⟩ := I.pin (e, ob) (List.mem_append_right _ List.mem_cons_self)
  have away : ∀ b o, X.s_0.heap.get? b = some o → b ≠ e := fun b o h z => by
    subst z
    rw [hnew] at h
    cases h
  have more : ∀ p ∈ X.pn ++ pins, p ∈ X.pn ++ (e, ob) :: pins := fun p hp => (List.mem_append.mp hp).elim (fun q => List.mem_append_left _ q) fun q => List.mem_append_right _ (List.mem_cons_of_mem _ q)
  exact {
    ok := I.ok, os := I.os, bare := I.bare, loc := I.loc, cell := I.cell, len := I.len
    base := {
      keep := I.base.keep, slot := I.base.slot, there := I.base.there
      free := fun b o h n x => (upd_ne (away b o h)).trans (I.base.free b o h n x)
      tups := fun b zs h => (upd_ne (ne_of_none (I.base.tups b zs h) hn)).trans (I.base.tups b zs h)
      frzs := fun b o u h => (upd_ne (ne_of_none (I.base.frzs b o u h) hn)).trans (I.base.frzs b o u h)
      tbls := fun b ps h => by
        obtain ⟨m, k⟩ := I.base.tbls b ps h
        exact ⟨m, (upd_ne (ne_of_none k hn)).trans k⟩ }
    free := (upd_ne (Ne.symm hL)).trans I.free
    freeC := fun x c h => (upd_ne (hcell x c h)).trans (I.freeC x c h)
    pin := fun p hp => by
      obtain ⟨k1, k2, k3⟩ := I.pin p (more p hp)
      exact ⟨k1, (upd_ne (hpin p hp)).trans k2, k3⟩
    hok := I.hok.laidN (fun _ _ q => q) hn ⟨⟨ob, hg, hz, hd⟩, ⟨ob, hg⟩, fun h1 h2 ⟨o, q, r⟩ k => ⟨o, k o q, r⟩⟩ }
/-- what the clause wishes of an error of the body; slot i the clause's name, slot j the name that keeps it -/
def wKeep (K : PySem.W.Frag) (c : Value) (i j : Nat) (Wout : WX) (D : Ends) : WX := fun cls d σ H =>
  ∃ b, PySem.W.exmOne K cls c = some b ∧ (b = true → d = none ∧ ∀ e, H e = none → D.nx (((σ.set i (some (.ref e))).set j (some (.ref e))).set i none) (upd H e (ErrO cls e))) ∧ (b = false → Wout cls d σ H)
theorem ps_try_keep {x n y : Str} {c : Value} {i j : Nat} {body : List Stmt} {np py pn1 pas pos' pos : Pos} {tb : WX → TS} {Wout : WX} (hs : X.stack = X.env :: X.outer) (hf : X.env.frame = some X.env.locals) (hex : X.ex = []) (hN : X.N.Nodup) (hi : X.N[i]? = some n) (hj : X.N[j]? = some y)
    (hln : X.env.kindOf n = some .local) (hly : X.env.kindOf y = some .local) (hc : Names X x c) (tk : Takes X Wout)
    (hb : ∀ (W : WX) (pn : List (Addr × Obj)) (xe : Value → Shared → Prop), Takes (X.tr pn xe) W → PassesOwn (model X.prog X.w) X.A X.env xe → PSs (X.tr pn xe) body (tb W))
    (hd1 : (n == ("__debug__" : Str)) = false := by decide) (hd2 : (n == ("__classdict__" : Str)) = false := by decide) :
    PS X (.Try body [.ExceptHandler (some (.Name x np)) (some n) [.Assign [.Name y py] (.Name n pn1) pas] pos'] [] [] pos) (fun D σ H => tb (wKeep X.K c i j Wout D) D σ H) := by
  refine ⟨fun pins s σ H D I h => wpAny_Try_except ?_⟩
  have ok := I.ok
  have fra : X.A.frames = some (X.env :: X.outer) := ok.frames.trans (by rw [hs])
  refine wpAny_mono ((hb (wKeep X.K c i j Wout D) (X.pn ++ pins) _ ?taken PassesOwn.looking).run [] s σ H D (I.toTry _) h) (fun fl t hfl => ?_) fun e t he => he
  case taken =>
    intro u t xx
    obtain ⟨e, G, s1, pins1, σ1, H1, cls, d, rfl, J0, hG, up, sky, hn, hos, hbare, b, hexm, yes, no⟩ := xx
    have J1 : Inv X pins σ1 H1 s1 := J0.ofTry ok
    refine Sky.land Zc.steady fra hf (by rw [← hs]; exact sky) fun h2 fly2 up2 => ?_
    have J2 : Inv X pins σ1 H1 { t with heap := h2 } := J1.landed hG fly2.1 (up.trans up2) hos hbare
    obtain ⟨ob2, vs2, get2, zc2, dat2⟩ := fly2.there
    have nofrm : e ∉ frs (X.env :: X.outer) := fun hm => by
      obtain ⟨_, o, ho, hno⟩ := fly2.2.2.1.mem hm
      rw [get2] at ho
      cases ho
      exact hno _ dat2
    have nloc : e ≠ X.env.locals := fun z => nofrm (List.mem_filterMap.mpr ⟨X.env, List.mem_cons_self, by rw [hf, z]⟩)
    have nfs : e ∉ X.fs := fun hm => by
      obtain ⟨v, hv, q⟩ := List.mem_filterMap.mp hm
      exact nofrm (List.mem_filterMap.mpr ⟨v, List.mem_cons_of_mem _ hv, q⟩)
    have fresh1 : s1.heap.get? e = none := by
      cases q : s1.heap.get? e with
      | none => rfl
      | some o =>
        have k := hG e o q (by rw [hs]; exact nofrm)
        rw [fly2.2.1] at k
        cases k
    have fresh0 : X.s_0.heap.get? e = none := by
      cases q : X.s_0.heap.get? e with
      | none => rfl
      | some o =>
        obtain ⟨o', k⟩ := J1.base.there e o q (by rw [hex]; exact List.not_mem_nil)
        rw [fresh1] at k
        cases k
    have ncell : ∀ z cc, X.env.cells.lookup z = some cc → cc ≠ e := fun z cc hz w => by
      obtain ⟨v, o, ho, _⟩ := J1.cell z cc hz
      rw [w, fresh1] at ho
      cases ho
    have npin : ∀ p ∈ X.pn ++ pins, p.1 ≠ e := fun p hp w => by
      have k := (J1.pin p hp).1
      rw [w, fresh1] at k
      cases k
    have S2 := J2.suite get2 dat2 hn nloc nfs
    refine wpAny_handleBy_cons (codeAny_handlers_test ?_) fun z => nomatch z
    have looks : PySem.W.Looks (model X.prog X.w) h2 (typeOf (.ref e)) cls := fun A Q E s k q => wpAny_typeOf_ref (k _ _ get2) (by rw [zc2.1]; exact q)
    have isIn := PySem.W.exm_one (M := model X.prog X.w) J2.kIn looks hexm
    have named : ∀ {Q : Value → Shared → Prop} {E : Value → Shared → Prop}, Q c { t with heap := h2 } → wpAny (model X.prog X.w) (X.A.mark (some (.ref e))) (eval (.Name x np) X.env) Q E { t with heap := h2 } := fun q => by
      rcases hc with ⟨g1, g2, g3 | ⟨g3, g4, g5⟩⟩
      · exact ld_glob (X := X.suite e ((e, ob2) :: (X.pn ++ pins))) S2 g1 g3 q g2
      · exact ld_blt (X := X.suite e ((e, ob2) :: (X.pn ++ pins))) S2 g1 g3 g4 q g5 g2
    refine named (isIn.here ?_)
    cases b with
    | false =>
      show wpAny _ X.A (handleBy (.ref e) X.env []) _ _ _
      obtain ⟨_, _, _, ob, fs, T, oT, tf, ge, ze, de, h1, _⟩ := id fly2
      refine wpAny_handleBy_nil ?_
      unfold PySem.passOn
      refine wpAny_bind (wpAny_field ge de h1 ?_)
      rw [if_neg (show ¬ (Value.ref T == Value.none) = true from by simp)]
      have out : wpAny (model X.prog X.w) X.A (setFlight (.ref e) X.env.frame) (fun _ s4 => wpAny (model X.prog X.w) X.A (throw (.ref e) : Sem Flow) (SP X pins D) X.xe s4) X.xe { t with heap := h2 } := by
        rw [hf]
        exact HandSPX.setFlight_upZ fly2 fun h4 held up4 => wpAny_throw (tk _ _ ⟨e, G, s1, pins, σ1, H1, cls, d, rfl, J1, hG, (up.trans up2).trans up4, .inr (.inr (by rw [hs]; exact held)), hn, hos, hbare, no rfl⟩)
      first
        | exact wpAny_bind (wpAny_pure (wpAny_bind out))
        | exact wpAny_bind out
    | true =>
      obtain ⟨rfl, go⟩ := yes rfl
      refine codeAny_handlers_suite_as (HandSPX.lands_againZ fly2 fun h4 fly4 up4 => ?_)
      have J4 : Inv X pins σ1 H1 { t with heap := h4 } := J1.landed hG fly4.1 ((up.trans up2).trans up4) hos hbare
      obtain ⟨ob4, vs4, get4, zc4, dat4⟩ := fly4.there
      have S4 := J4.suite get4 dat4 hn nloc nfs
      refine store_ok (X := X.suite e ((e, ob4) :: (X.pn ++ pins))) (v := .ref e) S4 hN hi (.inl hln) rfl (fun s5 S5 => ?_) (.inr hln)
      have body1 : PSs (X.suite e ((e, ob4) :: (X.pn ++ pins))) [.Assign [.Name y py] (.Name n pn1) pas] (tAsg (tVar i) (gName j)) := pss_one (ps_set hN hj (.inl hly) (pe_var hi (.inl hln) hd1 hd2) (by rfl) (.inr hly))
      have hlenσ : σ1.length = X.N.length := J1.len
      have hil : i < X.N.length := (List.getElem?_eq_some_iff.mp hi).1
      refine wpAny_mono (body1.run [] s5 _ H1 { nx := fun σ6 H6 => σ6 = (σ1.set i (some (.ref e))).set j (some (.ref e)) ∧ H6 = H1, rt := fun _ _ => False } S5 ⟨.ref e, by rw [List.getElem?_set_self (by omega)], rfl, rfl⟩) (fun fl s6 hfl => ?_) fun _ _ z => False.elim z
      cases fl with
      | ret v =>
        obtain ⟨_, _, _, _, _, q⟩ := hfl
        exact False.elim q
      | brk =>
        obtain ⟨_, _, _, q⟩ := hfl
        exact False.elim q
      | cont =>
        obtain ⟨_, _, _, q⟩ := hfl
        exact False.elim q
      | next =>
        obtain ⟨σ6, H6, S6, rfl, rfl⟩ := hfl
        have J6 : Inv X ((e, ob4) :: pins) ((σ1.set i (some (.ref e))).set j (some (.ref e))) H6 s6 :=
          ⟨ok, S6.os, S6.bare, S6.base, S6.loc, S6.cell, S6.free, S6.freeC, fun p hp => S6.pin p (List.mem_append_left _ ((List.mem_append.mp hp).elim (fun q => List.mem_cons_of_mem _ (List.mem_append_left _ q)) fun q => (List.mem_cons.mp q).elim (fun z => by rw [z]; exact List.mem_cons_self) fun z => List.mem_cons_of_mem _ (List.mem_append_right _ z))), S6.hok, S6.len⟩
        exact gone_ok J6 hN hi hln fun s7 J7 => ⟨_, _, tracked_err J7 zc4 ⟨_, dat4⟩ fresh0 ncell npin, go e hn⟩
  case _ =>
    cases fl with
    | next =>
      obtain ⟨σ', H', J', q⟩ := hfl
      exact wpAny_execs_nil ⟨σ', H', J'.ofTry ok, q⟩
    | brk =>
      obtain ⟨σ', H', J', q⟩ := hfl
      exact ⟨σ', H', J'.ofTry ok, q⟩
    | cont =>
      obtain ⟨σ', H', J', q⟩ := hfl
      exact ⟨σ', H', J'.ofTry ok, q⟩
    | ret u =>
      obtain ⟨v, σ', H', J', r, q⟩ := hfl
      exact ⟨v, σ', H', J'.ofTry ok, r, q⟩
/-- isinstance(e, c) of such an error -/
def rIsX (K : PySem.W.Frag) : List V → Hp → VK → Prop := fun vs H Q => ∃ (e D : Addr) (c : V) (u : Value) (b : Bool), vs = [.ref e, c] ∧ H e = some (ErrO (.ref D) e) ∧ ExcC K D ∧ ClsV c u ∧ PySem.W.kitOne K (.ref D) u = some b ∧ Q (.bl b) H
theorem isxK {K : PySem.W.Frag} (hK : X.K = K) : CallR X (.builtin "isinstance") (rIsX K) := by
  subst hK
  intro pins s σ H xs us Q I r h
  obtain ⟨e, D, c, u, b, rfl, he, C, hc, hk, q⟩ := h
  obtain ⟨u1, u2, rfl, r1, r2⟩ := vals2 r
  obtain rfl : u1 = Value.ref e := r1
  obtain rfl := hc.eq r2
  obtain ⟨⟨ob, g, ⟨z1, z2⟩, fs, df⟩, _, _⟩ := I.hok e _ he
  have at1 : PySem.W.InstAt s.heap e ob D none := by
    obtain ⟨k1, k2, k3, k4⟩ := ob
    simp only at z1 z2 df
    subst z1 z2 df
    exact ⟨g, rfl, rfl, trivial⟩
  exact PySem.W.kia_one (PySem.W.handS_kitx_exc C.hg C.hk C.hs C.hd C.ha C.hn C.ht C.hm) I.kIn at1 hk (fun z => nomatch z) fun tk => ⟨.bl b, H, I.kept (t' := tk) fun _ _ z => z, rfl, q⟩
end
/-- isinstance's answer of a class, by the top's facts -/
theorem kit_same {K : PySem.W.Frag} {D : Addr} : PySem.W.kitOne K (.ref D) (.ref D) = some true := if_pos (by simp)
theorem kit_own {K : PySem.W.Frag} {D C : Addr} {b : Bool} (hn : (Value.ref D == Value.ref C) = false) (hd : PySem.W.hasDictIn K C = true) (ht : PySem.W.typeIn K (.ref C) = some (.type "type")) (hs : PySem.W.subIn K (.ref D) (.ref C) = some b) : PySem.W.kitOne K (.ref D) (.ref C) = some b := by
  obtain ⟨cd, hc, _⟩ := PySem.W.any_some hd
  have e2 : ((PySem.W.clsIn K C).isSome && PySem.W.typeIn K (.ref C) == some (.type "type")) = true := by
    rw [hc, ht]
    rfl
  unfold PySem.W.kitOne
  rw [if_neg (by rw [hn]; exact Bool.false_ne_true)]
  show (if _ then _ else _) = _
  rw [if_pos e2]
  exact hs
theorem kit_built {K : PySem.W.Frag} {D : Addr} {T : String} {b : Bool} (hm : PySem.W.kitMeta T = true) (hs : PySem.W.subIn K (.ref D) (.type T) = some b) : PySem.W.kitOne K (.ref D) (.type T) = some b := by
  unfold PySem.W.kitOne
  rw [if_neg (by intro z; cases z)]
  show (if _ then _ else _) = _
  rw [if_pos hm]
  exact hs
end XP
/-! ## More words: tuples, methods by value, displays of new things, ranges from a number on -/
namespace XP
open PySem PySem.Spec PyProof.Rows L2 Evl
section
variable {K : PySem.W.Frag} {σ : L2.St} {H H' : Hp} {ta tb te tx : TE} {t u : TT} {x y z v : V} {r : R2} {a b p : Addr} {xs ys : List Int} {i j : Int} {D : Ends} {tz tu tw : TS}
/-- a method of a list, by value -/
theorem ev_bmL {m : V → List V → Hp → VK → Prop} {l : Addr} {zs vs : List V} {tr : TA} (ha : Ev ta σ H (.ref l)) (hl : SqL K H l zs) (ht : EvA tr σ H vs) (hm : ∀ H1, Ex H H1 → ∀ Q : VK, Q z H1 → m (.ref l) vs H1 Q) : Ev (tBM K "list" m ta tr) σ H z := fun H1 e Q q =>
  ha H1 e _ fun H2 e2 => ⟨.inl ⟨rfl, zs, ex_l (e.trans e2) hl⟩, ht H2 (e.trans e2) _ fun H3 e3 => hm H3 ((e.trans e2).trans e3) Q (q H3 (e2.trans e3))⟩
theorem ev_countB {l : Addr} {bs : List Bool} {k : Bool} {tr : TA} (ha : Ev ta σ H (.ref l)) (hl : SqL K H l (bs.map V.bl)) (ht : EvA tr σ H [.bl k]) : Ev (tBM K "list" (rCountB K) ta tr) σ H (.int ((bs.count k : Nat) : Int)) :=
  ev_bmL ha hl ht fun H1 e _ q => ⟨l, bs, k, rfl, rfl, ex_l e hl, q⟩
theorem ev_indexB {l : Addr} {bs : List Bool} {k : Bool} {n : Nat} {tr : TA} (ha : Ev ta σ H (.ref l)) (hl : SqL K H l (bs.map V.bl)) (ht : EvA tr σ H [.bl k]) (hn : bs[n]? = some k) (hno : ∀ m c, m < n → bs[m]? = some c → c ≠ k) : Ev (tBM K "list" (rIndex K) ta tr) σ H (.int (n : Int)) :=
  ev_bmL ha hl ht fun H1 e _ q => ⟨l, bs.map V.bl, .bl k, n, .bl k, rfl, rfl, ex_l e hl, rfl, List.all_eq_true.mpr fun d hd => by
    obtain ⟨c, _, rfl⟩ := List.mem_map.mp hd
    rfl, by rw [List.getElem?_map, hn]; rfl, by cases k <;> rfl, fun m z' hm hz => by
    rw [List.getElem?_map] at hz
    cases hc : bs[m]? with
    | none => rw [hc] at hz; cases hz
    | some c =>
      rw [hc] at hz
      cases hz
      have := hno m c hm hc
      revert this
      cases c <;> cases k <;> simp [eqV], q⟩
/-- isinstance of an error -/
theorem rc_isx {e D : Addr} {c : V} {w : Value} {k : Bool} (he : H e = some (ErrO (.ref D) e)) (C : ExcC K D) (hc : ClsV c w) (hk : PySem.W.kitOne K (.ref D) w = some k) : RC (rIsX K) [.ref e, c] H (.bl k) := fun H1 ex _ q =>
  ⟨e, D, c, w, k, rfl, ex _ _ he, C, hc, hk, q H1 (Ex.refl H1)⟩
/-- t[i] of a tuple -/
theorem ev_ixT {l : Addr} {zs : List V} {n : Nat} (ha : Ev ta σ H (.ref l)) (hb : Ev tb σ H (.int (n : Int))) (h : H l = some (.tup zs)) (hn : zs[n]? = some v) : Ev (tOp (rIxT K) ta tb) σ H v := ev_op ha hb (rv_ixT (st_of h) (atI_nat hn))
/-- a choice between two new tuples -/
theorem eu_if {c : Bool} {zs : List V} (h : EvT t σ H c) (h1 : c = true → EvU ta σ H zs) (h2 : c = false → EvU tb σ H zs) : EvU (tIf t ta tb) σ H zs := fun H1 e Q q => h H1 e _ fun H2 e2 => by
  cases c with
  | true => exact h1 rfl H2 (e.trans e2) Q fun p H3 hp e3 h3 => q p H3 (fresh_back e2 hp) (e2.trans e3) h3
  | false => exact h2 rfl H2 (e.trans e2) Q fun p H3 hp e3 h3 => q p H3 (fresh_back e2 hp) (e2.trans e3) h3
def SpU (sp : Sp) (vs : List V) (H : Hp) (zs : List V) : Prop := ∀ H1, Ex H H1 → ∀ Q : VK, (∀ p H2, H1 p = none → Ex H1 H2 → H2 p = some (.tup zs) → Q (.ref p) H2) → ∀ E : XK, sp vs H1 Q E
theorem eu_call {sp : Sp} {dvs vs zs : List V} {E : XK} {tr : TA} (h : EvA tr σ H vs) (hs : SpU sp (vs ++ dvs) H zs) : EvU (tCall sp dvs E tr) σ H zs := fun H1 e Q q =>
  h H1 e _ fun H2 e2 => hs H2 (e.trans e2) Q (fun p H3 hp e3 h3 => q p H3 (fresh_back e2 hp) (e2.trans e3) h3) E
def RetU (zs : List V) (H : Hp) (Q : VK) : Prop := ∀ p H2, H p = none → Ex H H2 → H2 p = some (.tup zs) → Q (.ref p) H2
/-- values of which P is known -/
def EvAP (tr : TA) (σ : L2.St) (H : Hp) (P : List V → Hp → Prop) : Prop := ∀ H1, Ex H H1 → ∀ Q : List V → Hp → Prop, (∀ vs H2, Ex H1 H2 → P vs H2 → Q vs H2) → tr σ H1 Q
def Mono {α : Type} (P : α → Hp → Prop) : Prop := ∀ c H1 H2, Ex H1 H2 → P c H1 → P c H2
theorem eap_nil : EvAP tNil σ H (fun vs _ => vs = []) := fun H1 _ _ q => q [] H1 (Ex.refl H1) rfl
theorem eap_cons {tr : TA} {P : List V → Hp → Prop} (h : Ev te σ H x) (hr : EvAP tr σ H P) : EvAP (tCons te tr) σ H (fun vs H' => ∃ us, vs = x :: us ∧ P us H') := fun H1 e _ q =>
  h H1 e _ fun H2 e2 => hr H2 (e.trans e2) _ fun us H3 e3 hp => q _ H3 (e2.trans e3) ⟨us, rfl, hp⟩
theorem eap_consL {tr : TA} {P : List V → Hp → Prop} {zs : List V} (h : EvL te σ H zs) (hr : EvAP tr σ H P) : EvAP (tCons te tr) σ H (fun vs H' => ∃ p us, vs = .ref p :: us ∧ H p = none ∧ H' p = some (.lst zs) ∧ P us H') := fun H1 e _ q =>
  h H1 e _ fun p H2 np e2 hp => hr H2 (e.trans e2) _ fun us H3 e3 hP => q _ H3 (e2.trans e3) ⟨p, us, rfl, fresh_back e np, e3 _ _ hp, hP⟩
theorem ep_lst {tr : TA} {P : List V → Hp → Prop} (h : EvAP tr σ H P) (hm : Mono P) (hl : ∀ vs H', P vs H' → vs.length ≤ 100000) : EvP (tLst tr) σ H (fun v H' => ∃ p vs, v = .ref p ∧ H p = none ∧ H' p = some (.lst vs) ∧ P vs H') := fun H1 e Q q =>
  h H1 e _ fun vs H2 e2 hp => ⟨sz_of (hl _ _ hp), fun p np => q _ _ (e2.trans (Ex.new np)) ⟨p, vs, rfl, fresh_back (e.trans e2) np, upd_same, hm _ _ _ (Ex.new np) hp⟩⟩
theorem mono_nil : Mono (fun (vs : List V) (_ : Hp) => vs = []) := fun _ _ _ _ h => h
theorem mono_cons {P : List V → Hp → Prop} (h : Mono P) : Mono (fun (vs : List V) (H' : Hp) => ∃ us, vs = x :: us ∧ P us H') := fun _ _ _ e ⟨us, h1, h2⟩ => ⟨us, h1, h _ _ _ e h2⟩
theorem mono_consL {P : List V → Hp → Prop} {zs : List V} (h : Mono P) : Mono (fun (vs : List V) (H' : Hp) => ∃ p us, vs = .ref p :: us ∧ H p = none ∧ H' p = some (.lst zs) ∧ P us H') := fun _ _ _ e ⟨p, us, h1, h2, h3, h4⟩ => ⟨p, us, h1, h2, e _ _ h3, h _ _ _ e h4⟩
/-- a list by a comprehension over range(lo, n) -/
theorem el_lcR2A {tr : TA} {k : Nat} {vs : List Nat} {lo n : Int} (g : Nat → V) (h : EvA tr σ H [.int lo, .int n]) (hn : 0 ≤ lo ∧ lo ≤ 40000 ∧ -40000 ≤ n ∧ n ≤ 40000) (hw : ∀ x, wipe ((wipe σ vs).set k (some x)) vs = wipe σ vs)
    (he : ∀ (i : Nat) H1, Ex H H1 → lo + (i : Int) < n → Ev te ((wipe σ vs).set k (some (.int (lo + (i : Int))))) H1 (g i)) :
    EvL (tLc (iRng2 tr) (gName k) tYes te vs) σ H ((List.range (n - lo).toNat).map g) := fun H0 e Q q =>
  h H0 e _ fun H1 e1 => ⟨lo, n, rfl, ⟨by omega, by omega, by omega, by omega⟩, fun Dl hD =>
    lc_range (lo := lo) (n := (n - lo).toNat) (Cw H1 (fun _ => true) g Dl) ⟨hD, Ex.new hD, upd_same⟩ (fun i H2 hi p => ⟨hw _, cw_turn p (by omega) et_yes fun _ => he i H1 (e.trans e1) (by omega)⟩)
      (fun H2 p => q Dl H2 (fresh_back e1 p.1) (e1.trans p.2.1) (by rw [← given_all]; exact p.2.2))⟩
/-- two ways of an if that go on alike are told apart ahead -/
theorem q_else {c : Bool} (h : EvT t σ H c) (h1 : c = true → ∀ H1, Ex H H1 → tu { D with nx := tz D } σ H1) (h2 : c = false → ∀ H1, Ex H H1 → tw { D with nx := tz D } σ H1) : tSeq (tIfS t tu tw) tz D σ H := q_if h h1 h2
end
end XP
/-! ## enumerate and zip_longest: loops and comprehensions whose target is a pair of names -/
namespace XP
open PySem PySem.Spec PyProof.Rows L2 Evl
abbrev g2n (K : PySem.W.Frag) (j k : Nat) : TG := gTup K 2 (gCons (gName j) (gCons (gName k) gNil))
theorem g2_at {K : PySem.W.Frag} {j k : Nat} {T : Addr} {x y : V} {σ : L2.St} {H : Hp} {Q : L2.St → Hp → Prop} (h : H T = some (.tup [x, y])) (q : Q ((σ.set j (some x)).set k (some y)) H) : g2n K j k (.ref T) σ H Q :=
  ⟨T, [x, y], rfl, st_of h, rfl, x, [y], rfl, y, [], rfl, rfl, q⟩
theorem cw_more {H H' H2 : Hp} {f : Nat → Bool} {v : Nat → V} {Dl : Addr} {i : Nat} (p : Cw H f v Dl i H') (e : Ex H' H2) : Cw H f v Dl i H2 := ⟨p.1, p.2.1.trans e, e _ _ p.2.2⟩
/-- over an iterator of new pairs -/
theorem lc_pair {K : PySem.W.Frag} {J : It} {n j k : Nat} {u v val : Nat → V} {f : Nat → Bool} {t : TT} {te : TE} {vs : List Nat} {σ : L2.St} {H1 : Hp} {Dl : Addr} {Qd : Hp → Prop} (hgo : ∀ i H, i < n → Ex H1 H → J.go i H) (hstop : ∀ H, Ex H1 H → J.stop n H)
    (hy : ∀ i H x H', i < n → Ex H1 H → J.yld i H x H' → ∃ T : Addr, x = .ref T ∧ H T = none ∧ H' = upd H T (.tup [u i, v i])) (hn : n ≤ 40000) (hw : ∀ x y, wipe (((wipe σ vs).set j (some x)).set k (some y)) vs = wipe σ vs)
    (ht : ∀ i H2, i < n → Ex H1 H2 → EvT t (((wipe σ vs).set j (some (u i))).set k (some (v i))) H2 (f i)) (he : ∀ i H2, i < n → Ex H1 H2 → f i = true → Ev te (((wipe σ vs).set j (some (u i))).set k (some (v i))) H2 (val i)) (hD : H1 Dl = none)
    (hd : ∀ H, Cw H1 f val Dl n H → Qd H) : ∃ W : Nat → Nat → Hp → Prop, (∃ m, W 0 m (upd H1 Dl (.lst []))) ∧ ∀ i m H, W i m H →
      (J.stop i H ∧ Qd H) ∨ (J.go i H ∧ ∃ Nx : Hp → Prop, (∀ H', Nx H' → ∃ m', m' < m ∧ W (i + 1) m' H') ∧ ∀ x H', J.yld i H x H' → g2n K j k x (wipe σ vs) H' fun σ2 H2 => wipe σ2 vs = wipe σ vs ∧ t σ2 H2 fun b H3 =>
        if b = true then te σ2 H3 fun y H4 => ∃ acc, H4 Dl = some (.lst acc) ∧ acc.length < sizeLine ∧ Nx (upd H4 Dl (.lst (acc ++ [y]))) else Nx H3) := by
  refine ⟨fun i m H => m = n - i ∧ i ≤ n ∧ Cw H1 f val Dl i H, ⟨n, rfl, Nat.zero_le _, hD, Ex.new hD, upd_same⟩, ?_⟩
  rintro i m H ⟨rfl, hi, p⟩
  by_cases hlt : i < n
  · refine .inr ⟨hgo i H hlt p.2.1, Cw H1 f val Dl (i + 1), fun H' p' => ⟨n - (i + 1), by omega, rfl, hlt, p'⟩, fun x H' y => ?_⟩
    obtain ⟨T, rfl, hT, rfl⟩ := hy i H x H' hlt p.2.1 y
    exact g2_at upd_same ⟨hw _ _, cw_turn (cw_more p (Ex.new hT)) (by omega) (ht i H1 hlt (Ex.refl H1)) (he i H1 hlt (Ex.refl H1))⟩
  · obtain rfl : i = n := by omega
    exact .inl ⟨hstop H p.2.1, hd H p⟩
section
variable {K : PySem.W.Frag} {σ : L2.St} {H : Hp} {ta tb te : TE} {t : TT} {a b : Addr} {xs ys : List V} {d : V} {j k : Nat} {vs : List Nat} {D : Ends} {tu tz : TS}
theorem sq_len {K : PySem.W.Frag} {H : Hp} {a : Addr} {xs : List V} : xs.length = xs.length := rfl
/-- [.. for i, x in enumerate(xs)] -/
theorem el_lcE {t1 : TA} (f : Nat → Bool) (val : Nat → V) (h1 : EvA t1 σ H [.ref a]) (hx : SqL K H a xs) (hn : xs.length ≤ 40000) (hw : ∀ x y, wipe (((wipe σ vs).set j (some x)).set k (some y)) vs = wipe σ vs)
    (ht : ∀ i z H2, xs[i]? = some z → Ex H H2 → EvT t (((wipe σ vs).set j (some (.int (i : Nat)))).set k (some z)) H2 (f i))
    (he : ∀ i z H2, xs[i]? = some z → Ex H H2 → f i = true → Ev te (((wipe σ vs).set j (some (.int (i : Nat)))).set k (some z)) H2 (val i)) :
    EvL (tLc (iEnum K t1) (g2n K j k) t te vs) σ H (given xs.length f val) := fun H0 e Q q =>
  h1 H0 e _ fun H1 e1 => by
    have e01 := e.trans e1
    refine ⟨a, xs, rfl, ex_l e01 hx, fun Dl hD => ?_⟩
    have at' : ∀ i, i < xs.length → xs[i]? = some (xs[i]?.getD .non) := fun i hi => by rw [List.getElem?_eq_getElem hi]; rfl
    refine lc_pair (n := xs.length) (u := fun i => .int (i : Nat)) (v := fun i => xs[i]?.getD .non) (f := f) (val := val) (fun i H3 hi e3 => ⟨xs, _, ex_l (e01.trans e3) hx, at' i hi⟩) (fun H3 e3 => ⟨xs, ex_l (e01.trans e3) hx, Nat.le_refl _⟩)
      (fun i H3 x H4 hi e3 y => ?_) hn hw (fun i H3 hi e3 => ht i _ H3 (at' i hi) (e01.trans e3)) (fun i H3 hi e3 => he i _ H3 (at' i hi) (e01.trans e3)) hD (fun H3 p => q Dl H3 (fresh_back e1 p.1) (e1.trans p.2.1) p.2.2)
    obtain ⟨T, x', rfl, hT, rfl, k1⟩ := y
    exact ⟨T, rfl, hT, by rw [k1 xs (ex_l (e01.trans e3) hx)]; rfl⟩
/-- for i, x in enumerate(xs) -/
theorem for_enum {Pv : Nat → L2.St → Hp → Prop} (h0 : Pv 0 σ H) (hl : ∀ i σ' H', i ≤ xs.length → Pv i σ' H' → SqL K H' a xs)
    (hs : ∀ i x T σ' H', xs[i]? = some x → Pv i σ' H' → H' T = none → tu { D with nx := Pv (i + 1), ct := Pv (i + 1), bk := D.nx } ((σ'.set j (some (.int (i : Nat)))).set k (some x)) (upd H' T (.tup [.int (i : Nat), x]))) (hd : ∀ σ' H', Pv xs.length σ' H' → D.nx σ' H') :
    ∃ W : Nat → Nat → L2.St → Hp → Prop, (∃ m, W 0 m σ H) ∧ ∀ i m σ H, W i m σ H →
      ((Ite K a).stop i H ∧ D.nx σ H) ∨ ((Ite K a).go i H ∧ ∃ N : L2.St → Hp → Prop, (∀ σ' H', N σ' H' → ∃ m', m' < m ∧ W (i + 1) m' σ' H') ∧ ∀ x H', (Ite K a).yld i H x H' → g2n K j k x σ H' fun σ2 H2 => tu { D with nx := N, ct := N, bk := D.nx } σ2 H2) := by
  refine ⟨fun i m σ H => m = xs.length - i ∧ i ≤ xs.length ∧ Pv i σ H, ⟨xs.length, rfl, Nat.zero_le _, h0⟩, ?_⟩
  rintro i m σ H ⟨rfl, hi, p⟩
  have q := hl i σ H hi p
  by_cases hlt : i < xs.length
  · refine .inr ⟨⟨xs, xs[i], q, by simp [hlt]⟩, Pv (i + 1), fun σ' H' p' => ⟨xs.length - (i + 1), by omega, rfl, hlt, p'⟩, fun x H' y => ?_⟩
    obtain ⟨T, z, rfl, hT, rfl, k1⟩ := y
    exact g2_at upd_same (hs i z T σ H (k1 xs q) p hT)
  · obtain rfl : i = xs.length := by omega
    exact .inl ⟨⟨xs, q, Nat.le_refl _⟩, hd σ H p⟩
/-- for i, x in enumerate(..), the list new -/
theorem q_forEN {Pv : Addr → Nat → L2.St → Hp → Prop} (h : EvL te σ H xs) (h0 : ∀ p H1, H p = none → Ex H H1 → H1 p = some (.lst xs) → Pv p 0 σ H1) (hl : ∀ p i σ' H', i ≤ xs.length → Pv p i σ' H' → SqL K H' p xs)
    (hs : ∀ p i x σ' H' H2, xs[i]? = some x → Pv p i σ' H' → Ex H' H2 → tu { D with nx := Pv p (i + 1), ct := Pv p (i + 1), bk := tz D } ((σ'.set j (some (.int (i : Nat)))).set k (some x)) H2) (hd : ∀ p σ' H', Pv p xs.length σ' H' → tz D σ' H') :
    tSeq (tFor (iEnum K (tCons te tNil)) (g2n K j k) tu) tz D σ H := h H (Ex.refl H) _ fun p H1 hp e h1 =>
  ⟨p, xs, rfl, sq_of h1, for_enum (D := { D with nx := tz D }) (Pv := Pv p) (h0 p H1 hp e h1) (hl p) (fun i x T σ' H' hx pv hT => hs p i x σ' H' _ hx pv (Ex.new hT)) (hd p)⟩
end
end XP
/-! ## Lists of lists, tuples of a text and a plain value; more words -/
namespace XP
open PySem PySem.Spec PyProof.Rows L2 Evl
def ldat (xs : List Int) : PyData := .list (xs.map PyData.int)
theorem ldat_depths : ∀ xss : List (List Int), PyData.depthAll (xss.map ldat) ≤ 1
  | [] => by simp [PyData.depthAll]
  | xs :: r => by
    have ih := ldat_depths r
    simp only [List.map_cons, PyData.depthAll, ldat, PyData.depth, PySem.W.ke_depthAll]
    omega
theorem ldat_lays : ∀ xss : List (List Int), PyData.canLayAll0 (xss.map ldat) = true
  | [] => by simp [PyData.canLayAll0]
  | xs :: r => by simp [PyData.canLayAll0, PyData.canLay0, ldat, PySem.W.ke_canLayAll0, ldat_lays r]
theorem shaped_lls (xss : List (List Int)) : SeqAt.shaped (.list (xss.map ldat)) = true := by
  have h := ldat_depths xss
  have h2 := ldat_lays xss
  simp only [SeqAt.shaped, PyData.canLay0, PyData.depth, h2, Bool.true_and, decide_eq_true_eq]
  exact decide_eq_true (Nat.le_trans (Nat.succ_le_succ h) (show 2 ≤ 64 by decide))
theorem eqvAll_lls : ∀ xss yss : List (List Int), PyData.eqvAll (xss.map ldat) (yss.map ldat) = decide (xss = yss)
  | [], [] => by simp [PyData.eqvAll]
  | [], _ :: _ => by simp [PyData.eqvAll]
  | _ :: _, [] => by simp [PyData.eqvAll]
  | xs :: r, ys :: t => by
    show (PyData.eqv (ldat xs) (ldat ys) && PyData.eqvAll (r.map ldat) (t.map ldat)) = _
    rw [eqvAll_lls r t]
    unfold ldat
    rw [eqv_ints, Bool.eq_iff_iff]
    simp
theorem eqv_lls (xss yss : List (List Int)) : PyData.eqv (.list (xss.map ldat)) (.list (yss.map ldat)) = decide (xss = yss) := by
  simp only [PyData.eqv]
  exact eqvAll_lls xss yss
/-- lists of whole numbers stand at the places zs -/
inductive Lls (H : Hp) : List V → List (List Int) → Prop
  | nil : Lls H [] []
  | cons {p : Addr} {xs : List Int} {zs : List V} {xss : List (List Int)} : Ll H p xs → Lls H zs xss → Lls H (.ref p :: zs) (xs :: xss)
theorem Lls.mono {H H' : Hp} (e : Ex H H') : ∀ {zs : List V} {xss : List (List Int)}, Lls H zs xss → Lls H' zs xss
  | _, _, .nil => .nil
  | _, _, .cons h r => .cons (e _ _ h) (r.mono e)
theorem Lls.dp {K : PySem.W.Frag} {H : Hp} : ∀ {zs : List V} {xss : List (List Int)}, Lls H zs xss → DpAll K H zs (xss.map ldat)
  | _, _, .nil => .nil
  | _, _, .cons h r => .cons (dp_ints h.sq) r.dp
theorem Lls.len {H : Hp} : ∀ {zs : List V} {xss : List (List Int)}, Lls H zs xss → zs.length = xss.length
  | _, _, .nil => rfl
  | _, _, .cons _ r => congrArg (· + 1) r.len
/-- a plain value -/
def scD : V → Option PyData
  | .non => some .none
  | .bl b => some (.bool b)
  | .int i => some (.int i)
  | _ => none
theorem sc_dp {K : PySem.W.Frag} {H : Hp} {x : V} {d : PyData} (h : scD x = some d) : Dp K H x d := by
  cases x <;> cases h
  all_goals first | exact .non | exact .bl _ | exact .int _
theorem sc_ok {x : V} {d : PyData} (h : scD x = some d) : PyData.canLay0 d = true ∧ PyData.depth d = 0 ∧ PyData.eqv d d = true := by
  cases x <;> cases h <;> simp [PyData.canLay0, PyData.depth, PyData.eqv]
section
variable {K : PySem.W.Frag} {σ : L2.St} {H H' : Hp} {ta tb te : TE} {t : TT} {x y z v : V} {r : R2} {a b p : Addr} {D : Ends} {tz : TS}
theorem rv_neLL {zs ws : List V} {xss yss : List (List Int)} (h1 : SqL K H a zs) (h2 : Lls H zs xss) (h3 : SqL K H b ws) (h4 : Lls H ws yss) : RV (rNeD K) (.ref a) (.ref b) H (.bl (!decide (xss = yss))) := fun H1 e Q q =>
  ⟨_, _, .lst (ex_l e h1) (h2.mono e).dp, .lst (ex_l e h3) (h4.mono e).dp, shaped_lls xss, shaped_lls yss, by rw [eqv_lls]; exact q H1 (Ex.refl H1)⟩
theorem rv_eqLL {zs ws : List V} {xss yss : List (List Int)} (h1 : SqL K H a zs) (h2 : Lls H zs xss) (h3 : SqL K H b ws) (h4 : Lls H ws yss) : RV (rEqD K) (.ref a) (.ref b) H (.bl (decide (xss = yss))) := fun H1 e Q q =>
  ⟨_, _, .lst (ex_l e h1) (h2.mono e).dp, .lst (ex_l e h3) (h4.mono e).dp, shaped_lls xss, shaped_lls yss, by rw [eqv_lls]; exact q H1 (Ex.refl H1)⟩
/-- (text, plain value) against its like -/
theorem rv_neTV {t u : Addr} {s : Str} {d : PyData} (h1 : H t = some (.tup [.str s, x])) (h2 : H u = some (.tup [.str s, x])) (hs : PyData.strOk s = true) (hx : scD x = some d) : RV (rNeD K) (.ref t) (.ref u) H (.bl false) := fun H1 e Q q => by
  obtain ⟨k1, k2, k3⟩ := sc_ok hx
  have sh : SeqAt.shaped (.tuple [.str s, d]) = true := by
    unfold SeqAt.shaped
    simp [PyData.canLay0, PyData.canLayAll0, PyData.depth, PyData.depthAll, hs, k1, k2]
  have eq1 : PyData.eqv (.tuple [.str s, d]) (.tuple [.str s, d]) = true := by simp [PyData.eqv, PyData.eqvAll, k3]
  refine ⟨.tuple [.str s, d], .tuple [.str s, d], .tup (st_of (e _ _ h1)) (.cons (.str s) (.cons (sc_dp hx) .nil)), .tup (st_of (e _ _ h2)) (.cons (.str s) (.cons (sc_dp hx) .nil)), sh, sh, ?_⟩
  rw [eq1]
  exact q H1 (Ex.refl H1)
/-- the second operand by what is known of it -/
theorem ev_opP {P : V → Hp → Prop} (ha : Ev ta σ H x) (hb : EvP tb σ H P) (hr : ∀ w H1, Ex H H1 → P w H1 → RV r x w H1 z) : Ev (tOp r ta tb) σ H z := fun H1 e Q q =>
  ha H1 e _ fun H2 e2 => hb H2 (e.trans e2) _ fun w H3 e3 p => hr w H3 ((e.trans e2).trans e3) p H3 (Ex.refl H3) Q fun H4 e4 => q H4 ((e2.trans e3).trans e4)
/-- a choice between two new lists of the same items -/
theorem el_if {c : Bool} {zs : List V} (h : EvT t σ H c) (h1 : c = true → EvL ta σ H zs) (h2 : c = false → EvL tb σ H zs) : EvL (tIf t ta tb) σ H zs := fun H1 e Q q => h H1 e _ fun H2 e2 => by
  cases c with
  | true => exact h1 rfl H2 (e.trans e2) Q fun p H3 hp e3 h3 => q p H3 (fresh_back e2 hp) (e2.trans e3) h3
  | false => exact h2 rfl H2 (e.trans e2) Q fun p H3 hp e3 h3 => q p H3 (fresh_back e2 hp) (e2.trans e3) h3
theorem eap_consU {tr : TA} {P : List V → Hp → Prop} {zs : List V} (h : EvU te σ H zs) (hr : EvAP tr σ H P) : EvAP (tCons te tr) σ H (fun vs H' => ∃ p us, vs = .ref p :: us ∧ H p = none ∧ H' p = some (.tup zs) ∧ P us H') := fun H1 e _ q =>
  h H1 e _ fun p H2 np e2 hp => hr H2 (e.trans e2) _ fun us H3 e3 hP => q _ H3 (e2.trans e3) ⟨p, us, rfl, fresh_back e np, e3 _ _ hp, hP⟩
theorem mono_consU {P : List V → Hp → Prop} {zs : List V} (h : Mono P) : Mono (fun (vs : List V) (H' : Hp) => ∃ p us, vs = .ref p :: us ∧ H p = none ∧ H' p = some (.tup zs) ∧ P us H') := fun _ _ _ e ⟨p, us, h1, h2, h3, h4⟩ => ⟨p, us, h1, h2, e _ _ h3, h _ _ _ e h4⟩
/-- x, y = what a call hands back -/
theorem q_asg2 {j k : Nat} {P : V → Hp → Prop} (h : EvP te σ H P) (hk : ∀ v H1, Ex H H1 → P v H1 → ∃ (T : Addr) (x y : V), v = .ref T ∧ H1 T = some (.tup [x, y]) ∧ tz D ((σ.set j (some x)).set k (some y)) H1) : tSeq (tAsg te (g2n K j k)) tz D σ H :=
  h H (Ex.refl H) _ fun v H1 e p => by
    obtain ⟨T, x, y, rfl, ht, q⟩ := hk v H1 e p
    exact g2_at ht q
theorem cut_upto (zs : List V) (k : Nat) : cutV zs none (some (k : Int)) = zs.take k := by
  unfold cutV
  rw [HT.sIx_none, HT.sIx_nat, List.drop_zero, Nat.sub_zero]
  by_cases h : k ≤ zs.length
  · rw [Nat.min_eq_left h]
  · rw [Nat.min_eq_right (by omega), List.take_length, List.take_of_length_le (by omega)]
theorem cut_butLast (zs : List V) : cutV zs none (some (-1)) = zs.dropLast := by
  unfold cutV
  rw [HT.sIx_none, List.drop_zero, Nat.sub_zero, List.dropLast_eq_take]
  have e : HT.sIx zs.length zs.length (some (-1)) = zs.length - 1 := by
    show (if (-1 : Int) < 0 then ((-1 : Int) + (zs.length : Int)).toNat else min (-1 : Int).toNat zs.length) = zs.length - 1
    rw [if_pos (by decide)]
    omega
  rw [e]
end
section
variable {K : PySem.W.Frag} {σ : L2.St} {H : Hp} {tl : TE} {g : TG} {tu tz : TS} {D : Ends}
/-- over a list of which something is known -/
theorem q_forLP {P : V → Hp → Prop} (h : EvP tl σ H P) (hk : ∀ v H1, Ex H H1 → P v H1 → ∃ (p : Addr) (zs : List V) (Pv : Nat → L2.St → Hp → Prop), v = .ref p ∧ H1 p = some (.lst zs) ∧ Pv 0 σ H1 ∧ (∀ i σ' H', i ≤ zs.length → Pv i σ' H' → SqL K H' p zs) ∧
    (∀ i x σ' H', zs[i]? = some x → Pv i σ' H' → g x σ' H' fun σ2 H2 => tu { D with nx := Pv (i + 1), ct := Pv (i + 1), bk := tz D } σ2 H2) ∧ ∀ σ' H', Pv zs.length σ' H' → tz D σ' H') : tSeq (tFor (iList K tl) g tu) tz D σ H :=
  h H (Ex.refl H) _ fun v H1 e p => by
    obtain ⟨a, zs, Pv, rfl, hz, h0, hl, hs, hd⟩ := hk v H1 e p
    exact ⟨a, rfl, ⟨zs, sq_of hz⟩, for_list (D := { D with nx := tz D }) Pv h0 hl hs hd⟩
end
end XP
/-! ## enumerate of a new list; appending what is known of; lists of new lists -/
namespace XP
open PySem PySem.Spec PyProof.Rows L2 Evl
section
variable {K : PySem.W.Frag} {σ : L2.St} {H H' : Hp} {ta tb te tl : TE} {t : TT} {xs ys : List V} {j k : Nat} {vs : List Nat} {D : Ends} {tu tz : TS}
theorem el_lcEN (f : Nat → Bool) (val : Nat → V) (h : EvL tl σ H xs) (hn : xs.length ≤ 40000) (hw : ∀ x y, wipe (((wipe σ vs).set j (some x)).set k (some y)) vs = wipe σ vs)
    (ht : ∀ i z H2, xs[i]? = some z → Ex H H2 → EvT t (((wipe σ vs).set j (some (.int (i : Nat)))).set k (some z)) H2 (f i))
    (he : ∀ i z H2, xs[i]? = some z → Ex H H2 → f i = true → Ev te (((wipe σ vs).set j (some (.int (i : Nat)))).set k (some z)) H2 (val i)) :
    EvL (tLc (iEnum K (tCons tl tNil)) (g2n K j k) t te vs) σ H (given xs.length f val) := fun H0 e Q q =>
  h H0 e _ fun a H1 _ e1 ha => by
    have e01 := e.trans e1
    have hx : SqL K H1 a xs := sq_of ha
    refine ⟨a, xs, rfl, hx, fun Dl hD => ?_⟩
    have at' : ∀ i, i < xs.length → xs[i]? = some (xs[i]?.getD .non) := fun i hi => by rw [List.getElem?_eq_getElem hi]; rfl
    refine lc_pair (n := xs.length) (u := fun i => .int (i : Nat)) (v := fun i => xs[i]?.getD .non) (f := f) (val := val) (fun i H3 hi e3 => ⟨xs, _, ex_l e3 hx, at' i hi⟩) (fun H3 e3 => ⟨xs, ex_l e3 hx, Nat.le_refl _⟩)
      (fun i H3 x H4 hi e3 y => ?_) hn hw (fun i H3 hi e3 => ht i _ H3 (at' i hi) (e01.trans e3)) (fun i H3 hi e3 => he i _ H3 (at' i hi) (e01.trans e3)) hD (fun H3 p => q Dl H3 (fresh_back e1 p.1) (e1.trans p.2.1) p.2.2)
    obtain ⟨T, x', rfl, hT, rfl, k1⟩ := y
    exact ⟨T, rfl, hT, by rw [k1 xs (ex_l e3 hx)]; rfl⟩
/-- xs.append(e), of e something known -/
theorem s_appP {l : Addr} {zs : List V} {P : V → Hp → Prop} (hl : H l = some (.lst zs)) (ha : Ev ta σ H (.ref l)) (h : EvP te σ H P) (hz : zs.length < 100000) (hk : ∀ v H1, Ex H H1 → P v H1 → D.nx σ (upd H1 l (.lst (zs ++ [v])))) :
    tDrop (tBM K "list" rAppend ta (tCons te tNil)) D σ H := ha H (Ex.refl H) _ fun H1 e1 =>
  ⟨Or.inl ⟨rfl, zs, sq_of (e1 l _ hl)⟩, h H1 e1 _ fun v H2 e2 p => ⟨l, zs, v, rfl, rfl, e2 l _ (e1 l _ hl), sz_lt hz, hk v H2 (e1.trans e2) p⟩⟩
theorem Lls.upd {p : Addr} {o : HO} : ∀ {zs : List V} {xss : List (List Int)}, Lls H zs xss → (∀ z ∈ zs, z ≠ .ref p) → Lls (upd H p o) zs xss
  | _, _, .nil, _ => .nil
  | _, _, .cons (p := q) h r, hz => .cons ((upd_ne fun e => hz _ List.mem_cons_self (by rw [e])).trans h) (r.upd fun z hm => hz z (List.mem_cons_of_mem _ hm))
theorem Lls.snoc {q : Addr} {ns : List Int} (h : Ll H q ns) : ∀ {zs : List V} {xss : List (List Int)}, Lls H zs xss → Lls H (zs ++ [.ref q]) (xss ++ [ns])
  | _, _, .nil => .cons h .nil
  | _, _, .cons h' r => .cons h' (r.snoc h)
theorem Lls.get : ∀ {zs : List V} {xss : List (List Int)} {k : Nat} {x : List Int}, Lls H zs xss → xss[k]? = some x → ∃ q, zs[k]? = some (.ref q) ∧ Ll H q x
  | _, _, 0, _, .cons h _, e => by cases e; exact ⟨_, rfl, h⟩
  | _, _, k + 1, _, .cons _ r, e => r.get (k := k) e
theorem Lls.at {zs : List V} {xss : List (List Int)} {k : Nat} {z : V} (h : Lls H zs xss) (e : zs[k]? = some z) : ∃ (q : Addr) (x : List Int), z = .ref q ∧ xss[k]? = some x ∧ Ll H q x := by
  have hk : k < xss.length := by
    rw [← h.len]
    exact (List.getElem?_eq_some_iff.mp e).1
  obtain ⟨q, h1, h2⟩ := h.get (List.getElem?_eq_getElem hk)
  rw [h1] at e
  cases e
  exact ⟨q, _, rfl, List.getElem?_eq_getElem hk, h2⟩
theorem EvL.p {zs : List V} (h : EvL te σ H zs) : EvP te σ H (fun v H1 => ∃ p : Addr, v = .ref p ∧ H p = none ∧ H1 p = some (.lst zs)) := fun H1 e Q q => h H1 e Q fun p H2 np e2 hp => q _ _ e2 ⟨p, rfl, fresh_back e np, hp⟩
end
section
variable {K : PySem.W.Frag} {σ : L2.St} {H H' : Hp} {ta tb te tl : TE} {t : TT} {xs ys : List V} {a : Addr} {j k : Nat} {vs : List Nat} {D : Ends} {tu tz : TS}
theorem Lls.ne {q : Addr} (hq : H q = none) : ∀ {zs : List V} {xss : List (List Int)}, Lls H zs xss → ∀ z ∈ zs, z ≠ .ref q
  | _, _, .nil, _, hz => by cases hz
  | _, _, .cons (p := p) h r, z, hz => by
    rcases List.mem_cons.mp hz with e | hz
    · rw [e]
      intro e2
      cases e2
      have h' : H q = _ := h
      rw [hq] at h'
      cases h'
    · exact r.ne hq z hz
/-- [a new list for x in xs] -/
theorem el_lcLL (g : Nat → List Int) (h : Ev tl σ H (.ref a)) (hx : SqL K H a xs) (hn : xs.length ≤ 40000) (hw : ∀ x, wipe ((wipe σ vs).set k (some x)) vs = wipe σ vs)
    (he : ∀ i x H2, xs[i]? = some x → Ex H H2 → EvL te ((wipe σ vs).set k (some x)) H2 ((g i).map V.int)) :
    EvP (tLc (iList K tl) (gName k) tYes te vs) σ H (fun v H' => ∃ (Dl : Addr) (zs : List V), v = .ref Dl ∧ H Dl = none ∧ H' Dl = some (.lst zs) ∧ Lls H' zs ((List.range xs.length).map g) ∧ ∀ z ∈ zs, ∃ q : Addr, z = .ref q ∧ H q = none) := fun H0 e Q q =>
  h H0 e _ fun H1 e1 => by
    have e01 := e.trans e1
    refine ⟨a, rfl, ⟨xs, ex_l e01 hx⟩, fun Dl hD => ?_⟩
    refine lc_list (xs := xs) (fun i H' => Ex H1 H' ∧ ∃ zs : List V, H' Dl = some (.lst zs) ∧ Lls H' zs ((List.range i).map g) ∧ ∀ z ∈ zs, z ≠ .ref Dl ∧ ∃ q : Addr, z = .ref q ∧ H1 q = none) ⟨Ex.new hD, [], upd_same, .nil, fun z hz => by cases hz⟩
      (fun i H' _ p => ex_l (e01.trans p.1) hx) (fun i x H' hi p => ⟨hw x, ?_⟩) (fun H' p => ?_)
    · obtain ⟨eH, zs, hDl, hL, hz⟩ := p
      have hlt := lt_of_get hi
      refine et_yes H' (Ex.refl H') _ fun H3 e3 => ?_
      show te _ H3 _
      refine he i x H3 hi (e01.trans (eH.trans e3)) H3 (Ex.refl H3) _ fun r H4 nr e4 hr => ?_
      have hD4 := (e3.trans e4) _ _ hDl
      have hrD : r ≠ Dl := fun z => by
        have := e3 _ _ hDl
        rw [← z, nr] at this
        cases this
      have ll := hL.len
      rw [List.length_map, List.length_range] at ll
      refine ⟨zs, hD4, sz_lt (by omega), ((eH.trans e3).trans e4).mut hD, zs ++ [.ref r], upd_same, ?_, fun z hm => ?_⟩
      · rw [List.range_succ, List.map_append]
        exact ((hL.mono (e3.trans e4)).snoc hr).upd fun y hy => by
          rcases List.mem_append.mp hy with hy | hy
          · exact (hz y hy).1
          · rw [List.mem_singleton.mp hy]
            exact fun e => hrD (by cases e; rfl)
      · rcases List.mem_append.mp hm with hm | hm
        · exact hz z hm
        · rw [List.mem_singleton.mp hm]
          exact ⟨fun e => hrD (by cases e; rfl), r, rfl, fresh_back (eH.trans e3) nr⟩
    · obtain ⟨eH, zs, hDl, hL, hz⟩ := p
      exact q _ _ (e1.trans eH) ⟨Dl, zs, rfl, fresh_back e01 hD, hDl, hL, fun z hm => by
        obtain ⟨q', e1', e2'⟩ := (hz z hm).2
        exact ⟨q', e1', fresh_back e01 e2'⟩⟩
/-- a call whose first argument is a new list -/
theorem el_callL3 {sp : Sp} {E : XK} {zs ws : List V} {tr : TA} {us : List V} (h : EvL te σ H zs) (hb : ∀ H1, Ex H H1 → EvA tr σ H1 us) (hs : ∀ p H1, Ex H H1 → H1 p = some (.lst zs) → SpL sp (.ref p :: us) H1 ws) : EvL (tCall sp [] E (tCons te tr)) σ H ws := fun H1 e Q q =>
  h H1 e _ fun p H2 _ e2 hp => hb H2 (e.trans e2) H2 (Ex.refl H2) _ fun H3 e3 => by
    have := hs p H3 ((e.trans e2).trans e3) (e3 _ _ hp) H3 (Ex.refl H3) Q (fun r H4 nr e4 hr => q r H4 (fresh_back (e2.trans e3) nr) ((e2.trans e3).trans e4) hr) E
    show sp ((V.ref p :: us) ++ []) H3 Q E
    rw [List.append_nil]
    exact this
end
/-! evaluation after which only an older heap is known to stand -/
def Ev0 (H0 : Hp) (te : TE) (σ : L2.St) (H : Hp) (v : V) : Prop := ∀ H1, Ex H H1 → ∀ Q : VK, (∀ H2, Ex H0 H2 → Q v H2) → te σ H1 Q
def EvT0 (H0 : Hp) (t : TT) (σ : L2.St) (H : Hp) (b : Bool) : Prop := ∀ H1, Ex H H1 → ∀ Q : Bool → Hp → Prop, (∀ H2, Ex H0 H2 → Q b H2) → t σ H1 Q
section
variable {K : PySem.W.Frag} {σ : L2.St} {H H' H0 : Hp} {ta tb te tl : TE} {t u : TT} {xs ys : List V} {v : V} {a b : Bool} {D : Ends} {tu tz : TS}
theorem ev0_call {sp : Sp} {vs : List V} {E : XK} {tr : TA} (h : EvA tr σ H vs) (hs : ∀ H1, Ex H H1 → ∀ Q : VK, (∀ H2, Ex H0 H2 → Q v H2) → ∀ E : XK, sp (vs ++ []) H1 Q E) : Ev0 H0 (tCall sp [] E tr) σ H v := fun H1 e Q q =>
  h H1 e _ fun H2 e2 => hs H2 (e.trans e2) Q q E
theorem et0_B (h : Ev0 H0 te σ H (.bl b)) : EvT0 H0 (tB te) σ H b := fun H1 e Q q => h H1 e _ fun H2 e2 => ⟨b, rfl, q H2 e2⟩
theorem et0_not (h : EvT0 H0 t σ H b) : EvT0 H0 (tNot t) σ H (!b) := fun H1 e Q q => h H1 e _ fun H2 e2 => q H2 e2
theorem et0_andT (h : EvT t σ H true) (h2 : EvT0 H0 u σ H b) : EvT0 H0 (tAnd t u) σ H b := fun H1 e Q q => h H1 e _ fun H2 e2 => by
  show u σ H2 Q
  exact h2 H2 (e.trans e2) Q q
theorem et0_orF (h : EvT t σ H false) (h2 : EvT0 H0 u σ H b) : EvT0 H0 (tOr t u) σ H b := fun H1 e Q q => h H1 e _ fun H2 e2 => by
  show u σ H2 Q
  exact h2 H2 (e.trans e2) Q q
theorem s_when0 (h : EvT0 H0 t σ H false) (hk : ∀ H1, Ex H0 H1 → D.nx σ H1) : tIfS t tu tNext D σ H := h H (Ex.refl H) _ fun H1 e => by
  show tNext D σ H1
  exact hk H1 e
theorem eap_consP {tr : TA} {P1 : V → Hp → Prop} {P : List V → Hp → Prop} (h : EvP te σ H P1) (hm : ∀ v H1 H2, Ex H1 H2 → P1 v H1 → P1 v H2) (hr : EvAP tr σ H P) : EvAP (tCons te tr) σ H (fun vs H' => ∃ x us, vs = x :: us ∧ P1 x H' ∧ P us H') := fun H1 e _ q =>
  h H1 e _ fun x H2 e2 p => hr H2 (e.trans e2) _ fun us H3 e3 hP => q _ H3 (e2.trans e3) ⟨x, us, rfl, hm _ _ _ e3 p, hP⟩
theorem ep_tup {tr : TA} {P : List V → Hp → Prop} (h : EvAP tr σ H P) (hm : Mono P) (hl : ∀ vs H', P vs H' → vs.length ≤ 100000) : EvP (tTup tr) σ H (fun v H' => ∃ p vs, v = .ref p ∧ H p = none ∧ H' p = some (.tup vs) ∧ P vs H') := fun H1 e Q q =>
  h H1 e _ fun vs H2 e2 hp => ⟨sz_of (hl _ _ hp), fun p np => q _ _ (e2.trans (Ex.new np)) ⟨p, vs, rfl, fresh_back (e.trans e2) np, upd_same, hm _ _ _ (Ex.new np) hp⟩⟩
theorem mono_consP {P1 : V → Hp → Prop} {P : List V → Hp → Prop} (hm : ∀ v H1 H2, Ex H1 H2 → P1 v H1 → P1 v H2) (h : Mono P) : Mono (fun (vs : List V) (H' : Hp) => ∃ x us, vs = x :: us ∧ P1 x H' ∧ P us H') := fun _ _ _ e ⟨x, us, h1, h2, h3⟩ => ⟨x, us, h1, hm _ _ _ e h2, h _ _ _ e h3⟩
theorem atI_end {zs : List V} {n : Nat} {z : V} (h : zs[n]? = some z) (hl : zs.length = n + 1) : atI zs (-1) = some z := by
  have hne : zs ≠ [] := fun e => by
    rw [e] at hl
    cases hl
  have e := List.dropLast_concat_getLast hne
  have e2 : zs.getLast hne = z := by
    rw [List.getLast_eq_getElem]
    have h2 := (List.getElem?_eq_some_iff.mp h).2
    rw [← h2]
    congr 1
    omega
  rw [e2] at e
  rw [← e]
  exact atI_last _ _
theorem Lls.put {q : Addr} {y : List Int} : ∀ {zs : List V} {xss : List (List Int)} {i : Nat}, Lls H zs xss → zs.Nodup → zs[i]? = some (.ref q) → Lls (L2.upd H q (.lst (y.map V.int))) zs (xss.set i y)
  | _, _, _, .nil, _, h => by cases h
  | _, _, 0, .cons (p := p) _ r, hn, e => by
    cases e
    obtain ⟨h1, h2⟩ := List.nodup_cons.mp hn
    exact .cons upd_same (r.upd fun z hz => fun e => h1 (by rw [← e]; exact hz))
  | _, _, i + 1, .cons (p := p) (zs := zs) h r, hn, e => by
    obtain ⟨h1, h2⟩ := List.nodup_cons.mp hn
    have e' : zs[i]? = some (V.ref q) := e
    have hpq : p ≠ q := fun z => by
      rw [z] at h1
      exact h1 (List.mem_of_getElem? e')
    exact .cons ((upd_ne hpq).trans h) (r.put h2 e)
end
theorem given_ints (n : Nat) (f : Nat → Bool) : given n f (fun i => V.int (i : Nat)) = (((List.range n).filter f).map fun (i : Nat) => (i : Int)).map V.int := by
  unfold given
  rw [List.map_map]
  rfl
end XP
/-! ## Still more words: three names at once, ranges from a number on with a test, numbers beside lists -/
namespace XP
open PySem PySem.Spec PyProof.Rows L2 Evl
abbrev g3n (K : PySem.W.Frag) (i j k : Nat) : TG := gTup K 3 (gCons (gName i) (gCons (gName j) (gCons (gName k) gNil)))
theorem g3_at {K : PySem.W.Frag} {i j k : Nat} {T : Addr} {x y z : V} {σ : L2.St} {H : Hp} {Q : L2.St → Hp → Prop} (h : H T = some (.tup [x, y, z])) (q : Q (((σ.set i (some x)).set j (some y)).set k (some z)) H) : g3n K i j k (.ref T) σ H Q :=
  ⟨T, [x, y, z], rfl, st_of h, rfl, x, [y, z], rfl, y, [z], rfl, z, [], rfl, rfl, q⟩
/-- a number, a list of numbers and another one -/
def nllD (n : Int) (xs ys : List Int) : PyData := .tuple [.int n, ldat xs, ldat ys]
theorem shaped_nll (n : Int) (xs ys : List Int) : SeqAt.shaped (nllD n xs ys) = true := by
  unfold SeqAt.shaped nllD ldat
  simp [PyData.canLay0, PyData.canLayAll0, PyData.depth, PyData.depthAll, PySem.W.ke_canLayAll0, PySem.W.ke_depthAll]
theorem eqv_nll (n m : Int) (xs ys us ws : List Int) : PyData.eqv (nllD n xs ys) (nllD m us ws) = decide (n = m ∧ xs = us ∧ ys = ws) := by
  unfold nllD
  simp only [PyData.eqv, PyData.eqvAll]
  unfold ldat
  rw [eqv_ints, eqv_ints, Bool.eq_iff_iff]
  simp
theorem dp_nll {K : PySem.W.Frag} {H : Hp} {t p q : Addr} {n : Int} {xs ys : List Int} (ht : H t = some (.tup [.int n, .ref p, .ref q])) (hp : Ll H p xs) (hq : Ll H q ys) : Dp K H (.ref t) (nllD n xs ys) :=
  .tup (st_of ht) (.cons (.int n) (.cons (dp_ints hp.sq) (.cons (dp_ints hq.sq) .nil)))
section
variable {K : PySem.W.Frag} {σ : L2.St} {H H' : Hp} {ta tb te tl : TE} {t : TT} {x y z v : V} {a b p : Addr} {xs ys : List Int} {D : Ends} {tz tu : TS}
theorem rv_neNLL {t t' p q p' q' : Addr} {n m : Int} {xs ys us ws : List Int} (ht : H t = some (.tup [.int n, .ref p, .ref q])) (hp : Ll H p xs) (hq : Ll H q ys) (ht' : H t' = some (.tup [.int m, .ref p', .ref q'])) (hp' : Ll H p' us) (hq' : Ll H q' ws) :
    RV (rNeD K) (.ref t) (.ref t') H (.bl (!decide (n = m ∧ xs = us ∧ ys = ws))) := fun H1 e Q k =>
  ⟨_, _, dp_nll (e _ _ ht) (e _ _ hp) (e _ _ hq), dp_nll (e _ _ ht') (e _ _ hp') (e _ _ hq'), shaped_nll _ _ _, shaped_nll _ _ _, by rw [eqv_nll]; exact k H1 (Ex.refl H1)⟩
/-- two written texts, equal -/
theorem rv_eqTT {t u : Addr} {c d : Str} (h1 : H t = some (.tup [.str c, .str d])) (h2 : H u = some (.tup [.str c, .str d])) (ha : PyData.strOk c = true) (hb : PyData.strOk d = true) : RV (rEqD K) (.ref t) (.ref u) H (.bl true) := fun H1 e Q q => by
  have sh : SeqAt.shaped (.tuple [.str c, .str d]) = true := by
    unfold SeqAt.shaped
    simp [PyData.canLay0, PyData.canLayAll0, PyData.depth, PyData.depthAll, ha, hb]
  have eq1 : PyData.eqv (.tuple [.str c, .str d]) (.tuple [.str c, .str d]) = true := by simp [PyData.eqv, PyData.eqvAll]
  refine ⟨.tuple [.str c, .str d], .tuple [.str c, .str d], .tup (st_of (e _ _ h1)) (.cons (.str c) (.cons (.str d) .nil)), .tup (st_of (e _ _ h2)) (.cons (.str c) (.cons (.str d) .nil)), sh, sh, ?_⟩
  rw [eq1]
  exact q H1 (Ex.refl H1)
theorem el_lcR2F {tr : TA} {k : Nat} {vs : List Nat} {lo n : Int} (f : Nat → Bool) (g : Nat → V) (h : EvA tr σ H [.int lo, .int n]) (hn : 0 ≤ lo ∧ lo ≤ 40000 ∧ -40000 ≤ n ∧ n ≤ 40000) (hw : ∀ x, wipe ((wipe σ vs).set k (some x)) vs = wipe σ vs)
    (ht : ∀ (i : Nat) H1, Ex H H1 → lo + (i : Int) < n → EvT t ((wipe σ vs).set k (some (.int (lo + (i : Int))))) H1 (f i))
    (he : ∀ (i : Nat) H1, Ex H H1 → lo + (i : Int) < n → f i = true → Ev te ((wipe σ vs).set k (some (.int (lo + (i : Int))))) H1 (g i)) :
    EvL (tLc (iRng2 tr) (gName k) t te vs) σ H (given (n - lo).toNat f g) := fun H0 e Q q =>
  h H0 e _ fun H1 e1 => ⟨lo, n, rfl, ⟨by omega, by omega, by omega, by omega⟩, fun Dl hD =>
    lc_range (lo := lo) (n := (n - lo).toNat) (Cw H1 f g Dl) ⟨hD, Ex.new hD, upd_same⟩ (fun i H2 hi p => ⟨hw _, cw_turn p (by omega) (ht i H1 (e.trans e1) (by omega)) fun hb => he i H1 (e.trans e1) (by omega) hb⟩)
      (fun H2 p => q Dl H2 (fresh_back e1 p.1) (e1.trans p.2.1) p.2.2)⟩
theorem s_retP {P : V → Hp → Prop} (h : EvP te σ H P) (k : ∀ v H1, Ex H H1 → P v H1 → D.rt v H1) : tRet te D σ H := h H (Ex.refl H) _ fun v H1 e p => k v H1 e p
/-- x, y, z = what a call hands back -/
theorem q_asg3 {i j k : Nat} {P : V → Hp → Prop} (h : EvP te σ H P) (hk : ∀ v H1, Ex H H1 → P v H1 → ∃ (T : Addr) (x y w : V), v = .ref T ∧ H1 T = some (.tup [x, y, w]) ∧ tz D (((σ.set i (some x)).set j (some y)).set k (some w)) H1) : tSeq (tAsg te (g3n K i j k)) tz D σ H :=
  h H (Ex.refl H) _ fun v H1 e p => by
    obtain ⟨T, x, y, w, rfl, ht, q⟩ := hk v H1 e p
    exact g3_at ht q
/-- the first operand by what is known of it -/
theorem ev_opP1 {P : V → Hp → Prop} {r : R2} (ha : EvP ta σ H P) (hb : ∀ w H1, Ex H H1 → P w H1 → Ev tb σ H1 y) (hr : ∀ w H1 H2, Ex H H1 → P w H1 → Ex H1 H2 → RV r w y H2 z) : Ev (tOp r ta tb) σ H z := fun H1 e Q q =>
  ha H1 e _ fun w H2 e2 p => hb w H2 (e.trans e2) p H2 (Ex.refl H2) _ fun H3 e3 => hr w H2 H3 (e.trans e2) p e3 H3 (Ex.refl H3) Q fun H4 e4 => q H4 ((e2.trans e3).trans e4)
/-- both operands by what is known of them -/
theorem ev_opPP {P R : V → Hp → Prop} {r : R2} (ha : EvP ta σ H P) (hb : ∀ w H1, Ex H H1 → P w H1 → EvP tb σ H1 R) (hr : ∀ w u H1 H2, Ex H H1 → P w H1 → Ex H1 H2 → R u H2 → RV r w u H2 z) : Ev (tOp r ta tb) σ H z := fun H1 e Q q =>
  ha H1 e _ fun w H2 e2 p => hb w H2 (e.trans e2) p H2 (Ex.refl H2) _ fun u H3 e3 p2 => hr w u H2 H3 (e.trans e2) p e3 p2 H3 (Ex.refl H3) Q fun H4 e4 => q H4 ((e2.trans e3).trans e4)
/-- [.. for x in a new list of numbers if ..] -/
theorem el_lcIN {k : Nat} {vs : List Nat} {ns : List Int} (p : Int → Bool) (g : Int → V) (h : EvL tl σ H (ns.map V.int)) (hz : ns.length ≤ 40000) (hw : ∀ x, wipe ((wipe σ vs).set k (some x)) vs = wipe σ vs)
    (ht : ∀ (z : Int) H1, Ex H H1 → z ∈ ns → EvT t ((wipe σ vs).set k (some (.int z))) H1 (p z)) (he : ∀ (z : Int) H1, Ex H H1 → z ∈ ns → p z = true → Ev te ((wipe σ vs).set k (some (.int z))) H1 (g z)) :
    EvL (tLc (iList K tl) (gName k) t te vs) σ H ((ns.filter p).map g) := by
  refine el_is (el_lcNL (fun i => p (ns.getD i 0)) (fun i => g (ns.getD i 0)) h (by rw [List.length_map]; exact hz) hw (fun i x H1 e1 hi => ?_) (fun i x H1 e1 hi hp => ?_)) (by rw [List.length_map]; exact given_getD p g)
  · obtain ⟨z, e, rfl⟩ := get_int hi
    rw [show ns.getD i 0 = z by simp [List.getD, e]]
    exact ht z H1 e1 (List.mem_of_getElem? e)
  · obtain ⟨z, e, rfl⟩ := get_int hi
    have ez : ns.getD i 0 = z := by simp [List.getD, e]
    rw [ez] at hp ⊢
    exact he z H1 e1 (List.mem_of_getElem? e) hp
theorem el_lcINA {k : Nat} {vs : List Nat} {ns : List Int} (g : Int → V) (h : EvL tl σ H (ns.map V.int)) (hz : ns.length ≤ 40000) (hw : ∀ x, wipe ((wipe σ vs).set k (some x)) vs = wipe σ vs)
    (he : ∀ (z : Int) H1, Ex H H1 → z ∈ ns → Ev te ((wipe σ vs).set k (some (.int z))) H1 (g z)) : EvL (tLc (iList K tl) (gName k) tYes te vs) σ H (ns.map g) := by
  refine el_is (el_lcIN (fun _ => true) g h hz hw (fun _ _ _ _ => et_yes) fun z H1 e1 hm _ => he z H1 e1 hm) ?_
  rw [List.filter_eq_self.mpr fun _ _ => rfl]
theorem ev_opPU {P : V → Hp → Prop} {r : R2} {zs : List V} (ha : EvP ta σ H P) (hb : ∀ w H1, Ex H H1 → P w H1 → EvU tb σ H1 zs) (hr : ∀ w u H1 H2, Ex H H1 → P w H1 → Ex H1 H2 → H2 u = some (.tup zs) → RV r w (.ref u) H2 z) : Ev (tOp r ta tb) σ H z := fun H1 e Q q =>
  ha H1 e _ fun w H2 e2 p => hb w H2 (e.trans e2) p H2 (Ex.refl H2) _ fun u H3 _ e3 hu => hr w u H2 H3 (e.trans e2) p e3 hu H3 (Ex.refl H3) Q fun H4 e4 => q H4 ((e2.trans e3).trans e4)
theorem rc_isiTup {zs : List V} (h : H a = some (.tup zs)) : RC (rIsi K) [.ref a, .ty "tuple"] H (.bl true) := rc_isi (.ty _) (fun H1 e => .base (.tup (e a _ h))) (kit_ty (by decide +kernel))
theorem rc_isiIB {i : Int} : RC (rIsi K) [.int i, .ty "bool"] H (.bl false) := rc_isi (.ty _) (fun _ _ => .base (.int _)) (kit_ty (by decide +kernel))
theorem rc_lenT {zs : List V} (h : SqT K H a zs) : RC (rLenK K) [.ref a] H (.int (zs.length : Int)) := fun H1 e _ q =>
  ⟨a, zs, rfl, .inr (ex_t e h), q H1 (Ex.refl H1)⟩
end
theorem cut_from (zs : List V) (k : Nat) : cutV zs (some (k : Int)) none = zs.drop k := by
  unfold cutV
  rw [HT.sIx_none, HT.sIx_nat]
  by_cases h : k ≤ zs.length
  · rw [Nat.min_eq_left h, List.take_of_length_le (by rw [List.length_drop]; exact Nat.le_refl _)]
  · rw [Nat.min_eq_right (by omega), List.drop_length, List.drop_of_length_le (by omega), List.take_nil]
/-- the part K by a name of one's own, within a comprehension -/
theorem pi_listK {X : Cx} {K : PySem.W.Frag} {tg l : Expr} {tl : TE} (h : X.K = K) (hl : PE X l tl) : PI X tg l (iList K tl) := h ▸ pi_list hl
/-! downward closed counts -/
theorem dc_count (P : Nat → Bool) : ∀ n : Nat, (∀ i j, i ≤ j → j < n → P j = true → P i = true) → ∀ i, i < ((List.range n).filter P).length ↔ i < n ∧ P i = true
  | 0, _, i => by simp
  | n + 1, h, i => by
    have ih := dc_count P n (fun i j h1 h2 => h i j h1 (by omega)) i
    rw [List.range_succ, List.filter_append, List.length_append]
    by_cases c : P n = true
    · have e1 : (List.range n).filter P = List.range n := List.filter_eq_self.mpr fun j hj => h j n (by have := List.mem_range.mp hj; omega) (by omega) c
      have e2 : List.filter P [n] = [n] := by rw [List.filter_cons, if_pos c]; rfl
      rw [e1, e2, List.length_range]
      constructor
      · intro hi
        simp at hi
        exact ⟨by omega, h i n (by omega) (by omega) c⟩
      · rintro ⟨hi, _⟩
        simp
        omega
    · have e2 : List.filter P [n] = [] := by rw [List.filter_cons, if_neg c]; rfl
      rw [e2, List.length_nil, Nat.add_zero, ih]
      constructor
      · rintro ⟨h1, h2⟩
        exact ⟨by omega, h2⟩
      · rintro ⟨h1, h2⟩
        refine ⟨?_, h2⟩
        rcases Nat.lt_or_ge i n with k | k
        · exact k
        · exact absurd (by rw [show n = i by omega]; exact h2) c
theorem given_length (n : Nat) (f : Nat → Bool) (v : Nat → V) : (given n f v).length = ((List.range n).filter f).length := by
  unfold given
  rw [List.length_map]
end XP
/-! ## len(set(xs)) of a list of whole numbers, any of them -/
namespace XP
open PySem PySem.Spec PyProof.Rows L2 Evl
/-- how many unlike ones -/
def dst (ns : List Int) : Nat := (firstMet (fun i => ns.getD i 0) ns.length).length
theorem firstMet_full (ns : List Int) : ∀ i, i ≤ ns.length → (firstMet (fun i => ns.getD i 0) i).length = i → (ns.take i).Nodup
  | 0, _, _ => List.nodup_nil
  | i + 1, hi, h => by
    have hlt : i < ns.length := hi
    have hle := firstMet_length_le (fun i => ns.getD i 0) i
    rw [firstMet_succ, step_length] at h
    cases hb : (firstMet (fun i => ns.getD i 0) i).any (· == ns.getD i 0) with
    | true =>
      rw [hb, if_pos rfl] at h
      omega
    | false =>
      rw [hb] at h
      have ih := firstMet_full ns i (by omega) (by rw [if_neg Bool.false_ne_true] at h; omega)
      rw [firstMet_any] at hb
      have e : ns[i]? = some (ns.getD i 0) := by
        rw [List.getD, List.getElem?_eq_getElem hlt]
        rfl
      rw [List.take_add_one, e]
      show (ns.take i ++ [ns.getD i 0]).Nodup
      rw [List.nodup_append]
      refine ⟨ih, by simp, fun a ha b hb' => ?_⟩
      rw [List.mem_singleton.mp hb']
      intro z
      obtain ⟨j, hj, rfl⟩ := List.mem_iff_getElem.mp ha
      rw [List.length_take] at hj
      have : ((List.range i).map fun i => ns.getD i 0).any (· == ns.getD i 0) = true := by
        rw [List.any_eq_true]
        refine ⟨ns.getD j 0, List.mem_map.mpr ⟨j, List.mem_range.mpr (by omega), rfl⟩, ?_⟩
        rw [List.getElem_take] at z
        have e2 : ns.getD j 0 = ns[j]'(by omega) := by simp [List.getD, show j < ns.length by omega]
        rw [e2, z]
        simp
      rw [this] at hb
      cases hb
theorem dst_le (ns : List Int) : dst ns ≤ ns.length := firstMet_length_le _ _
theorem dst_iff (ns : List Int) : dst ns = ns.length ↔ ns.Nodup := by
  constructor
  · intro h
    have := firstMet_full ns ns.length (Nat.le_refl _) h
    rw [List.take_length] at this
    exact this
  · intro h
    unfold dst
    rw [RZ.firstMet_nodup h ns.length (Nat.le_refl _), List.take_length]
def tLenSetG (K : PySem.W.Frag) (ta : TE) : TE := fun σ H Q => ta σ H fun x H1 => ∃ (l : Addr) (ns : List Int), x = .ref l ∧ SqL K H1 l (ns.map V.int) ∧ ns.length ≤ 4000 ∧ Q (.int (dst ns : Nat)) H1
theorem pe_lenSetG {X : Cx} {K : PySem.W.Frag} {a : Expr} {ta : TE} {p p2 q pos : Pos} (hK : X.K = K) (hc : X.calm = true) (hg : Gl X "len") (hm : X.mg "len" = none) (hg2 : Gl X "set") (hm2 : X.mg "set" = none) (ha : PE X a ta)
    (na : starEach [a] X.env = (false, eval a X.env) :: starEach [] X.env := by rfl) : PE X (.Call (.Name "len" p) [.Call (.Name "set" p2) [a] [] q] [] pos) (tLenSetG K ta) := by
  subst hK
  refine ⟨fun pins s σ H Q I h => Call_ (ld_blt I hg hm boot_len ?_)⟩
  refine callWith_builtin1 (args_cons (Call_ (ld_blt I hg2 hm2 PyProof.Rows.boot_set ?_)) rfl) rfl rfl
  refine callWith_type1 (args_cons (thn (ha.run pins s σ H _ I h) fun v s1 ⟨x, H1, I1, r1, q1⟩ => args_nil ?_) na) na rfl
  obtain ⟨l, ns, rfl, hq, hl, q1⟩ := q1
  cases r1
  obtain ⟨its, r, pl, hz⟩ := I1.list hq
  have hlen : its.toArray.size = ns.length := by rw [List.size_toArray, ← r.length, List.length_map]
  refine call_set_list (I1.ok.hd hc) pl.isList (by simpa using RZ.intsAre_vals r) (by rw [hlen]; unfold scanBound; omega) fun h' tk hS hk => args_nil ?_
  rw [hlen] at hS
  obtain ⟨o, es, ep, t, ho, hex, hd, _, _, _, hf, hn⟩ := hS
  have I2 : Inv X pins σ H1 { s1 with heap := h', toks := tk } := I1.kept fun b o e => hk b o (Heap.lt_size e) e
  have hle := dst_le ns
  exact call_len_set ho hex hd hf (by rw [hn]; show ((dst ns : Nat) : Int) < _; omega) ⟨.int (dst ns : Nat), H1, I2.tok _, ⟨_, by rw [hn]; rfl⟩, q1⟩
section
variable {K : PySem.W.Frag} {σ : L2.St} {H : Hp} {ta tb te : TE} {a : Addr} {xs : List Int}
theorem ev_lenSet (ha : Ev ta σ H (.ref a)) (h : SqL K H a (xs.map V.int)) (hl : xs.length ≤ 4000) : Ev (tLenSetG K ta) σ H (.int (dst xs : Nat)) := fun H1 e Q q =>
  ha H1 e _ fun H2 e2 => ⟨a, xs, rfl, ex_l (e.trans e2) h, hl, q H2 e2⟩
theorem inV_ints (z : Int) : ∀ ns : List Int, inV (.int z) (ns.map V.int) = decide (z ∈ ns)
  | [] => rfl
  | x :: r => by
    have ih := inV_ints z r
    unfold inV at ih ⊢
    rw [List.map_cons, List.any_cons, ih, Bool.eq_iff_iff]
    show ((x == z) || decide (z ∈ r)) = true ↔ _
    rw [Bool.or_eq_true, beq_iff_eq, decide_eq_true_eq, decide_eq_true_eq, List.mem_cons]
    exact ⟨fun h => h.imp Eq.symm id, fun h => h.imp Eq.symm id⟩
theorem flat_ints (ns : List Int) : (ns.map V.int).all flatV = true := List.all_eq_true.mpr fun v hv => by
  obtain ⟨z, _, rfl⟩ := List.mem_map.mp hv
  rfl
theorem rv_niI {z : Int} (h : SqL K H a (xs.map V.int)) : RV (rIn K true) (.int z) (.ref a) H (.bl (!decide (z ∈ xs))) := by
  have := rv_niL (x := V.int z) h rfl (flat_ints xs)
  rw [inV_ints] at this
  exact this
theorem rv_isInI {z : Int} (h : SqL K H a (xs.map V.int)) : RV (rIn K false) (.int z) (.ref a) H (.bl (decide (z ∈ xs))) := by
  have := rv_isL (x := V.int z) h rfl (flat_ints xs)
  rw [inV_ints] at this
  exact this
/-- a slice of a new list -/
theorem el_slN {tl th : TO} {zs : List V} {lo hi : Option Int} (h : EvL te σ H zs) (h1 : ∀ H1, Ex H H1 → EvO tl σ H1 lo) (h2 : ∀ H1, Ex H H1 → EvO th σ H1 hi) : EvL (tSl (rSlL K) te tl th) σ H (cutV zs lo hi) := fun H1 e Q q =>
  h H1 e _ fun p H2 _ e2 hp => h1 H2 (e.trans e2) H2 (Ex.refl H2) _ fun H3 e3 => h2 H3 ((e.trans e2).trans e3) H3 (Ex.refl H3) _ fun H4 e4 => ⟨p, zs, rfl, sq_of (e4 _ _ (e3 _ _ hp)), fun o ho => q o _ (fresh_back ((e2.trans e3).trans e4) ho) (((e2.trans e3).trans e4).trans (Ex.new ho)) upd_same⟩
theorem shaped_sl {c : Str} (hc : PyData.strOk c = true) (r : List Int) : SeqAt.shaped (.tuple [.str c, ldat r]) = true := by
  have h1 : PyData.canLay0 (ldat r) = true := by
    unfold ldat
    simp only [PyData.canLay0, PySem.W.ke_canLayAll0]
  have h2 : PyData.depth (ldat r) ≤ 1 := by
    unfold ldat
    simp only [PyData.depth, PySem.W.ke_depthAll]
    exact Nat.le_refl _
  simp only [SeqAt.shaped, PyData.canLay0, PyData.canLayAll0, PyData.depth, PyData.depthAll, hc, h1, Bool.and_self, Bool.true_and, decide_eq_true_eq]
  exact decide_eq_true (by omega)
/-- (text, list) against two texts -/
theorem rv_eqTL {t u p : Addr} {c d f : Str} {r : List Int} (h1 : H t = some (.tup [.str c, .ref p])) (hp : Ll H p r) (h2 : H u = some (.tup [.str d, .str f])) (hc : PyData.strOk c = true) (hd : PyData.strOk d = true) (hf : PyData.strOk f = true) (hn : (c == d) = false) : RV (rEqD K) (.ref t) (.ref u) H (.bl false) := fun H1 e Q q => by
  have sh : SeqAt.shaped (.tuple [.str d, .str f]) = true := by
    unfold SeqAt.shaped
    simp [PyData.canLay0, PyData.canLayAll0, PyData.depth, PyData.depthAll, hd, hf]
  have sh2 : SeqAt.shaped (.tuple [.str c, ldat r]) = true := shaped_sl hc r
  have eq1 : PyData.eqv (.tuple [.str c, ldat r]) (.tuple [.str d, .str f]) = false := by
    simp only [PyData.eqv, PyData.eqvAll]
    rw [hn, Bool.false_and]
  refine ⟨.tuple [.str c, ldat r], .tuple [.str d, .str f], .tup (st_of (e _ _ h1)) (.cons (.str c) (.cons (dp_ints (Ll.sq (e _ _ hp))) .nil)), .tup (st_of (e _ _ h2)) (.cons (.str d) (.cons (.str f) .nil)), sh2, sh, ?_⟩
  rw [eq1]
  exact q H1 (Ex.refl H1)
/-- (text, list) against its like -/
theorem rv_neTLL {t u p p' : Addr} {c : Str} {r r' : List Int} (h1 : H t = some (.tup [.str c, .ref p])) (hp : Ll H p r) (h2 : H u = some (.tup [.str c, .ref p'])) (hp' : Ll H p' r') (hc : PyData.strOk c = true) : RV (rNeD K) (.ref t) (.ref u) H (.bl (!decide (r = r'))) := fun H1 e Q q => by
  have sh : ∀ r, SeqAt.shaped (.tuple [.str c, ldat r]) = true := shaped_sl hc
  have eq1 : PyData.eqv (.tuple [.str c, ldat r]) (.tuple [.str c, ldat r']) = decide (r = r') := by
    simp only [PyData.eqv, PyData.eqvAll]
    unfold ldat
    rw [eqv_ints, Bool.eq_iff_iff]
    simp
  refine ⟨.tuple [.str c, ldat r], .tuple [.str c, ldat r'], .tup (st_of (e _ _ h1)) (.cons (.str c) (.cons (dp_ints (Ll.sq (e _ _ hp))) .nil)), .tup (st_of (e _ _ h2)) (.cons (.str c) (.cons (dp_ints (Ll.sq (e _ _ hp'))) .nil)), sh _, sh _, ?_⟩
  rw [eq1]
  exact q H1 (Ex.refl H1)
theorem rv_eqTLL {t u p p' : Addr} {c : Str} {r r' : List Int} (h1 : H t = some (.tup [.str c, .ref p])) (hp : Ll H p r) (h2 : H u = some (.tup [.str c, .ref p'])) (hp' : Ll H p' r') (hc : PyData.strOk c = true) : RV (rEqD K) (.ref t) (.ref u) H (.bl (decide (r = r'))) := fun H1 e Q q => by
  have sh : ∀ r, SeqAt.shaped (.tuple [.str c, ldat r]) = true := shaped_sl hc
  have eq1 : PyData.eqv (.tuple [.str c, ldat r]) (.tuple [.str c, ldat r']) = decide (r = r') := by
    simp only [PyData.eqv, PyData.eqvAll]
    unfold ldat
    rw [eqv_ints, Bool.eq_iff_iff]
    simp
  refine ⟨.tuple [.str c, ldat r], .tuple [.str c, ldat r'], .tup (st_of (e _ _ h1)) (.cons (.str c) (.cons (dp_ints (Ll.sq (e _ _ hp))) .nil)), .tup (st_of (e _ _ h2)) (.cons (.str c) (.cons (dp_ints (Ll.sq (e _ _ hp'))) .nil)), sh _, sh _, ?_⟩
  rw [eq1]
  exact q H1 (Ex.refl H1)
end
end XP
/-! ## Lists of pairs of numbers; enumerate of a list that stands -/
namespace XP
open PySem PySem.Spec PyProof.Rows L2 Evl
/-- pairs of numbers stand at the places zs, the first numbers are rs -/
inductive Prs (H : Hp) : List V → List Int → Prop
  | nil : Prs H [] []
  | cons {t : Addr} {r c : Int} {zs : List V} {rs : List Int} : H t = some (.tup [.int r, .int c]) → Prs H zs rs → Prs H (.ref t :: zs) (r :: rs)
theorem Prs.mono {H H' : Hp} (e : Ex H H') : ∀ {zs : List V} {rs : List Int}, Prs H zs rs → Prs H' zs rs
  | _, _, .nil => .nil
  | _, _, .cons h r => .cons (e _ _ h) (r.mono e)
theorem Prs.len {H : Hp} : ∀ {zs : List V} {rs : List Int}, Prs H zs rs → zs.length = rs.length
  | _, _, .nil => rfl
  | _, _, .cons _ r => congrArg (· + 1) r.len
theorem Prs.upd {H : Hp} {p : Addr} {us : List V} {o : HO} (hp : H p = some (.lst us)) : ∀ {zs : List V} {rs : List Int}, Prs H zs rs → Prs (upd H p o) zs rs
  | _, _, .nil => .nil
  | _, _, .cons h r => .cons ((upd_ne fun e => by rw [e, hp] at h; cases h).trans h) (r.upd hp)
theorem Prs.snoc {H : Hp} {t : Addr} {x c : Int} (h : H t = some (.tup [.int x, .int c])) : ∀ {zs : List V} {rs : List Int}, Prs H zs rs → Prs H (zs ++ [.ref t]) (rs ++ [x])
  | _, _, .nil => .cons h .nil
  | _, _, .cons h' r => .cons h' (r.snoc h)
theorem Prs.at {H : Hp} {z : V} : ∀ {zs : List V} {rs : List Int} {i : Nat}, Prs H zs rs → zs[i]? = some z → ∃ (t : Addr) (r c : Int), z = .ref t ∧ rs[i]? = some r ∧ H t = some (.tup [.int r, .int c])
  | _, _, 0, .cons h _, e => by cases e; exact ⟨_, _, _, rfl, rfl, h⟩
  | _, _, i + 1, .cons _ r, e => r.at (i := i) e
section
variable {K : PySem.W.Frag} {σ : L2.St} {H : Hp} {te tl : TE} {t : TT} {a : Addr} {xs zs : List V} {rs : List Int} {j k : Nat} {vs : List Nat} {D : Ends} {tu tz : TS}
/-- [x for x, y in pairs] -/
theorem el_lcPr (h : Ev tl σ H (.ref a)) (hx : SqL K H a zs) (hp : Prs H zs rs) (hz : rs.length ≤ 40000) (hw : ∀ x y, wipe (((wipe σ vs).set j (some x)).set k (some y)) vs = wipe σ vs) (he : ∀ (r c : Int) H1, Ev te (((wipe σ vs).set j (some (.int r))).set k (some (.int c))) H1 (.int r)) :
    EvL (tLc (iList K tl) (g2n K j k) tYes te vs) σ H (rs.map V.int) := fun H0 e Q q =>
  h H0 e _ fun H1 e1 => by
    have e01 := e.trans e1
    have hl := hp.len
    refine ⟨a, rfl, ⟨zs, ex_l e01 hx⟩, fun Dl hD => ?_⟩
    refine lc_list (xs := zs) (Cw H1 (fun _ => true) (fun i => V.int (rs.getD i 0)) Dl) ⟨hD, Ex.new hD, upd_same⟩ (fun i H' _ p => ex_l (e01.trans p.2.1) hx) (fun i x H' hi p => ?_) (fun H' p => ?_)
    · obtain ⟨t, r, c, rfl, hr, ht⟩ := hp.at hi
      have hlt := lt_of_get hi
      refine g2_at ((e01.trans p.2.1) _ _ ht) ⟨hw _ _, cw_turn p (by omega) et_yes fun _ => ?_⟩
      rw [show rs.getD i 0 = r by simp [List.getD, hr]]
      exact he r c _
    · refine q Dl H' (fresh_back e1 p.1) (e1.trans p.2.1) ?_
      have := p.2.2
      rw [this, given_all, hl]
      congr 2
      refine List.ext_getElem? fun i => ?_
      by_cases hi : i < rs.length
      · rw [List.getElem?_map, List.getElem?_range hi, List.getElem?_map, List.getElem?_eq_getElem hi]
        simp [List.getD, hi]
      · rw [List.getElem?_eq_none (by rw [List.length_map, List.length_range]; omega), List.getElem?_eq_none (by rw [List.length_map]; omega)]
/-- for i, x in enumerate(xs) -/
theorem q_forE {Pv : Nat → L2.St → Hp → Prop} (h : Ev te σ H (.ref a)) (hx : SqL K H a xs) (h0 : ∀ H1, Ex H H1 → Pv 0 σ H1) (hl : ∀ i σ' H', i ≤ xs.length → Pv i σ' H' → SqL K H' a xs)
    (hs : ∀ i x σ' H' H2, xs[i]? = some x → Pv i σ' H' → Ex H' H2 → tu { D with nx := Pv (i + 1), ct := Pv (i + 1), bk := tz D } ((σ'.set j (some (.int (i : Nat)))).set k (some x)) H2) (hd : ∀ σ' H', Pv xs.length σ' H' → tz D σ' H') :
    tSeq (tFor (iEnum K (tCons te tNil)) (g2n K j k) tu) tz D σ H := h H (Ex.refl H) _ fun H1 e =>
  ⟨a, xs, rfl, ex_l e hx, for_enum (D := { D with nx := tz D }) (Pv := Pv) (h0 H1 e) hl (fun i x T σ' H' hx pv hT => hs i x σ' H' _ hx pv (Ex.new hT)) hd⟩
theorem el_repZ {te ti : TE} {σ : L2.St} {H : Hp} {k : Int} (ha : EvL te σ H [V.int 0]) (hb : Ev ti σ H (.int k)) (h0 : 0 ≤ k ∧ k ≤ 100000) : EvL (tOp rRep te ti) σ H ((List.replicate k.toNat (0 : Int)).map V.int) := by
  refine el_is (el_rep ha hb h0 (by show 1 * _ ≤ 100000; omega)) ?_
  rw [List.map_replicate]
  generalize k.toNat = m
  induction m with
  | zero => rfl
  | succ m ih =>
    rw [List.replicate_succ, List.replicate_succ, List.flatten_cons, ih]
    rfl
end
end XP
/-! ## Calls whose arguments are known by a word; a choice of values in front of what follows -/
namespace XP
open PySem PySem.Spec PyProof.Rows L2 Evl
section
variable {K : PySem.W.Frag} {σ : L2.St} {H : Hp} {ta tb te : TE} {t : TT} {tr : TA} {sp : Sp} {dvs zs : List V} {E : XK} {z : V} {P : List V → Hp → Prop}
theorem t_if {c : Bool} {Q : VK} (h : EvT t σ H c) (h1 : c = true → ∀ H1, Ex H H1 → ta σ H1 Q) (h2 : c = false → ∀ H1, Ex H H1 → tb σ H1 Q) : tIf t ta tb σ H Q := h H (Ex.refl H) _ fun H1 e => by
  cases c with
  | true => exact h1 rfl H1 e
  | false => exact h2 rfl H1 e
theorem ev_callN (h : EvL te σ H zs) (hs : ∀ p H1, Ex H H1 → H1 p = some (.lst zs) → SpV sp [.ref p] H1 z) : Ev (tCall sp [] E (tCons te tNil)) σ H z := fun H1 e Q q =>
  h H1 e _ fun p H2 _ e2 hp => hs p H2 (e.trans e2) hp H2 (Ex.refl H2) Q (fun H3 e3 => q H3 (e2.trans e3)) E
theorem ev_callP (h : EvAP tr σ H P) (hs : ∀ vs H1, Ex H H1 → P vs H1 → SpV sp (vs ++ dvs) H1 z) : Ev (tCall sp dvs E tr) σ H z := fun H1 e Q q =>
  h H1 e _ fun vs H2 e2 hp => hs vs H2 (e.trans e2) hp H2 (Ex.refl H2) Q (fun H3 e3 => q H3 (e2.trans e3)) E
theorem eu_callP {ws : List V} (h : EvAP tr σ H P) (hs : ∀ vs H1, Ex H H1 → P vs H1 → SpU sp (vs ++ dvs) H1 ws) : EvU (tCall sp dvs E tr) σ H ws := fun H1 e Q q =>
  h H1 e _ fun vs H2 e2 hp => hs vs H2 (e.trans e2) hp H2 (Ex.refl H2) Q (fun p H3 np e3 h3 => q p H3 (fresh_back e2 np) (e2.trans e3) h3) E
theorem el_callP {ws : List V} (h : EvAP tr σ H P) (hs : ∀ vs H1, Ex H H1 → P vs H1 → SpL sp (vs ++ dvs) H1 ws) : EvL (tCall sp dvs E tr) σ H ws := fun H1 e Q q =>
  h H1 e _ fun vs H2 e2 hp => hs vs H2 (e.trans e2) hp H2 (Ex.refl H2) Q (fun p H3 np e3 h3 => q p H3 (fresh_back e2 np) (e2.trans e3) h3) E
theorem evP_callP {R : V → Hp → Prop} (h : EvAP tr σ H P) (hs : ∀ vs H1, Ex H H1 → P vs H1 → ∀ Q : VK, (∀ v H2, Ex H1 H2 → R v H2 → Q v H2) → ∀ E : XK, sp (vs ++ dvs) H1 Q E) : EvP (tCall sp dvs E tr) σ H R := fun H1 e Q q =>
  h H1 e _ fun vs H2 e2 hp => hs vs H2 (e.trans e2) hp Q (fun v H3 e3 r => q v H3 (e2.trans e3) r) E
end
end XP
/-! ## sorted(set(xs)) of a list of whole numbers with few unlike ones -/
namespace XP
open PySem PySem.Spec PyProof.Rows L2 Evl
section
variable {P : Program} {w : World} {A : Around} {E : Value → Shared → Prop} {s : Shared}
/-- an empty set, just made -/
abbrev freshO (w : World) : Obj := { cls := .type "set", dict := none, data := .set #[] 0 (.fresh 0 0 (!w.params.followText "set-order")) }
set_option maxHeartbeats 4000000 in
/-- set(xs), with what its order needs -/
theorem call_set_listR {l : Addr} {its : Array Value} (ns : List Int) {Q : Value → Shared → Prop} (hh : A.handled = none) (hl : s.heap.IsList l its) (hit : IntsAre its.toList ns) (hb : ns.length + 1 < scanBound)
    (h : ∀ (h' : Heap) (tk c : Nat), SetR w h' s.heap.objs.size (fun j => decide (j ∈ ns)) c → (∀ b o, s.heap.get? b = some o → h'.get? b = some o) → Q (.ref s.heap.objs.size) { s with heap := h', toks := tk }) :
    wpAny (model P w) A (call (.type "set") [.ref l]) Q E s := by
  have len : its.size = ns.length := by
    have q := IntsAre.length hit
    rwa [Array.length_toList] at q
  obtain ⟨cc, tl, mro⟩ := F.called_set.mro
  have k1 := F.called_set.made
  have k2 := F.called_set.sub
  refine wpAny_call (codeAny_of_tree ?_)
  show wpAny _ _ (callAny (.type "set") _) _ _ _
  refine wpAny_pure ⟨Code.quiet_builtin _ (by decide +kernel), codeAny_builtin F.entry_type_call ?_⟩
  rw [Around.under_plain (weight_type_call_type "set" [.ref l] []) rfl]
  have k3 := F.called_set.notType
  have k4 := F.called_set.canCreate
  have k5 := F.typeCall_set_1 (.ref l)
  repeat (any_goals (first | assumption | wp_step))
  refine codeAny_mono (code_set_led1 (.ref l) (E := E) (Q₁ := fun x t => x = .ref s.heap.objs.size ∧ t = { s with heap := s.heap.push (freshO w) }) ⟨rfl, rfl⟩) fun r t hr => ?_
  match r, hr with
  | .error e, hr => exact hr
  | .ok .next, hr => exact hr.elim
  | .ok .brk, hr => exact hr.elim
  | .ok .cont, hr => exact hr.elim
  | .ok (.ret x), hr =>
    obtain ⟨rfl, rfl⟩ := hr
    have gS : (s.heap.push (freshO w)).get? s.heap.objs.size = some (freshO w) := Heap.get?_push_size _ rfl
    have tS : Shared.TypeIs { s with heap := s.heap.push (freshO w) } (.ref s.heap.objs.size) "set" := ⟨_, gS, rfl⟩
    have k6 := F.called_set.init.lookup
    have k7 := F.called_set.init.bind (.ref s.heap.objs.size)
    repeat (any_goals (first | assumption | wp_step))
    refine codeAny_mono (codeAny_call_builtin (R := wants (fun r t => r = .none ∧ ∃ h' tk c, t = { s with heap := h', toks := tk } ∧ SetR w h' s.heap.objs.size (fun j => decide (j ∈ ns)) c ∧ (∀ b o, s.heap.get? b = some o → h'.get? b = some o)) E)
      F.called_set.init.plain F.entry_set_init (check_set_init_1 tS ?_)) fun r t hr => ?_
    · obtain ⟨⟨oc, od, odt, osl⟩, gl, hc, n, hd⟩ := hl
      simp only at hc hd
      subst hc; subst hd
      have gl' : (s.heap.push (freshO w)).get? l = some { cls := .type "list", dict := od, data := .seq its n, slots := osl } := Heap.get?_push_of_some _ gl
      have k8 := F.sub_list_set
      have k9 := F.sub_list_frozenset
      have k10 : (Value.type "list" == Value.type "dict") = false := by decide
      have il : (s.heap.push (freshO w)).IsList l its := ⟨_, gl', rfl, n, rfl⟩
      unfold Builtin.«set.__init__» noKeywords Builtin.Frozenset.updateFrom
      generalize keep : pyIter = it
      wp_walk
      subst keep
      refine wpAny_pyIter_list il (wpAny_bind (wpAny_runValue ?_))
      have lt : l < s.heap.objs.size := Heap.lt_size gl
      have hh3 : A.in1.in1.in1.handled = none := by simp [hh]
      have sz : (s.heap.push (freshO w)).objs.size = s.heap.objs.size + 1 := Heap.size_push ..
      have ne1 : l ≠ (s.heap.push (freshO w)).objs.size := by
        rw [sz]
        exact Nat.ne_of_lt (Nat.lt_succ_of_lt lt)
      have ne2 : s.heap.objs.size ∉ [(s.heap.push (freshO w)).objs.size, l] := by
        rw [sz]
        simp only [List.mem_cons, List.not_mem_nil, or_false, not_or]
        exact ⟨Nat.ne_of_lt (Nat.lt_succ_self _), Nat.ne_of_gt lt⟩
      have val : ∀ (i : Nat) (v : Value), its[i]? = some v → ∃ k t, ns[i]? = some k ∧ v = .int k t := fun i v hv => by
        have hi : i < ns.length := by rw [← len]; exact (Array.getElem?_eq_some_iff.mp hv).1
        obtain ⟨t, e⟩ := IntsAre.int_at hit i v (by rw [Array.getElem?_toList]; exact hv)
        exact ⟨ns.getD i 0, t, by rw [List.getD, List.getElem?_eq_getElem hi]; rfl, e⟩
      refine set_update_ints ((Walks.list hh3 _ l ne1 its).toS) s.heap.objs.size ne2 ns len hb val (its.size - 0) 0 _ (by omega) (Nat.zero_le _) ⟨⟨_, Heap.get?_push_size _ rfl, rfl, rfl⟩, il.push _⟩ ⟨0, Nat.le_refl 0, setR_new_at (Heap.get?_push_of_some _ gS)⟩ ?_
      intro t c hm _ hS
      obtain ⟨h', g', d', tk', os'⟩ := t
      obtain rfl : g' = s.gens := hm.gens
      obtain rfl : d' = s.drawn := hm.drawn
      obtain rfl : os' = s.os := hm.os
      show wpAny _ _ _ _ _ _
      refine wpAny_pure ?_
      show wpAny _ _ (ret Value.none) _ _ _
      refine wpAny_pure ⟨rfl, h', tk', c, rfl, hS, fun b o e => ?_⟩
      have lb : b < s.heap.objs.size := Heap.lt_size e
      refine hm.heap b o ?_ (Heap.get?_push_of_some _ (Heap.get?_push_of_some _ e))
      rw [sz]
      simp only [List.mem_cons, List.not_mem_nil, or_false, not_or]
      exact ⟨Nat.ne_of_lt lb, Nat.ne_of_lt (Nat.lt_succ_of_lt lb)⟩
    · match r, hr with
      | .error e, hr => exact hr
      | .ok .next, hr => exact hr.elim
      | .ok .brk, hr => exact hr.elim
      | .ok .cont, hr => exact hr.elim
      | .ok (.ret x), hr =>
        obtain ⟨rfl, h', tk, c, rfl, hS, hk⟩ := hr
        repeat (any_goals (first | assumption | wp_step))
        exact h _ _ _ hS hk
end
/-- how many a set has: that of some list without repetition -/
theorem setR_list {w : World} {h : Heap} {a : Addr} {S : Int → Bool} {n : Nat} (R : SetR w h a S n) : ∃ us : List Int, us.Nodup ∧ us.length = n ∧ ∀ k, S k = true ↔ k ∈ us := by
  obtain ⟨o, es, ep, t, ho, hex, hd, g, nd, hm, hb, hf, hn, _⟩ := R
  exact ⟨es.toList.map keyOf, nd, by rw [List.length_map, Array.length_toList, hn], hm⟩
def tSortSet (K : PySem.W.Frag) (ta : TE) : TE := fun σ H Q => ta σ H fun x H1 => ∃ (l : Addr) (ns : List Int), x = .ref l ∧ SqL K H1 l (ns.map V.int) ∧ ns.length ≤ 4000 ∧ (∀ us : List Int, us.Nodup → (∀ k ∈ us, k ∈ ns) → us.length < 64) ∧
  ∀ (us : List Int) (p : Addr), us.Pairwise (· < ·) → (∀ k, k ∈ us ↔ k ∈ ns) → H1 p = none → Q (.ref p) (upd H1 p (.lst (us.map V.int)))
theorem pe_sortSet {X : Cx} {K : PySem.W.Frag} {a : Expr} {ta : TE} {p p2 q pos : Pos} (hK : X.K = K) (hc : X.calm = true) (hg : Gl X "sorted") (hm : X.mg "sorted" = none) (hg2 : Gl X "set") (hm2 : X.mg "set" = none) (ha : PE X a ta)
    (na : starEach [a] X.env = (false, eval a X.env) :: starEach [] X.env := by rfl) : PE X (.Call (.Name "sorted" p) [.Call (.Name "set" p2) [a] [] q] [] pos) (tSortSet K ta) := by
  subst hK
  refine ⟨fun pins s σ H Q I h => Call_ (ld_blt I hg hm (by decide +kernel : bootBuiltins "sorted" = some (.builtin "sorted")) ?_)⟩
  refine callWith_builtin1 (args_cons (Call_ (ld_blt I hg2 hm2 PyProof.Rows.boot_set ?_)) rfl) rfl rfl
  refine callWith_type1 (args_cons (thn (ha.run pins s σ H _ I h) fun v s1 ⟨x, H1, I1, r1, q1⟩ => args_nil ?_) na) na rfl
  obtain ⟨l, ns, rfl, hq, hl, few, q1⟩ := q1
  cases r1
  obtain ⟨its, r, pl, hz⟩ := I1.list hq
  refine call_set_listR ns (I1.ok.hd hc) pl.isList (by simpa using RZ.intsAre_vals r) (by unfold scanBound; omega) fun h' tk c hS hk => args_nil ?_
  obtain ⟨us, u1, u2, u3⟩ := setR_list hS
  have hc64 : c < 64 := by
    rw [← u2]
    exact few us u1 fun k hk => of_decide_eq_true ((u3 k).mpr hk)
  have I2 : Inv X pins σ H1 { s1 with heap := h', toks := tk } := I1.kept hk
  have hS2 : SetR X.w ({ s1 with heap := h', toks := tk } : Shared).heap s1.heap.objs.size (fun j => decide (j ∈ ns)) c := hS
  generalize ({ s1 with heap := h', toks := tk } : Shared) = s2 at I2 hS2 ⊢
  refine L2.sorted_set hS2 (I2.ok.hd hc) hc64 fun t o out cc vs k g os ho hg' hi hs hmm hl' => ?_
  have fewv : vs.length ≤ sizeLine := by rw [sizeLine_eq]; omega
  have hn : H1 o = none := I2.hok.fresh ho
  have J : Inv X pins σ (upd H1 o (.lst (vs.map V.int))) { s2 with heap := t.heap, gens := t.gens, drawn := t.drawn, toks := t.toks } :=
    I2.call (ch := []) (Un.laid k ho hn) (I2.hok.laid k ho ⟨by rw [List.length_map]; exact fewv, out.toList, cc, vals_of_ints hi, hg'⟩) (by rw [g]; exact I2.bare) (fun _ z => nomatch z)
  have e : t = { s2 with heap := t.heap, gens := t.gens, drawn := t.drawn, toks := t.toks } := by
    cases t
    cases s2
    cases os
    rfl
  rw [e]
  exact ⟨.ref o, _, J, rfl, q1 vs o hs (fun k => by rw [hmm k, decide_eq_true_eq]) hn⟩
end XP
/-! ## sorted downwards; list.count; extend; comprehensions of two fors; ranges by steps; tuples that are walked -/
namespace XP
open PySem PySem.Spec PyProof.Rows L2 Evl
/-- downwards -/
def dsc (l : List Int) : List Int := l.mergeSort fun a b => decide (b ≤ a)
theorem dsc_perm (l : List Int) : (dsc l).Perm l := List.mergeSort_perm _ _
theorem dsc_desc (l : List Int) : (dsc l).Pairwise fun a b => b ≤ a := by
  have := List.pairwise_mergeSort (le := fun a b : Int => decide (b ≤ a)) (fun a b c h1 h2 => by simp at *; omega) (fun a b => by simp; omega) l
  exact this.imp fun h => of_decide_eq_true h
theorem desc_unique {a b : List Int} (h : a.Perm b) (ha : a.Pairwise fun x y => y ≤ x) (hb : b.Pairwise fun x y => y ≤ x) : a = b :=
  h.eq_of_pairwise (le := fun x y => y ≤ x) (fun x y _ _ h1 h2 => by omega) ha hb
theorem dsc_eq {a l : List Int} (h : a.Perm l) (ha : a.Pairwise fun x y => y ≤ x) : a = dsc l := desc_unique (h.trans (dsc_perm l).symm) ha (dsc_desc l)
theorem asc_unique {a b : List Int} (h : a.Perm b) (ha : a.Pairwise fun x y => x ≤ y) (hb : b.Pairwise fun x y => x ≤ y) : a = b :=
  h.eq_of_pairwise (le := fun x y => x ≤ y) (fun x y _ _ h1 h2 => by omega) ha hb
section
variable {X : Cx} {K : PySem.W.Frag}
theorem lcountK (h : X.K = K) : MtR X "list.count" (rCntI K) := h ▸ mt_lcount
theorem sortedRK {b : Bool} (h : X.K = K) : CallRK X (.builtin "sorted") [Str.ofString "reverse"] (rSortedKw K b [.bl b]) := h ▸ cr_sortedRev
theorem castBM {T : String} {r : V → List V → Hp → VK → Prop} {to : TE} {t : TA} {e : Expr} (h : X.K = K) (p : PE X e (tBM X.K T r to t)) : PE X e (tBM K T r to t) := h ▸ p
theorem pi_tupK {tg l : Expr} {tl : TE} (h : X.K = K) (hl : PE X l tl) : PI X tg l (iTup K tl) := h ▸ pi_tup hl
end
section
variable {K : PySem.W.Frag} {σ : L2.St} {H : Hp} {ta tb te tl tl2 : TE} {t : TT} {tr : TA} {a : Addr} {xs ns : List Int} {j k k2 : Nat} {vs vs1 : List Nat} {D : Ends} {tu tz : TS} {g : TG}
theorem ev_cntI {l : Addr} {z : Int} (ha : Ev ta σ H (.ref l)) (hl : Ll H l ns) (ht : EvA tr σ H [.int z]) : Ev (tBM K "list" (rCntI K) ta tr) σ H (.int ((ns.count z : Nat) : Int)) :=
  ev_bmL ha (Ll.sq hl) ht fun H1 e _ q => ⟨l, ns, z, rfl, rfl, ex_l e (Ll.sq hl), q⟩
theorem el_sortR (h : EvA tr σ H [.ref a]) (hx : SqL K H a (xs.map V.int)) : EvL (tCKw (rSortedKw K true [.bl true]) tr (tCons (tC (.bl true)) tNil)) σ H ((dsc xs).map V.int) := fun H1 e Q q =>
  h H1 e _ fun H2 e2 => ⟨a, xs, rfl, rfl, ex_l (e.trans e2) hx, fun ys p hp ho hn => by
    have ho' : ys.Pairwise fun x y => y ≤ x := by
      unfold OrdB at ho
      rw [if_pos rfl] at ho
      exact ho.imp fun h => h
    rw [dsc_eq hp ho']
    exact q p _ (fresh_back e2 hn) (e2.trans (Ex.new hn)) upd_same⟩
/-- sorted(set(xs)) -/
theorem el_sortSet {us : List Int} (h : Ev ta σ H (.ref a)) (hx : SqL K H a (xs.map V.int)) (hl : xs.length ≤ 4000) (few : ∀ us : List Int, us.Nodup → (∀ k ∈ us, k ∈ xs) → us.length < 64) (hu : us.Pairwise (· < ·)) (hm : ∀ k, k ∈ us ↔ k ∈ xs) :
    EvL (tSortSet K ta) σ H (us.map V.int) := fun H1 e Q q =>
  h H1 e _ fun H2 e2 => ⟨a, xs, rfl, ex_l (e.trans e2) hx, hl, few, fun ws p hw hwm hn => by
    have nd : ∀ {l : List Int}, l.Pairwise (· < ·) → l.Nodup := fun h => h.imp fun h => by
      intro z
      omega
    have hp : ws.Perm us := (List.perm_ext_iff_of_nodup (nd hw) (nd hu)).mpr fun z => by rw [hwm, hm]
    rw [asc_unique hp (hw.imp fun h => by omega) (hu.imp fun h => by omega)]
    exact q p _ (fresh_back e2 hn) (e2.trans (Ex.new hn)) upd_same⟩
theorem s_ext {l : Addr} {zs ws : List V} (ha : Ev ta σ H (.ref l)) (hl : H l = some (.lst zs)) (h : EvL te σ H ws) (hz : zs.length + ws.length ≤ 100000) (k : ∀ H1, Ex H H1 → D.nx σ (upd H1 l (.lst (zs ++ ws)))) : tDrop (tBM K "list" rExtend ta (tCons te tNil)) D σ H :=
  ha H (Ex.refl H) _ fun H1 e1 => ⟨.inl ⟨rfl, zs, sq_of (e1 l _ hl)⟩, h H1 e1 _ fun p H2 _ e2 hp => ⟨l, p, zs, ws, rfl, rfl, (e1.trans e2) l _ hl, hp, sz_of hz, k H2 (e1.trans e2)⟩⟩
theorem s_forR3 {i0 n0 c0 : Int} {m : Nat} (h : EvA tr σ H [.int i0, .int n0, .int c0]) (hr : RgC i0 n0 c0 m) (Pv : Nat → L2.St → Hp → Prop) (h0 : ∀ H1, Ex H H1 → Pv 0 σ H1)
    (hs : ∀ (i : Nat) σ' H', i < m → Pv i σ' H' → tu { D with nx := Pv (i + 1), ct := Pv (i + 1), bk := D.nx } (σ'.set j (some (.int (i0 + (i : Nat) * c0)))) H') (hd : ∀ σ' H', Pv m σ' H' → D.nx σ' H') : tFor (iRng3 tr) (gName j) tu D σ H :=
  h H (Ex.refl H) _ fun H1 e => ⟨i0, n0, c0, m, rfl, hr, for_rangeC Pv (h0 H1 e) (fun i σ' H' hi p => hs i σ' H' hi p) hd⟩
theorem q_forR3 {i0 n0 c0 : Int} {m : Nat} (h : EvA tr σ H [.int i0, .int n0, .int c0]) (hr : RgC i0 n0 c0 m) (Pv : Nat → L2.St → Hp → Prop) (h0 : ∀ H1, Ex H H1 → Pv 0 σ H1)
    (hs : ∀ (i : Nat) σ' H', i < m → Pv i σ' H' → tu { D with nx := Pv (i + 1), ct := Pv (i + 1), bk := tz D } (σ'.set j (some (.int (i0 + (i : Nat) * c0)))) H') (hd : ∀ σ' H', Pv m σ' H' → tz D σ' H') : tSeq (tFor (iRng3 tr) (gName j) tu) tz D σ H :=
  s_forR3 (D := { D with nx := tz D }) h hr Pv h0 hs hd
/-- over a tuple of which something is known -/
theorem q_forTP {P : V → Hp → Prop} (h : EvP tl σ H P) (hk : ∀ v H1, Ex H H1 → P v H1 → ∃ (p : Addr) (zs : List V) (Pv : Nat → L2.St → Hp → Prop), v = .ref p ∧ H1 p = some (.tup zs) ∧ Pv 0 σ H1 ∧ (∀ i σ' H', i ≤ zs.length → Pv i σ' H' → SqT K H' p zs) ∧
    (∀ i x σ' H', zs[i]? = some x → Pv i σ' H' → g x σ' H' fun σ2 H2 => tu { D with nx := Pv (i + 1), ct := Pv (i + 1), bk := tz D } σ2 H2) ∧ ∀ σ' H', Pv zs.length σ' H' → tz D σ' H') : tSeq (tFor (iTup K tl) g tu) tz D σ H :=
  h H (Ex.refl H) _ fun v H1 e p => by
    obtain ⟨a, zs, Pv, rfl, hz, h0, hl, hs, hd⟩ := hk v H1 e p
    exact ⟨a, rfl, ⟨zs, st_of hz⟩, for_tup (D := { D with nx := tz D }) Pv h0 hl hs hd⟩
/-- [.. for x in a new list for y in a new list] -/
theorem el_lc2I (F : Int → List Int) (G : Int → Int → Int) (h : EvL tl σ H (ns.map V.int)) (hlen : (ns.flatMap fun z => (F z).map (G z)).length ≤ 40000) (hw : ∀ x, wipe ((wipe σ vs).set k (some x)) vs = wipe σ vs)
    (hw1 : ∀ x y, wipe ((wipe ((wipe σ vs).set k (some x)) vs1).set k2 (some y)) vs1 = wipe ((wipe σ vs).set k (some x)) vs1)
    (h2 : ∀ (z : Int) H1, Ex H H1 → z ∈ ns → EvL tl2 ((wipe σ vs).set k (some (.int z))) H1 ((F z).map V.int))
    (he : ∀ (z y : Int) H1, Ex H H1 → z ∈ ns → y ∈ F z → Ev te ((wipe ((wipe σ vs).set k (some (.int z))) vs1).set k2 (some (.int y))) H1 (.int (G z y))) :
    EvL (tLc2 (iList K tl) (gName k) tYes (iList K tl2) (gName k2) tYes te vs vs1) σ H ((ns.flatMap fun z => (F z).map (G z)).map V.int) := fun H0 e Q q =>
  h H0 e _ fun a H1 _ e1 hx => by
    have e01 := e.trans e1
    have part : ∀ (i : Nat) (z : Int) (l : List Int), ns[i]? = some z → l.length ≤ (F z).length → ((ns.take i).flatMap fun z => (F z).map (G z)).length + l.length ≤ 40000 := fun i z l hz hl => by
      have hi := lt_of_get hz
      have ed : ns = ns.take i ++ (z :: ns.drop (i + 1)) := by rw [← drop_one hz, List.take_append_drop]
      rw [ed, List.flatMap_append, List.length_append, List.flatMap_cons, List.length_append, List.length_map] at hlen
      omega
    refine ⟨a, rfl, ⟨ns.map V.int, sq_of hx⟩, fun Dl hD => ⟨fun i m H' => m = ns.length - i ∧ i ≤ ns.length ∧ Ex H1 H' ∧ H' Dl = some (.lst (((ns.take i).flatMap fun z => (F z).map (G z)).map V.int)), ⟨ns.length, rfl, Nat.zero_le _, Ex.new hD, upd_same⟩, ?_⟩⟩
    rintro i m H' ⟨rfl, hi, eH, hDl⟩
    by_cases hlt : i < ns.length
    · have hz : ns[i]? = some ns[i] := List.getElem?_eq_getElem hlt
      generalize ns[i] = z at hz
      have hg : (ns.map V.int)[i]? = some (.int z) := by rw [List.getElem?_map, hz]; rfl
      have hzm := List.mem_of_getElem? hz
      refine .inr ⟨⟨ns.map V.int, .int z, sq_of (eH _ _ hx), hg⟩, fun H' => Ex H1 H' ∧ H' Dl = some (.lst (((ns.take (i + 1)).flatMap fun z => (F z).map (G z)).map V.int)), fun H' p' => ⟨ns.length - (i + 1), by omega, rfl, hlt, p'⟩, fun x H2 y => ?_⟩
      obtain ⟨rfl, hy⟩ := y
      have ex : x = .int z := by
        have := hy _ (sq_of (eH _ _ hx))
        rw [hg] at this
        exact (Option.some.inj this).symm
      subst ex
      refine ⟨hw _, et_yes H2 (Ex.refl H2) _ fun H3 e3 => ?_⟩
      rw [if_pos rfl]
      have e13 := eH.trans e3
      refine h2 z H3 (e01.trans e13) hzm H3 (Ex.refl H3) _ fun a2 H4 ha2 e4 hx2 => ⟨a2, rfl, ⟨_, sq_of hx2⟩, fun j k H' => k = (F z).length - j ∧ j ≤ (F z).length ∧ Ex H1 H' ∧ H' a2 = some (.lst ((F z).map V.int)) ∧ H' Dl = some (.lst (((ns.take i).flatMap fun z => (F z).map (G z)).map V.int ++ (((F z).take j).map (G z)).map V.int)), ⟨(F z).length, rfl, Nat.zero_le _, e13.trans e4, hx2, ?_⟩, ?_⟩
      · rw [(e3.trans e4) _ _ hDl, List.take_zero]
        simp
      · have nDa : a2 ≠ Dl := fun w => by
          have := e3 _ _ hDl
          rw [← w, ha2] at this
          cases this
        rintro j k' H5 ⟨rfl, hj, eH5, ha5, hD5⟩
        by_cases hlt2 : j < (F z).length
        · have hy2 : (F z)[j]? = some (F z)[j] := List.getElem?_eq_getElem hlt2
          generalize (F z)[j] = y at hy2
          have hg2 : ((F z).map V.int)[j]? = some (.int y) := by rw [List.getElem?_map, hy2]; rfl
          refine .inr ⟨⟨(F z).map V.int, .int y, sq_of ha5, hg2⟩, fun H' => Ex H1 H' ∧ H' a2 = some (.lst ((F z).map V.int)) ∧ H' Dl = some (.lst (((ns.take i).flatMap fun z => (F z).map (G z)).map V.int ++ (((F z).take (j + 1)).map (G z)).map V.int)), fun H' p' => ⟨(F z).length - (j + 1), by omega, rfl, hlt2, p'⟩, fun x H6 yy => ?_⟩
          obtain ⟨rfl, hyy⟩ := yy
          have ex : x = .int y := by
            have := hyy _ (sq_of ha5)
            rw [hg2] at this
            exact (Option.some.inj this).symm
          subst ex
          refine ⟨hw1 _ _, et_yes H6 (Ex.refl H6) _ fun H7 e7 => ?_⟩
          rw [if_pos rfl]
          refine he z y H7 (e01.trans (eH5.trans e7)) hzm (List.mem_of_getElem? hy2) H7 (Ex.refl H7) _ fun H8 e8 => ⟨_, (e7.trans e8) _ _ hD5, sz_lt ?_, ((eH5.trans e7).trans e8).mut hD, ?_, ?_⟩
          · have := part i z ((F z).take j) hz (by rw [List.length_take]; omega)
            rw [List.length_append, List.length_map, List.length_map, List.length_map]
            omega
          · rw [upd_ne nDa]
            exact (e7.trans e8) _ _ ha5
          · rw [upd_same, take_one hy2, List.map_append, List.map_append, List.append_assoc]
            rfl
        · obtain rfl : j = (F z).length := by omega
          refine .inl ⟨⟨_, sq_of ha5, by rw [List.length_map]; exact Nat.le_refl _⟩, eH5, ?_⟩
          rw [hD5, List.take_length, take_one hz, List.flatMap_append, List.map_append]
          simp
    · obtain rfl : i = ns.length := by omega
      refine .inl ⟨⟨_, sq_of (eH _ _ hx), by rw [List.length_map]; exact Nat.le_refl _⟩, ?_⟩
      rw [List.take_length] at hDl
      exact q Dl H' (fresh_back e1 hD) (e1.trans eH) hDl
end
/-! few unlike parts -/
theorem four_sum : ∀ {l : List Int}, (∀ x ∈ l, 1 ≤ x) → (4 : Int) * (l.filter fun z => decide (4 ≤ z)).length ≤ l.sum
  | [], _ => by simp
  | x :: r, h => by
    have ih := four_sum (l := r) fun y hy => h y (List.mem_cons_of_mem _ hy)
    have h1 := h x List.mem_cons_self
    rw [List.sum_cons]
    by_cases c : 4 ≤ x
    · rw [List.filter_cons, if_pos (decide_eq_true c), List.length_cons]
      omega
    · rw [List.filter_cons, if_neg (by simpa using c)]
      omega
theorem len_split (p : Int → Bool) : ∀ l : List Int, l.length = (l.filter p).length + (l.filter fun z => !p z).length
  | [] => rfl
  | x :: r => by
    have ih := len_split p r
    cases h : p x with
    | true =>
      rw [List.filter_cons, if_pos h, List.filter_cons, if_neg (by simp [h]), List.length_cons, List.length_cons]
      omega
    | false =>
      rw [List.filter_cons, if_neg (by simp [h]), List.filter_cons, if_pos (by simp [h]), List.length_cons, List.length_cons]
      omega
theorem few_of {l : List Int} (h : ∀ x ∈ l, 1 ≤ x) (hs : l.sum ≤ 200) (us : List Int) (hn : us.Nodup) (hm : ∀ k ∈ us, k ∈ l) : us.length < 64 := by
  have h1 := four_sum h
  have e : us.length = (us.filter fun z => decide (4 ≤ z)).length + (us.filter fun z => !decide (4 ≤ z)).length := len_split (fun z => decide (4 ≤ z)) us
  have h2 : (us.filter fun z => decide (4 ≤ z)).length ≤ (l.filter fun z => decide (4 ≤ z)).length := (hn.sublist List.filter_sublist).length_le_of_subset fun z hz => by
    obtain ⟨k1, k2⟩ := List.mem_filter.mp hz
    exact List.mem_filter.mpr ⟨hm z k1, k2⟩
  have h3 : (us.filter fun z => !decide (4 ≤ z)).length ≤ ([1, 2, 3] : List Int).length := (hn.sublist List.filter_sublist).length_le_of_subset fun z hz => by
    obtain ⟨k1, k2⟩ := List.mem_filter.mp hz
    have := h z (hm z k1)
    simp at k2
    simp
    omega
  simp only [List.length_cons, List.length_nil] at h3
  omega
end XP
/-! ## Lists of lists, further: what a call hands back, items of items -/
namespace XP
open PySem PySem.Spec PyProof.Rows L2 Evl
/-- a list of lists of numbers, new -/
def RetLL (L : List (List Int)) (H : Hp) (Q : VK) : Prop := ∀ (p : Addr) (zs : List V) (H2 : Hp), H p = none → Ex H H2 → H2 p = some (.lst zs) → Lls H2 zs L → Q (.ref p) H2
def IsLL (L : List (List Int)) (v : V) (H : Hp) : Prop := ∃ (p : Addr) (zs : List V), v = .ref p ∧ H p = some (.lst zs) ∧ Lls H zs L
theorem IsLL.mono {L : List (List Int)} : Mono (IsLL L) := fun _ _ _ e ⟨p, zs, h1, h2, h3⟩ => ⟨p, zs, h1, e _ _ h2, h3.mono e⟩
def IsL (l : List Int) (v : V) (H : Hp) : Prop := ∃ p : Addr, v = .ref p ∧ Ll H p l
theorem IsL.mono {l : List Int} : Mono (IsL l) := fun _ _ _ e ⟨p, h1, h2⟩ => ⟨p, h1, e _ _ h2⟩
section
variable {K : PySem.W.Frag} {σ : L2.St} {H : Hp} {ta tb te : TE} {L : List (List Int)} {l : List Int}
/-- rows[i] -/
theorem evP_row {i : Nat} (h : EvP ta σ H (IsLL L)) (hb : ∀ H1, Ex H H1 → Ev tb σ H1 (.int (i : Int))) (hi : L[i]? = some l) : EvP (tOp (rIxL K) ta tb) σ H (IsL l) :=
  evP_ixP (P := IsLL L) h (fun v H1 e _ => hb H1 e) (fun v H1 H2 e r => IsL.mono v H1 H2 e r) fun v H1 e hv => by
    obtain ⟨p, zs, rfl, hz, hL⟩ := hv
    obtain ⟨q, h1, h2⟩ := hL.get hi
    exact ⟨p, zs, .ref q, rfl, hz, atI_nat h1, q, rfl, h2⟩
/-- row[i] of a row that is known -/
theorem ev_item {i : Nat} {x : Int} (h : EvP ta σ H (IsL l)) (hb : ∀ H1, Ex H H1 → Ev tb σ H1 (.int (i : Int))) (hi : l[i]? = some x) : Ev (tOp (rIxL K) ta tb) σ H (.int x) :=
  ev_opP1 h (fun w H1 e _ => hb H1 e) fun w H1 H2 e hw e2 => by
    obtain ⟨p, rfl, hp⟩ := hw
    exact rv_ixL (Ll.sq (e2 _ _ hp)) (atI_nat (by rw [List.getElem?_map, hi]; rfl))
theorem evP_LL {p : Addr} {zs : List V} {i : Nat} (hσ : σ[i]? = some (some (.ref p))) (hp : H p = some (.lst zs)) (hL : Lls H zs L) : EvP (tVar i) σ H (IsLL L) := fun H1 e Q q => ⟨.ref p, hσ, q _ H1 (Ex.refl H1) ⟨p, zs, rfl, e _ _ hp, hL.mono e⟩⟩
theorem evP_callLL {sp : Sp} {E : XK} {tr : TA} {vs : List V} (h : EvA tr σ H vs) (hs : ∀ H1, Ex H H1 → ∀ Q : VK, RetLL L H1 Q → ∀ E : XK, sp (vs ++ []) H1 Q E) : EvP (tCall sp [] E tr) σ H (IsLL L) :=
  evP_call h fun H1 e Q q E => hs H1 e Q (fun p zs H2 _ e2 hp hL => q _ _ e2 ⟨p, zs, rfl, hp, hL⟩) E
/-- list(e) of a list that is known -/
theorem el_callB1 (h : EvP te σ H (IsL l)) : EvL (tCB (rListK K) (tCons te tNil)) σ H (l.map V.int) := fun H1 e Q q =>
  h H1 e _ fun v H2 e2 hv => by
    obtain ⟨p, rfl, hp⟩ := hv
    exact ⟨p, _, rfl, .inl (Ll.sq hp), fun o ho => q o _ (fresh_back e2 ho) (e2.trans (Ex.new ho)) upd_same⟩
theorem s_augL' {D : Ends} {lo : Addr} {ns : List Int} {f : Int → Int → Int} {k : Nat} {a b : Int} (ho : Ev ta σ H (.ref lo)) (hi : Ev tb σ H (.int (k : Int))) (he : Ev te σ H (.int b)) (hl : Ll H lo ns) (hk : ns[k]? = some a)
    (g : ∀ H1, Ex H H1 → D.nx σ (upd H1 lo (.lst ((ns.set k (f a b)).map V.int)))) : tAugL K ta tb te f D σ H :=
  ho H (Ex.refl H) _ fun H1 e1 => hi H1 e1 _ fun H2 e2 => ⟨lo, ns.map V.int, k, .int a, rfl, rfl, Ll.sq ((e1.trans e2) _ _ hl), by omega, by rw [Int.toNat_natCast, List.getElem?_map, hk]; rfl,
    he H2 (e1.trans e2) _ fun H3 e3 => ⟨a, b, rfl, rfl, lo, ns.map V.int, k, k, rfl, rfl, (((e1.trans e2).trans e3) _ _ hl), Evl.ixN_nat (by rw [List.length_map]; exact (List.getElem?_eq_some_iff.mp hk).1), by
      rw [← List.map_set] at *
      exact g H3 ((e1.trans e2).trans e3)⟩⟩
theorem ne_fresh0' {p q : Addr} {o : HO} (h : H p = some o) (hq : H q = none) : p ≠ q := fun z => by
  rw [z, hq] at h
  cases h
theorem rc_int {b : Bool} : RC (fun xs H Q => (∃ i, xs = [.int i] ∧ Q (.int i) H) ∨ ∃ k, xs = [.bl k] ∧ Q (.int (if k then 1 else 0)) H) [.bl b] H (.int (if b then 1 else 0)) := fun H1 _ _ q => .inr ⟨b, rfl, q H1 (Ex.refl H1)⟩
end
end XP
/-! ## Lists of numbers by their order: x < y, and sorted of a list of them -/
namespace XP
open PySem PySem.Spec PyProof.Rows L2 Evl
theorem lt_rows (xs ys : List Int) : PySem.W.dataLt (.list (xs.map .int)) (.list (ys.map .int)) = decide (xs < ys) := by
  have h := congrFun (congrFun (PySem.W.dataLe_rows (β := List Int) id) ys) xs
  have h' : (!PySem.W.dataLt (.list (xs.map .int)) (.list (ys.map .int))) = decide (ys ≤ xs) := h
  have h2 : PySem.W.dataLt (.list (xs.map .int)) (.list (ys.map .int)) = !decide (ys ≤ xs) := by rw [← h', Bool.not_not]
  rw [h2, Bool.eq_iff_iff]
  simp
theorem depth_ints (xs : List Int) : (PyData.list (xs.map .int)).depth = 1 := by
  simp only [PyData.depth, PySem.W.ke_depthAll]
theorem alike_rows (xs ys : List Int) : PySem.W.alike (.list (xs.map .int)) (.list (ys.map .int)) = true := by
  rw [PySem.W.alike]
  exact PySem.W.alike_ints xs ys
def rLtL (K : PySem.W.Frag) : R2 := fun x y H Q => ∃ (a b : Addr) (xs ys : List Int), x = .ref a ∧ y = .ref b ∧ SqL K H a (xs.map V.int) ∧ SqL K H b (ys.map V.int) ∧ Q (.bl (decide (xs < ys))) H
section
variable {X : Cx} {K : PySem.W.Frag}
theorem op_ltL (hK : X.K = K) (hu : X.A.units + 64 < cLine) : OpR X (compareOp .Lt) (rLtL K) := by
  subst hK
  intro pins s σ H x y v u Q I rx ry h
  obtain ⟨a, b, xs, ys, rfl, rfl, h1, h2, q⟩ := h
  obtain ⟨as, r1⟩ := Dp.reads I _ _ v (dp_ints h1) rx
  obtain ⟨bs, r2⟩ := Dp.reads I _ _ u (dp_ints h2) ry
  refine PySem.W.rcLt_alike _ _ X.A s v u as bs r1 r2 (alike_rows xs ys) (fun z => nomatch z) (by rw [depth_ints, depth_ints]; show X.A.units + min 1 1 < cLine; omega) X.prog X.w X.xe _ ?_
  rw [lt_rows]
  exact ⟨.bl _, H, I, rfl, q⟩
def rSortLL (K : PySem.W.Frag) : List V → Hp → VK → Prop := fun vs H Q => ∃ (a : Addr) (zs : List V) (xss : List (List Int)), vs = [.ref a] ∧ SqL K H a zs ∧ Lls H zs xss ∧ ∀ (ws : List V) (yss : List (List Int)) (p : Addr), Lls H ws yss → yss.Perm xss → yss.Pairwise (· ≤ ·) → H p = none → Q (.ref p) (upd H p (.lst ws))
/-- the places, told with what stands there -/
theorem Lls.pairs {H : Hp} : ∀ {zs : List V} {xss : List (List Int)}, Lls H zs xss → ∃ bs : List (Addr × List Int), zs = bs.map (fun b => V.ref b.1) ∧ xss = bs.map (·.2) ∧ ∀ b ∈ bs, Ll H b.1 b.2
  | _, _, .nil => ⟨[], rfl, rfl, fun b hb => by cases hb⟩
  | _, _, .cons (p := p) (xs := xs) h r => by
    obtain ⟨bs, e1, e2, e3⟩ := r.pairs
    refine ⟨(p, xs) :: bs, by rw [e1]; rfl, by rw [e2]; rfl, fun b hb => ?_⟩
    rcases List.mem_cons.mp hb with e | hb
    · rw [e]
      exact h
    · exact e3 b hb
theorem Lls.of {H : Hp} : ∀ {bs : List (Addr × List Int)}, (∀ b ∈ bs, Ll H b.1 b.2) → Lls H (bs.map fun b => V.ref b.1) (bs.map (·.2))
  | [], _ => .nil
  | b :: r, h => .cons (h b List.mem_cons_self) (Lls.of fun c hc => h c (List.mem_cons_of_mem _ hc))
theorem vals_pairs : ∀ {bs : List (Addr × List Int)} {us : List Value}, Vals (bs.map fun b => V.ref b.1) us → PySem.W.EachIs (fun v (b : Addr × List Int) => v = Value.ref b.1) us bs
  | [], _, .nil => .nil
  | b :: r, _, .cons h t => by
    have h' : _ = Value.ref b.1 := h
    exact .cons h' (vals_pairs t)
theorem pairs_vals : ∀ {bs : List (Addr × List Int)} {us : List Value}, PySem.W.EachIs (fun v (b : Addr × List Int) => v = Value.ref b.1) us bs → Vals (bs.map fun b => V.ref b.1) us
  | [], _, .nil => .nil
  | _ :: _, _, .cons h t => .cons h (pairs_vals t)
theorem cr_sortLL (hK : X.K = K) (hu : X.A.units + 64 < cLine) : CallR X (.builtin "sorted") (rSortLL K) := by
  subst hK
  intro pins s σ H vs us Q I r h
  obtain ⟨a, zs, xss, rfl, hs, hL, q⟩ := h
  obtain ⟨bs, rfl, rfl, hb⟩ := hL.pairs
  obtain ⟨its, rv, hl, hz⟩ := I.list hs
  rw [Vals.ref1 r]
  have hen : ∀ b ∈ bs, ∀ v, v = Value.ref b.1 → ∃ as, Reads s.heap v (.list (b.2.map .int)) as := fun b hm v hv => Dp.reads I _ (.ref b.1) v (dp_ints (Ll.sq (hb b hm))) hv
  have each : ∀ {bs' : List (Addr × List Int)} {us : List Value}, (∀ b ∈ bs', b ∈ bs) → PySem.W.EachIs (fun v (b : Addr × List Int) => v = Value.ref b.1) us bs' → PySem.W.EachIs (fun v (b : Addr × List Int) => ∃ as, Reads s.heap v (.list (b.2.map .int)) as) us bs' := by
    intro bs' us hsub e
    induction e with
    | nil => exact .nil
    | cons h _ ih => exact .cons (hen _ (hsub _ List.mem_cons_self) _ h) (ih fun b hb => hsub b (List.mem_cons_of_mem _ hb))
  have e1 := vals_pairs rv
  refine PySem.W.sorted_data (enc := fun b : Addr × List Int => .list (b.2.map .int)) hl.isList e1 (each (fun b h => h) e1) (PySem.W.AllAlike.of fun b b' => alike_rows _ _) (PySem.W.Sortable.others fun b => ⟨(fun z => nomatch z), fun xs z => nomatch z⟩) (by rw [List.length_map] at hz; exact hz)
    (fun b _ => by show X.A.units + 2 + (PyData.list (b.2.map .int)).depth < cLine; rw [depth_ints]; omega) fun out hlen hout => ?_
  rw [PySem.W.dataLe_rows (fun b : Addr × List Int => b.2)] at hout
  generalize hsrt : bs.mergeSort (fun p q => decide (p.2 ≤ q.2)) = srt at hout
  have pm : srt.Perm bs := by rw [← hsrt]; exact List.mergeSort_perm _ _
  have so : srt.Pairwise fun p q => p.2 ≤ q.2 := by
    rw [← hsrt]
    exact (List.pairwise_mergeSort (le := fun p q : Addr × List Int => decide (p.2 ≤ q.2)) (fun a b c h1 h2 => by
      have h1 := of_decide_eq_true h1
      have h2 := of_decide_eq_true h2
      exact decide_eq_true (List.le_trans h1 h2)) (fun a b => by
      rw [Bool.or_eq_true, decide_eq_true_eq, decide_eq_true_eq]
      exact List.le_total a.2 b.2) bs).imp fun h => of_decide_eq_true h
  obtain ⟨ep, he'⟩ := PyProof.Rows.sortedAll_at s.heap its out.toArray
  have hlw : (srt.map fun b => V.ref b.1).length ≤ sizeLine := by
    rw [List.length_map, pm.length_eq]
    rw [List.length_map] at hz
    exact hz
  exact ⟨.ref _, upd H (s.heap.objs.size + 1) (.lst (srt.map fun b => V.ref b.1)), I.laid (t' := s.toks) (fun _ _ => PyProof.Rows.sortedAll_old) (Nat.le_succ _) ⟨hlw, out, ep, pairs_vals hout, he'⟩, rfl,
    q _ _ _ (Lls.of fun b hm => hb b (pm.mem_iff.mp hm)) (pm.map (·.2)) (by rw [List.pairwise_map]; exact so) (I.hok.fresh (Nat.le_succ _))⟩
end
section
variable {K : PySem.W.Frag} {σ : L2.St} {H : Hp} {ta tb te : TE} {a b : Addr} {xs ys : List Int}
theorem rv_ltL (h1 : SqL K H a (xs.map V.int)) (h2 : SqL K H b (ys.map V.int)) : RV (rLtL K) (.ref a) (.ref b) H (.bl (decide (xs < ys))) := fun H1 e _ q => ⟨a, b, xs, ys, rfl, rfl, ex_l e h1, ex_l e h2, q H1 (Ex.refl H1)⟩
/-- sorted of a list of lists: some list of lists in order -/
theorem evP_sortLL {xss : List (List Int)} (h : EvP te σ H (IsLL xss)) : EvP (tCB (rSortLL K) (tCons te tNil)) σ H (fun v H1 => ∃ yss : List (List Int), yss.Perm xss ∧ yss.Pairwise (· ≤ ·) ∧ IsLL yss v H1) := fun H1 e Q q =>
  h H1 e _ fun v H2 e2 hv => by
    obtain ⟨p, zs, rfl, hp, hL⟩ := hv
    exact ⟨p, zs, xss, rfl, sq_of hp, hL, fun ws yss o hw hpm hs hn => q _ _ (e2.trans (Ex.new hn)) ⟨yss, hpm, hs, o, ws, rfl, upd_same, hw.mono (Ex.new hn)⟩⟩
theorem ll_unique {a b c : List (List Int)} (h1 : a.Perm c) (h2 : b.Perm c) (s1 : a.Pairwise (· ≤ ·)) (s2 : b.Pairwise (· ≤ ·)) : a = b :=
  (h1.trans h2.symm).eq_of_pairwise (le := fun x y : List Int => x ≤ y) (fun x y _ _ h1 h2 => List.le_antisymm h1 h2) s1 s2
end
end XP
/-! ## Comprehensions over lists of lists -/
namespace XP
open PySem PySem.Spec PyProof.Rows L2 Evl
section
variable {K : PySem.W.Frag} {σ : L2.St} {H : Hp} {te tl : TE} {t : TT} {k : Nat} {vs : List Nat} {xss : List (List Int)}
theorem ev_lenLL (h : EvP te σ H (IsLL xss)) : Ev (tCB (rLenK K) (tCons te tNil)) σ H (.int (xss.length : Int)) := fun H1 e Q q =>
  h H1 e _ fun v H2 e2 hv => by
    obtain ⟨p, zs, rfl, hp, hL⟩ := hv
    refine ⟨p, zs, rfl, .inl (sq_of hp), ?_⟩
    rw [hL.len]
    exact q H2 e2
theorem range_getD {α : Type} (d : α) (l : List α) : (List.range l.length).map (fun i => l.getD i d) = l := by
  refine List.ext_getElem (by simp) fun i h1 h2 => ?_
  rw [List.getElem_map, List.getElem_range]
  simp [List.getD, h2]
theorem given_pairs {α : Type} (d : α) (bs : List α) (p : α → Bool) (f : α → V) : given bs.length (fun i => p (bs.getD i d)) (fun i => f (bs.getD i d)) = (bs.filter p).map f := by
  unfold given
  have e2 : ((List.range bs.length).filter fun i => p (bs.getD i d)).map (fun i => bs.getD i d) = bs.filter p := by
    have := List.filter_map (f := fun i => bs.getD i d) (p := p) (l := List.range bs.length)
    rw [range_getD d bs] at this
    exact this.symm
  rw [← e2, List.map_map]
  rfl
/-- [row for row in rows if ..] -/
theorem evP_lcRows {p : List Int → Bool} (h : EvP tl σ H (IsLL xss)) (hz : xss.length ≤ 40000) (hw : ∀ x, wipe ((wipe σ vs).set k (some x)) vs = wipe σ vs)
    (ht : ∀ (q : Addr) (l : List Int) H1, Ex H H1 → Ll H1 q l → l ∈ xss → EvT t ((wipe σ vs).set k (some (.ref q))) H1 (p l)) (he : ∀ (q : Addr) H1, Ev te ((wipe σ vs).set k (some (.ref q))) H1 (.ref q)) :
    EvP (tLc (iList K tl) (gName k) t te vs) σ H (IsLL (xss.filter p)) := fun H0 e Q q =>
  h H0 e _ fun v H1 e1 hv => by
    obtain ⟨a, zs, rfl, ha, hL⟩ := hv
    obtain ⟨bs, rfl, rfl, hb⟩ := hL.pairs
    have e01 := e.trans e1
    rw [List.length_map] at hz
    refine ⟨a, rfl, ⟨_, sq_of ha⟩, fun Dl hD => ?_⟩
    refine lc_list (xs := bs.map fun b => V.ref b.1) (Cw H1 (fun i => p (bs.getD i (0, [])).2) (fun i => V.ref (bs.getD i (0, [])).1) Dl) ⟨hD, Ex.new hD, upd_same⟩ (fun i H' _ pp => sq_of (pp.2.1 _ _ ha)) (fun i x H' hi pp => ?_) (fun H' pp => ?_)
    · rw [List.getElem?_map] at hi
      cases hbi : bs[i]? with
      | none => rw [hbi] at hi; cases hi
      | some b =>
        rw [hbi] at hi
        cases hi
        have hbm := List.mem_of_getElem? hbi
        have eb : bs.getD i (0, []) = b := by simp [List.getD, hbi]
        have hlt := lt_of_get hbi
        refine ⟨hw _, cw_turn pp (by omega) ?_ fun _ => ?_⟩
        · show EvT t _ H1 (p (bs.getD i (0, [])).2)
          rw [eb]
          exact ht b.1 b.2 H1 e01 (hb b hbm) (List.mem_map.mpr ⟨b, hbm, rfl⟩)
        · show Ev te _ H1 (V.ref (bs.getD i (0, [])).1)
          rw [eb]
          exact he b.1 H1
    · refine q _ H' (e1.trans pp.2.1) ⟨Dl, _, rfl, pp.2.2, ?_⟩
      rw [List.length_map, given_pairs (0, []) bs (fun b => p b.2) fun b => V.ref b.1, List.filter_map]
      exact Lls.of fun b hm => pp.2.1 _ _ (hb b (List.mem_filter.mp hm).1)
/-- [f(row) for row in rows], new lists -/
theorem evP_lcCall {f : List Int → List Int} (h : EvP tl σ H (IsLL xss)) (hz : xss.length ≤ 40000) (hw : ∀ x, wipe ((wipe σ vs).set k (some x)) vs = wipe σ vs)
    (he : ∀ (q : Addr) (l : List Int) H1, Ex H H1 → Ll H1 q l → l ∈ xss → EvL te ((wipe σ vs).set k (some (.ref q))) H1 ((f l).map V.int)) :
    EvP (tLc (iList K tl) (gName k) tYes te vs) σ H (IsLL (xss.map f)) := fun H0 e Q q =>
  h H0 e _ fun v H1 e1 hv => by
    obtain ⟨a, zs, rfl, ha, hL⟩ := hv
    have hlen := hL.len
    have e01 := e.trans e1
    refine ⟨a, rfl, ⟨zs, sq_of ha⟩, fun Dl hD => ?_⟩
    refine lc_list (xs := zs) (fun i H' => Ex H1 H' ∧ ∃ ws : List V, H' Dl = some (.lst ws) ∧ Lls H' ws ((xss.take i).map f) ∧ ∀ z ∈ ws, z ≠ .ref Dl) ⟨Ex.new hD, [], upd_same, by rw [List.take_zero]; exact .nil, fun z hz => by cases hz⟩
      (fun i H' _ p => sq_of (p.1 _ _ ha)) (fun i x H' hi p => ⟨hw x, ?_⟩) (fun H' p => ?_)
    · obtain ⟨eH, ws, hDl, hLw, hn⟩ := p
      obtain ⟨qa, l, rfl, hl, hq⟩ := hL.at hi
      have hlt := lt_of_get hl
      refine et_yes H' (Ex.refl H') _ fun H3 e3 => ?_
      rw [if_pos rfl]
      refine he qa l H3 (e01.trans (eH.trans e3)) ((eH.trans e3) _ _ hq) (List.mem_of_getElem? hl) H3 (Ex.refl H3) _ fun r H4 nr e4 hr => ?_
      have hD4 := (e3.trans e4) _ _ hDl
      have hrD : r ≠ Dl := fun z => by
        have := e3 _ _ hDl
        rw [← z, nr] at this
        cases this
      have ll := hLw.len
      rw [List.length_map, List.length_take] at ll
      have hn' : ∀ z ∈ ws ++ [V.ref r], z ≠ .ref Dl := fun z hm => by
        rcases List.mem_append.mp hm with m | m
        · exact hn z m
        · rw [List.mem_singleton.mp m]
          intro e
          cases e
          exact hrD rfl
      refine ⟨ws, hD4, sz_lt (by omega), ((eH.trans e3).trans e4).mut hD, ws ++ [.ref r], upd_same, ?_, hn'⟩
      rw [take_one hl, List.map_append]
      exact ((hLw.mono (e3.trans e4)).snoc hr).upd hn'
    · obtain ⟨eH, ws, hDl, hLw, hn⟩ := p
      rw [hlen, List.take_length] at hLw
      exact q _ _ (e1.trans eH) ⟨Dl, ws, rfl, hDl, hLw⟩
end
end XP
namespace K11
open PySem PySem.Spec PyProof.Rows L2 Evl XP
def topS (i : Nat) : Stmt := PySem.Challenge.pw_stairparts_k11_whole_numbered.main.body.getD i (.Pass ⟨0, 0, 0, 0⟩)
/-- slots: 0 thing -/
abbrev s_is_number : Stmt := topS 7
theorem sc_is_number : FnScope ["thing"] ["thing"] (defScope s_is_number) := ⟨rfl, rfl, rfl, by decide +kernel, rfl, by decide +kernel, by decide +kernel⟩
/-- slots: 0 thing -/
abbrev s_check_number : Stmt := topS 8
theorem sc_check_number : FnScope ["thing"] ["thing"] (defScope s_check_number) := ⟨rfl, rfl, rfl, by decide +kernel, rfl, by decide +kernel, by decide +kernel⟩
/-- slots: 0 thing, 1 whole, 2 ahead, 3 part -/
abbrev s_is_parting : Stmt := topS 9
theorem sc_is_parting : FnScope ["thing", "whole", "ahead", "part"] ["thing"] (defScope s_is_parting) := ⟨rfl, rfl, rfl, by decide +kernel, rfl, by decide +kernel, by decide +kernel⟩
/-- slots: 0 thing -/
abbrev s_check_parting : Stmt := topS 10
theorem sc_check_parting : FnScope ["thing"] ["thing"] (defScope s_check_parting) := ⟨rfl, rfl, rfl, by decide +kernel, rfl, by decide +kernel, by decide +kernel⟩
/-- slots: 0 whole, 1 most, 2 greatest -/
abbrev s_how_many : Stmt := topS 12
theorem sc_how_many : FnScope ["whole", "most", "greatest"] ["whole", "most"] (defScope s_how_many) := ⟨rfl, rfl, rfl, by decide +kernel, rfl, by decide +kernel, by decide +kernel⟩
/-- slots: 0 parting, 1 rest, 2 rows, 3 number, 4 part -/
abbrev s_number_of : Stmt := topS 13
theorem sc_number_of : FnScope ["parting", "rest", "rows", "number", "part"] ["parting"] (defScope s_number_of) := ⟨rfl, rfl, rfl, by decide +kernel, rfl, by decide +kernel, by decide +kernel⟩
/-- slots: 0 whole, 1 number, 2 rows, 3 parting, 4 rest, 5 ahead, 6 part -/
abbrev s_parting_of : Stmt := topS 14
theorem sc_parting_of : FnScope ["whole", "number", "rows", "parting", "rest", "ahead", "part"] ["whole", "number"] (defScope s_parting_of) := ⟨rfl, rfl, rfl, by decide +kernel, rfl, by decide +kernel, by decide +kernel⟩
/-- slots: 0 thing -/
abbrev s_check_whole : Stmt := topS 15
theorem sc_check_whole : FnScope ["thing"] ["thing"] (defScope s_check_whole) := ⟨rfl, rfl, rfl, by decide +kernel, rfl, by decide +kernel, by decide +kernel⟩
/-- slots: 0 whole, 1 greatest, 2 rows, 3 most, 4 row, 5 total -/
abbrev s_count_rows : Stmt := topS 16
theorem sc_count_rows : FnScope ["whole", "greatest", "rows", "most", "row", "total"] ["whole", "greatest"] (defScope s_count_rows) := ⟨rfl, rfl, rfl, by decide +kernel, rfl, by decide +kernel, by decide +kernel⟩
/-- slots: 0 rows, 1 whole, 2 number, 3 part -/
abbrev s_first_part : Stmt := topS 17
theorem sc_first_part : FnScope ["rows", "whole", "number", "part"] ["rows", "whole", "number"] (defScope s_first_part) := ⟨rfl, rfl, rfl, by decide +kernel, rfl, by decide +kernel, by decide +kernel⟩
/-- slots: 0 _law_number_here, 1 _law_k -/
abbrev s_law_mixed : Stmt := topS 19
theorem sc_law_mixed : FnScope ["_law_number_here", "_law_k"] ["_law_number_here", "_law_k"] (defScope s_law_mixed) := ⟨rfl, rfl, rfl, by decide +kernel, rfl, by decide +kernel, by decide +kernel⟩
/-- slots: 0 _law_script, 1 _law_k -/
abbrev s_law_number : Stmt := topS 20
theorem sc_law_number : FnScope ["_law_script", "_law_k"] ["_law_script", "_law_k"] (defScope s_law_number) := ⟨rfl, rfl, rfl, by decide +kernel, rfl, by decide +kernel, by decide +kernel⟩
/-- slots: 0 _law_script, 1 _law_first, 2 _law_number_here, 3 _law_most, 4 _law_many, 5 _law_found, 6 _law_k, 7 _law_part -/
abbrev s_law_parting_by : Stmt := topS 21
theorem sc_law_parting_by : FnScope ["_law_script", "_law_first", "_law_number_here", "_law_most", "_law_many", "_law_found", "_law_k", "_law_part"] ["_law_script", "_law_first"] (defScope s_law_parting_by) := ⟨rfl, rfl, rfl, by decide +kernel, rfl, by decide +kernel, by decide +kernel⟩
/-- slots: 0 _law_whole, 1 _law_counts_here, 2 _law_most, 3 _law_row, 4 _law_left -/
abbrev s_law_counts : Stmt := topS 22
theorem sc_law_counts : FnScope ["_law_whole", "_law_counts_here", "_law_most", "_law_row", "_law_left"] ["_law_whole"] (defScope s_law_counts) := ⟨rfl, rfl, rfl, by decide +kernel, rfl, by decide +kernel, by decide +kernel⟩
/-- slots: 0 _law_found, 1 _law_due, 2 _law_one -/
abbrev s_law_is_row : Stmt := topS 23
theorem sc_law_is_row : FnScope ["_law_found", "_law_due", "_law_one"] ["_law_found", "_law_due"] (defScope s_law_is_row) := ⟨rfl, rfl, rfl, by decide +kernel, rfl, by decide +kernel, by decide +kernel⟩
/-- slots: 0 _law_thing (cell), 1 _law_k, 2 _law_one -/
abbrev s_law_is_stair : Stmt := topS 24
theorem sc_law_is_stair : FnScope ["_law_thing", "_law_k", "_law_one"] ["_law_thing"] (defScope s_law_is_stair) := ⟨rfl, rfl, rfl, by decide +kernel, rfl, by decide +kernel, by decide +kernel⟩
/-- slots: 0 _law_error, 1 _law_names -/
abbrev s_law_name : Stmt := topS 25
theorem sc_law_name : FnScope ["_law_error", "_law_names"] ["_law_error"] (defScope s_law_name) := ⟨rfl, rfl, rfl, by decide +kernel, rfl, by decide +kernel, by decide +kernel⟩
/-- slots: 0 _law_parting, 1 _law_most, 2 _law_found, 3 _law_part, 4 _law_left -/
abbrev s_law_to : Stmt := topS 26
theorem sc_law_to : FnScope ["_law_parting", "_law_most", "_law_found", "_law_part", "_law_left"] ["_law_parting", "_law_most"] (defScope s_law_to) := ⟨rfl, rfl, rfl, by decide +kernel, rfl, by decide +kernel, by decide +kernel⟩
/-- slots: 0 _law_parting, 1 _law_counts_here, 2 _law_found, 3 _law_left, 4 _law_part, 5 _law_lesser -/
abbrev s_law_ahead : Stmt := topS 27
theorem sc_law_ahead : FnScope ["_law_parting", "_law_counts_here", "_law_found", "_law_left", "_law_part", "_law_lesser"] ["_law_parting"] (defScope s_law_ahead) := ⟨rfl, rfl, rfl, by decide +kernel, rfl, by decide +kernel, by decide +kernel⟩
/-- slots: 0 _law_whole, 1 _law_number_here, 2 _law_caught, 3 _law_found, 4 _law_error -/
abbrev s_law_told : Stmt := topS 28
theorem sc_law_told : FnScope ["_law_whole", "_law_number_here", "_law_caught", "_law_found", "_law_error"] ["_law_whole", "_law_number_here"] (defScope s_law_told) := ⟨rfl, rfl, rfl, by decide +kernel, rfl, by decide +kernel, by decide +kernel⟩
/-- slots: 0 _law_whole, 1 _law_last, 2 _law_number_here, 3 _law_found -/
abbrev s_law_order_right : Stmt := topS 29
theorem sc_law_order_right : FnScope ["_law_whole", "_law_last", "_law_number_here", "_law_found"] ["_law_whole"] (defScope s_law_order_right) := ⟨rfl, rfl, rfl, by decide +kernel, rfl, by decide +kernel, by decide +kernel⟩
/-- slots: 0 _law_script, 1 _law_number_here, 2 _law_parting, 3 _law_handed, 4 _law_found, 5 _law_told_here, 6 _law_whole, 7 _law_many, 8 _law_at, 9 _law_one -/
abbrev s_law : Stmt := topS 30
theorem sc_law : FnScope ["_law_script", "_law_number_here", "_law_parting", "_law_handed", "_law_found", "_law_told_here", "_law_whole", "_law_many", "_law_at", "_law_one"] ["_law_script"] (defScope s_law) := ⟨rfl, rfl, rfl, by decide +kernel, rfl, by decide +kernel, by decide +kernel⟩
structure Tx (K : PySem.W.Frag) (mg : Str → Option Value) where
  a_is_number : Addr
  d_is_number : FuncData
  F_is_number : Fun K "is_number" "is_number" s_is_number a_is_number d_is_number
  b_is_number : Binds K d_is_number ["thing"] []
  g_is_number : mg "is_number" = some (.ref a_is_number)
  a_check_number : Addr
  d_check_number : FuncData
  F_check_number : Fun K "check_number" "check_number" s_check_number a_check_number d_check_number
  b_check_number : Binds K d_check_number ["thing"] []
  g_check_number : mg "check_number" = some (.ref a_check_number)
  a_is_parting : Addr
  d_is_parting : FuncData
  F_is_parting : Fun K "is_parting" "is_parting" s_is_parting a_is_parting d_is_parting
  b_is_parting : Binds K d_is_parting ["thing"] []
  g_is_parting : mg "is_parting" = some (.ref a_is_parting)
  a_check_parting : Addr
  d_check_parting : FuncData
  F_check_parting : Fun K "check_parting" "check_parting" s_check_parting a_check_parting d_check_parting
  b_check_parting : Binds K d_check_parting ["thing"] []
  g_check_parting : mg "check_parting" = some (.ref a_check_parting)
  a_how_many : Addr
  d_how_many : FuncData
  F_how_many : FunD K "how_many" "how_many" (defArgs s_how_many) (defBody s_how_many) (defScope s_how_many) [.non] [] a_how_many d_how_many
  b_how_many : Binds K d_how_many ["whole", "most"] []
  v_how_many : List Value
  w_how_many : Vals [.non] v_how_many
  b1_how_many : Binds K d_how_many ["whole", "most"] v_how_many
  g_how_many : mg "how_many" = some (.ref a_how_many)
  a_number_of : Addr
  d_number_of : FuncData
  F_number_of : Fun K "number_of" "number_of" s_number_of a_number_of d_number_of
  b_number_of : Binds K d_number_of ["parting"] []
  g_number_of : mg "number_of" = some (.ref a_number_of)
  a_parting_of : Addr
  d_parting_of : FuncData
  F_parting_of : Fun K "parting_of" "parting_of" s_parting_of a_parting_of d_parting_of
  b_parting_of : Binds K d_parting_of ["whole", "number"] []
  g_parting_of : mg "parting_of" = some (.ref a_parting_of)
  a_check_whole : Addr
  d_check_whole : FuncData
  F_check_whole : Fun K "_check_whole" "_check_whole" s_check_whole a_check_whole d_check_whole
  b_check_whole : Binds K d_check_whole ["thing"] []
  g_check_whole : mg "_check_whole" = some (.ref a_check_whole)
  a_count_rows : Addr
  d_count_rows : FuncData
  F_count_rows : Fun K "_count_rows" "_count_rows" s_count_rows a_count_rows d_count_rows
  b_count_rows : Binds K d_count_rows ["whole", "greatest"] []
  g_count_rows : mg "_count_rows" = some (.ref a_count_rows)
  a_first_part : Addr
  d_first_part : FuncData
  F_first_part : Fun K "_first_part" "_first_part" s_first_part a_first_part d_first_part
  b_first_part : Binds K d_first_part ["rows", "whole", "number"] []
  g_first_part : mg "_first_part" = some (.ref a_first_part)
  a_law_mixed : Addr
  d_law_mixed : FuncData
  F_law_mixed : Fun K "_law_mixed" "_law_mixed" s_law_mixed a_law_mixed d_law_mixed
  b_law_mixed : Binds K d_law_mixed ["_law_number_here", "_law_k"] []
  g_law_mixed : mg "_law_mixed" = some (.ref a_law_mixed)
  a_law_number : Addr
  d_law_number : FuncData
  F_law_number : Fun K "_law_number" "_law_number" s_law_number a_law_number d_law_number
  b_law_number : Binds K d_law_number ["_law_script", "_law_k"] []
  g_law_number : mg "_law_number" = some (.ref a_law_number)
  a_law_parting_by : Addr
  d_law_parting_by : FuncData
  F_law_parting_by : Fun K "_law_parting_by" "_law_parting_by" s_law_parting_by a_law_parting_by d_law_parting_by
  b_law_parting_by : Binds K d_law_parting_by ["_law_script", "_law_first"] []
  g_law_parting_by : mg "_law_parting_by" = some (.ref a_law_parting_by)
  a_law_counts : Addr
  d_law_counts : FuncData
  F_law_counts : Fun K "_law_counts" "_law_counts" s_law_counts a_law_counts d_law_counts
  b_law_counts : Binds K d_law_counts ["_law_whole"] []
  g_law_counts : mg "_law_counts" = some (.ref a_law_counts)
  a_law_is_row : Addr
  d_law_is_row : FuncData
  F_law_is_row : Fun K "_law_is_row" "_law_is_row" s_law_is_row a_law_is_row d_law_is_row
  b_law_is_row : Binds K d_law_is_row ["_law_found", "_law_due"] []
  g_law_is_row : mg "_law_is_row" = some (.ref a_law_is_row)
  a_law_is_stair : Addr
  d_law_is_stair : FuncData
  F_law_is_stair : Fun K "_law_is_stair" "_law_is_stair" s_law_is_stair a_law_is_stair d_law_is_stair
  b_law_is_stair : Binds K d_law_is_stair ["_law_thing"] []
  g_law_is_stair : mg "_law_is_stair" = some (.ref a_law_is_stair)
  a_law_name : Addr
  d_law_name : FuncData
  F_law_name : Fun K "_law_name" "_law_name" s_law_name a_law_name d_law_name
  b_law_name : Binds K d_law_name ["_law_error"] []
  g_law_name : mg "_law_name" = some (.ref a_law_name)
  a_law_to : Addr
  d_law_to : FuncData
  F_law_to : Fun K "_law_to" "_law_to" s_law_to a_law_to d_law_to
  b_law_to : Binds K d_law_to ["_law_parting", "_law_most"] []
  g_law_to : mg "_law_to" = some (.ref a_law_to)
  a_law_ahead : Addr
  d_law_ahead : FuncData
  F_law_ahead : Fun K "_law_ahead" "_law_ahead" s_law_ahead a_law_ahead d_law_ahead
  b_law_ahead : Binds K d_law_ahead ["_law_parting"] []
  g_law_ahead : mg "_law_ahead" = some (.ref a_law_ahead)
  a_law_told : Addr
  d_law_told : FuncData
  F_law_told : Fun K "_law_told" "_law_told" s_law_told a_law_told d_law_told
  b_law_told : Binds K d_law_told ["_law_whole", "_law_number_here"] []
  g_law_told : mg "_law_told" = some (.ref a_law_told)
  a_law_order_right : Addr
  d_law_order_right : FuncData
  F_law_order_right : Fun K "_law_order_right" "_law_order_right" s_law_order_right a_law_order_right d_law_order_right
  b_law_order_right : Binds K d_law_order_right ["_law_whole"] []
  g_law_order_right : mg "_law_order_right" = some (.ref a_law_order_right)
  a_law : Addr
  d_law : FuncData
  F_law : Fun K "law" "law" s_law a_law d_law
  b_law : Binds K d_law ["_law_script"] []
  g_law : mg "law" = some (.ref a_law)
  n_ValueError : mg "ValueError" = none
  n_all : mg "all" = none
  n_bool : mg "bool" = none
  n_int : mg "int" = none
  n_isinstance : mg "isinstance" = none
  n_len : mg "len" = none
  n_list : mg "list" = none
  n_max : mg "max" = none
  n_min : mg "min" = none
  n_range : mg "range" = none
  n_sorted : mg "sorted" = none
  n_sum : mg "sum" = none
  u_GREATEST_WHOLE : Value
  c_GREATEST_WHOLE : mg "GREATEST_WHOLE" = some u_GREATEST_WHOLE
  r_GREATEST_WHOLE : RelV (.int 200) u_GREATEST_WHOLE
  C_NoFit : Addr
  g_NoFit : mg "NoFit" = some (.ref C_NoFit)
  C_NoNumber : Addr
  g_NoNumber : mg "NoNumber" = some (.ref C_NoNumber)
  C_NoParting : Addr
  g_NoParting : mg "NoParting" = some (.ref C_NoParting)
  C_PartError : Addr
  g_PartError : mg "PartError" = some (.ref C_PartError)
  x_NoNumber : PySem.W.excIn K C_NoNumber [.type "ValueError", .type "Exception", .type "BaseException", .type "object"] "ValueError.__new__" = true
  k_NoNumber : PySem.W.keepIn K (.ref C_NoNumber) = true
  s_NoNumber : PySem.W.subIn K (.ref C_NoNumber) (.type "BaseException") = some true
  t_NoNumber : PySem.W.typeIn K (.ref C_NoNumber) = some (.type "type")
  e_NoNumber : ExcC K C_NoNumber
  m_NoNumber_PartError : PySem.W.exmOne K (.ref C_NoNumber) (.ref C_PartError) = some true
  q_NoNumber_NoParting : PySem.W.kitOne K (.ref C_NoNumber) (.ref C_NoParting) = some false
  q_NoNumber_NoFit : PySem.W.kitOne K (.ref C_NoNumber) (.ref C_NoFit) = some false
  q_NoNumber_NoNumber : PySem.W.kitOne K (.ref C_NoNumber) (.ref C_NoNumber) = some true
  q_NoNumber_ValueError : PySem.W.kitOne K (.ref C_NoNumber) (.type "ValueError") = some true
/-! ### the draws: _law_mixed, _law_number, _law_parting_by -/
def mixed (n k : Int) : Int := ((n % 2147483647 + 7919 * k * k + 31 * k) * 48271 % 2147483647) * (69621 + 2 * k) % 2147483629
theorem mixed_nn (n k : Int) : 0 ≤ mixed n k := Int.emod_nonneg _ (by decide)
theorem mixed_lt (n k : Int) : mixed n k < 2147483629 := Int.emod_lt_of_pos _ (by decide)
def numb (ns : List Int) (k : Int) : Int := if ns = [] then mixed 17 k else mixed (ns.getD (k % (ns.length : Int)).toNat 0) k
theorem numb_nn (ns : List Int) (k : Int) : 0 ≤ numb ns k := by
  unfold numb
  split
  · exact mixed_nn _ _
  · exact mixed_nn _ _
theorem numb_lt (ns : List Int) (k : Int) : numb ns k < 2147483629 := by
  unfold numb
  split
  · exact mixed_lt _ _
  · exact mixed_lt _ _
/-- what a parting is -/
def IsP (p : List Int) : Prop := (∀ x ∈ p, 1 ≤ x) ∧ p.Pairwise (fun a b => b ≤ a) ∧ p.sum ≤ 200
theorem sum_nn : ∀ {p : List Int}, (∀ x ∈ p, 0 ≤ x) → 0 ≤ p.sum
  | [], _ => Int.le_refl _
  | x :: r, h => by
    have h1 := h x List.mem_cons_self
    have h2 := sum_nn (p := r) fun y hy => h y (List.mem_cons_of_mem _ hy)
    rw [List.sum_cons]
    omega
theorem len_le_sum : ∀ {p : List Int}, (∀ x ∈ p, 1 ≤ x) → (p.length : Int) ≤ p.sum
  | [], _ => Int.le_refl _
  | x :: r, h => by
    have h1 := h x List.mem_cons_self
    have h2 := len_le_sum (p := r) fun y hy => h y (List.mem_cons_of_mem _ hy)
    rw [List.sum_cons, List.length_cons]
    omega
theorem IsP.len {p : List Int} (h : IsP p) : p.length ≤ 200 := by
  have h1 := len_le_sum h.1
  have h2 := h.2.2
  omega
theorem le_sum : ∀ {p : List Int}, (∀ x ∈ p, 0 ≤ x) → ∀ x ∈ p, x ≤ p.sum
  | [], _, x, hx => by cases hx
  | y :: r, h, x, hx => by
    have h1 := h y List.mem_cons_self
    have h2 := sum_nn (p := r) fun z hz => h z (List.mem_cons_of_mem _ hz)
    rw [List.sum_cons]
    rcases List.mem_cons.mp hx with e | hx
    · omega
    · have h3 := le_sum (p := r) (fun z hz => h z (List.mem_cons_of_mem _ hz)) x hx
      omega
theorem sum_append (a b : List Int) : (a ++ b).sum = a.sum + b.sum := List.sum_append
theorem sum_perm {a b : List Int} (h : a.Perm b) : a.sum = b.sum := by
  induction h with
  | nil => rfl
  | cons x _ ih => rw [List.sum_cons, List.sum_cons, ih]
  | swap x y l => rw [List.sum_cons, List.sum_cons, List.sum_cons, List.sum_cons]; omega
  | trans _ _ ih1 ih2 => exact ih1.trans ih2
theorem desc_reverse {l : List Int} (h : l.Pairwise (· ≤ ·)) : l.reverse.Pairwise (fun a b => b ≤ a) := List.pairwise_reverse.mpr h
section
variable {P : Program} {w : World} {K : PySem.W.Frag} {mg : Str → Option Value} {base : Heap}
def sp_law_mixed : Sp := fun vs H Q _ => ∃ n k : Int, vs = [.int n, .int k] ∧ 0 ≤ k ∧ k ≤ 100000 ∧ RetV (.int (mixed n k)) H Q
theorem ok_law_mixed (T : Tx K mg) : FnOk P w K mg base CX0 1 T.a_law_mixed T.d_law_mixed ["_law_number_here", "_law_k"] sp_law_mixed := by
  refine T.F_law_mixed.ok sc_law_mixed (fun vs H Q E h => ?_) (fun cdv A outer s H vs Q E hr h => ?_)
  · obtain ⟨n, k, rfl, _⟩ := h
    rfl
  · obtain ⟨n, k, rfl, k0, k1, q⟩ := h
    refine ⟨_, (pss_cons (ps_set (i := 0) sc_law_mixed.nd rfl (Or.inl rfl) (pe_op op_mod (pe_op op_mul (pe_op op_add (pe_op op_add (pe_op op_mod (pv 0) pe_int) (pe_op op_mul (pe_op op_mul pe_int (pv 1)) (pv 1))) (pe_op op_mul pe_int (pv 1))) pe_int) pe_int))
    (pss_one (ps_ret (pe_op op_mod (pe_op op_mul (pv 0) (pe_op op_add pe_int (pe_op op_mul pe_int (pv 1)))) pe_int)))), ?_⟩
    refine q_asg (ev_rI (ev_rI (ev_rI0 (ev_rI0 (ev_rI (ev_var rfl) ev_c (by decide)) (ev_rI (ev_rI ev_c (ev_var rfl) (.inl (by decide))) (ev_var rfl) (.inr (by omega)))) (ev_rI ev_c (ev_var rfl) (.inl (by decide)))) ev_c (.inr (by decide))) ev_c (by decide)) fun H1 e1 => ?_
    refine s_ret (ev_rI (ev_rI (ev_var rfl) (ev_rI0 ev_c (ev_rI ev_c (ev_var rfl) (.inl (by decide)))) (.inr (by omega))) ev_c (by decide)) fun H2 e2 => ?_
    exact q H2 (e1.trans e2)
theorem spv_mixed {n k : Int} {H : Hp} (k0 : 0 ≤ k) (k1 : k ≤ 100000) : SpV sp_law_mixed [.int n, .int k] H (.int (mixed n k)) := fun H1 _ _ q _ => ⟨n, k, rfl, k0, k1, q⟩
def sp_law_number (K : PySem.W.Frag) : Sp := fun vs H Q _ => ∃ (a : Addr) (ns : List Int) (k : Int), vs = [.ref a, .int k] ∧ SqL K H a (ns.map V.int) ∧ 0 ≤ k ∧ k ≤ 100000 ∧ RetV (.int (numb ns k)) H Q
theorem ok_law_number (T : Tx K mg) : FnOk P w K mg base CX0 2 T.a_law_number T.d_law_number ["_law_script", "_law_k"] (sp_law_number K) := by
  refine T.F_law_number.ok sc_law_number (fun vs H Q E h => ?_) (fun cdv A outer s H vs Q E hr h => ?_)
  · obtain ⟨a, ns, k, rfl, _⟩ := h
    rfl
  · obtain ⟨a, ns, k, rfl, hS, k0, k1, q⟩ := h
    refine ⟨_, (pss_cons (ps_if (pt_cmpR (eqK (K := K) rfl hr.units) (pv 0) (pe_lst pa_nil) (nomark _))
      (pss_one (ps_ret (pe_call (ok_law_mixed T) (hr.mono (by decide)) (by rfl) T.g_law_mixed T.F_law_mixed.kp T.b_law_mixed .nil pass0 (pa_cons pe_int (pa_cons (pv 1) pa_nil)))))
      pss_nil)
    (pss_one (ps_ret (pe_call (ok_law_mixed T) (hr.mono (by decide)) (by rfl) T.g_law_mixed T.F_law_mixed.kp T.b_law_mixed .nil pass0 (pa_cons (pe_ix (ixlK (K := K) rfl) (pv 0) (pe_op op_mod (pv 1) (pe_callB (lenK (K := K) rfl) (by rfl) T.n_len PySem.boot_len (pa_cons (pv 0) pa_nil))) (fun _ _ => rfl)) (pa_cons (pv 1) pa_nil)))))), ?_⟩
    refine q_when (b := decide (ns = [])) (et_test (ev_opL (ev_var rfl) (el_lst (vs := []) ea_nil (by decide)) fun p H1 hp e1 => rv_eqL (ys := []) (ex_l e1 hS) (sq_of hp))) (fun hb H1 e1 => ?_) (fun hb H1 e1 => ?_)
    · have hn : ns = [] := of_decide_eq_true hb
      refine s_ret (ev_call (ea_cons ev_c (ea_cons (ev_var rfl) ea_nil)) (spv_mixed k0 k1)) fun H2 e2 => ?_
      have := q H2 (e1.trans e2)
      unfold numb at this
      rw [if_pos hn] at this
      exact this
    · have hn : ns ≠ [] := of_decide_eq_false hb
      have hl : 0 < ns.length := List.length_pos_iff.mpr hn
      have h1 : 0 ≤ k % (ns.length : Int) := Int.emod_nonneg _ (by omega)
      have h2 : k % (ns.length : Int) < ns.length := Int.emod_lt_of_pos _ (by omega)
      have el : ((ns.map V.int).length : Int) = (ns.length : Int) := by rw [List.length_map]
      refine s_ret (ev_call (ea_cons (ev_ixI (ev_var rfl) (ev_is (ev_rI (ev_var rfl) (ev_cb (ea_cons (ev_var rfl) ea_nil) (rc_len (ex_l e1 hS))) (by rw [el]; omega)) (by rw [el])) (ex_l e1 hS) h1 h2) (ea_cons (ev_var rfl) ea_nil)) (spv_mixed k0 k1)) fun H2 e2 => ?_
      have := q H2 (e1.trans e2)
      unfold numb at this
      rw [if_neg hn] at this
      exact this
theorem spv_number {a : Addr} {ns : List Int} {k : Int} {H : Hp} (hS : SqL K H a (ns.map V.int)) (k0 : 0 ≤ k) (k1 : k ≤ 100000) : SpV (sp_law_number K) [.ref a, .int k] H (.int (numb ns k)) := fun H1 e _ q _ => ⟨a, ns, k, rfl, ex_l e hS, k0, k1, q⟩
/-- one of a few written numbers -/
theorem at_few {zs : List Int} {i : Int} (h0 : 0 ≤ i) (h1 : i < zs.length) (lo hi : Int) (hz : ∀ z ∈ zs, lo ≤ z ∧ z ≤ hi) : ∃ z, atI (zs.map V.int) i = some (.int z) ∧ lo ≤ z ∧ z ≤ hi := by
  obtain ⟨j, rfl⟩ := Int.eq_ofNat_of_zero_le h0
  have hj : j < zs.length := by omega
  refine ⟨zs[j], atI_nat ?_, hz _ (List.getElem_mem hj)⟩
  rw [List.getElem?_map, List.getElem?_eq_getElem hj]
  rfl
/-- a list of whole numbers, new, of which P is known -/
def RetLP (P : List Int → Prop) (H : Hp) (Q : VK) : Prop := ∀ (p : Addr) (ys : List Int) (H2 : Hp), H p = none → Ex H H2 → Ll H2 p ys → P ys → Q (.ref p) H2
def sp_law_parting_by (K : PySem.W.Frag) : Sp := fun vs H Q _ => ∃ (a : Addr) (ns : List Int) (k : Int), vs = [.ref a, .int k] ∧ SqL K H a (ns.map V.int) ∧ ns.length ≤ 63 ∧ 0 ≤ k ∧ k ≤ 1000 ∧ RetLP IsP H Q
theorem ok_law_parting_by (T : Tx K mg) : FnOk P w K mg base CX0 3 T.a_law_parting_by T.d_law_parting_by ["_law_script", "_law_first"] (sp_law_parting_by K) := by
  refine T.F_law_parting_by.ok sc_law_parting_by (fun vs H Q E h => ?_) (fun cdv A outer s H vs Q E hr h => ?_)
  · obtain ⟨a, ns, k, rfl, _⟩ := h
    rfl
  · obtain ⟨a, ns, k, rfl, hS, hlen, k0, k1, q⟩ := h
    refine ⟨_, (pss_cons (ps_set (i := 2) sc_law_parting_by.nd rfl (Or.inl rfl) (pe_call (ok_law_number T) (hr.mono (by decide)) (by rfl) T.g_law_number T.F_law_number.kp T.b_law_number .nil pass0 (pa_cons (pv 0) (pa_cons (pv 1) pa_nil))))
    (pss_cons (ps_set (i := 3) sc_law_parting_by.nd rfl (Or.inl rfl) (pe_ix (ixlK (K := K) rfl) (pe_lst (pa_cons pe_int (pa_cons pe_int (pa_cons pe_int (pa_cons pe_int (pa_cons pe_int (pa_cons pe_int pa_nil))))))) (pe_op op_mod (pv 2) pe_int) (fun _ _ => rfl)))
    (pss_cons (ps_set (i := 4) sc_law_parting_by.nd rfl (Or.inl rfl) (pe_ix (ixlK (K := K) rfl) (pe_lst (pa_cons (pe_callB (lenK (K := K) rfl) (by rfl) T.n_len PySem.boot_len (pa_cons (pv 0) pa_nil)) (pa_cons pe_int (pa_cons pe_int (pa_cons pe_int pa_nil))))) (pe_op op_mod (pe_op op_fdiv (pv 2) pe_int) pe_int) (fun _ _ => rfl)))
    (pss_cons (ps_set (i := 5) sc_law_parting_by.nd rfl (Or.inl rfl) (pe_lst pa_nil))
    (pss_cons (ps_for PassesOwn.never rfl (pi_range1 rfl T.n_range (pa_cons (pe_callB (call_min2 rfl) (by rfl) T.n_min (by decide +kernel) (pa_cons (pv 4) (pa_cons pe_int pa_nil))) pa_nil)) (pg_name (i := 6) sc_law_parting_by.nd rfl (Or.inl rfl))
      (pss_cons (ps_set (i := 7) sc_law_parting_by.nd rfl (Or.inl rfl) (pe_op op_add pe_int (pe_op op_mod (pe_call (ok_law_number T) (hr.mono (by decide)) (by rfl) T.g_law_number T.F_law_number.kp T.b_law_number .nil pass0 (pa_cons (pv 0) (pa_cons (pe_op op_add (pe_op op_add (pv 1) pe_int) (pv 6)) pa_nil))) (pv 3))))
      (pss_one (ps_if (pt_cmpR op_le (pe_op op_add (pe_callB (sumK (K := K) rfl rfl) (by rfl) T.n_sum (by decide +kernel) (pa_cons (pv 5) pa_nil)) (pv 7)) pe_int (nomark _))
        (pss_one (ps_expr (pe_bm PySem.F.plainAttrs_list PySem.F.slot_list_append PySem.F.type_list_append mt_append (pv 5) (pa_cons (pv 7) pa_nil))))
        pss_nil))))
    (pss_cons (ps_set (i := 5) sc_law_parting_by.nd rfl (Or.inl rfl) (pe_callB (sortedK (K := K) rfl) (by rfl) T.n_sorted (by decide +kernel) (pa_cons (pv 5) pa_nil)))
    (pss_cons (ps_expr (pe_bm0 PySem.F.plainAttrs_list PySem.F.slot_list_reverse PySem.F.type_list_reverse mt_reverse (pv 5)))
    (pss_one (ps_ret (pv 5)))))))))), ?_⟩
    refine q_asg (ev_call (ea_cons (ev_var rfl) (ea_cons (ev_var rfl) ea_nil)) (spv_number hS k0 (by omega))) fun H1 e1 => ?_
    have n0 := numb_nn ns k
    generalize numb ns k = m at n0 ⊢
    obtain ⟨c, hc, c1, c2⟩ := at_few (zs := [2, 4, 7, 12, 30, 90]) (i := m % 6) (by omega) (by show m % 6 < 6; omega) 2 90 (by decide)
    refine q_asg (ev_ixN (el_lst (ea_cons ev_c (ea_cons ev_c (ea_cons ev_c (ea_cons ev_c (ea_cons ev_c (ea_cons ev_c ea_nil)))))) (by decide)) (fun H2 _ => ev_rI (ev_var rfl) ev_c (by decide)) hc) fun H2 e2 => ?_
    obtain ⟨l, hl, l1, l2⟩ := at_few (zs := [(ns.length : Int), 3, 6, 40]) (i := m / 6 % 4) (by omega) (by show m / 6 % 4 < 4; omega) 0 63 (by
      intro z hz
      simp only [List.mem_cons, List.not_mem_nil, or_false] at hz
      omega)
    have el : ((ns.map V.int).length : Int) = (ns.length : Int) := by rw [List.length_map]
    refine q_asg (ev_ixN (el_lst (ea_cons (ev_is (ev_cb (ea_cons (ev_var rfl) ea_nil) (rc_len (ex_l (e1.trans e2) hS))) (by rw [el])) (ea_cons ev_c (ea_cons ev_c (ea_cons ev_c ea_nil)))) (by show 4 ≤ 100000; decide)) (fun H2 _ => ev_rI (ev_rI (ev_var rfl) ev_c ⟨by decide, by decide⟩) ev_c (by decide)) hl) fun H3 e3 => ?_
    refine q_asgL (xs := []) (el_lst ea_nil (by decide)) fun p H4 np e4 hp => ?_
    have e14 : Ex H H4 := ((e1.trans e2).trans e3).trans e4
    have npH : H p = none := fresh_back ((e1.trans e2).trans e3) np
    have hm : (if (60 : Int) < l then (60 : Int) else l) ≤ 60 := by split <;> omega
    have hm0 : 0 ≤ (if (60 : Int) < l then (60 : Int) else l) := by split <;> omega
    refine q_forR1 (ea_cons (ev_cb (ea_cons (ev_var rfl) (ea_cons ev_c ea_nil)) rc_min2) ea_nil) ⟨hm0, by omega⟩
      (fun i σ' H' => ∃ (fs : List Int) (y1 y2 : Option V), σ' = [some (.ref a), some (.int k), some (.int m), some (.int c), some (.int l), some (.ref p), y1, y2] ∧ Ex H H' ∧ Ll H' p fs ∧ (∀ x ∈ fs, 1 ≤ x) ∧ fs.sum ≤ 200)
      (fun H5 e5 => ⟨[], none, none, rfl, e14.trans e5, e5 _ _ hp, (fun x hx => by cases hx), by decide⟩) (fun i σ' H' hi hP => ?_) (fun σ' H' hP => ?_)
    · obtain ⟨fs, y1, y2, rfl, eH, hf, f1, f2⟩ := hP
      have hS' := ex_l eH hS
      have b0 := numb_nn ns (k + 1 + (i : Int))
      refine q_asg (ev_rI0 ev_c (ev_rI (ev_call (ea_cons (ev_var rfl) (ea_cons (ev_rI0 (ev_rI0 (ev_var rfl) ev_c) (ev_var rfl)) ea_nil)) (spv_number hS' (by omega) (by omega))) (ev_var rfl) (by omega))) fun H5 e5 => ?_
      have d0 : 0 ≤ numb ns (k + 1 + (i : Int)) % c := Int.emod_nonneg _ (by omega)
      generalize hd : numb ns (k + 1 + (i : Int)) % c = d at d0 ⊢
      refine s_when (b := decide (fs.sum + (1 + d) ≤ 200)) (et_test (ev_rI0 (ev_rI0 (ev_cb (ea_cons (ev_var rfl) ea_nil) (rc_sum (ex_l e5 hf.sq))) (ev_var rfl)) ev_c)) (fun hb H6 e6 => ?_) (fun hb H6 e6 => ?_)
      · have hle := of_decide_eq_true hb
        have hfl := len_le_sum f1
        refine s_app (xs := fs.map V.int) ((e5.trans e6) _ _ hf) (ev_var rfl) (ev_var rfl) (by rw [List.length_map]; omega) fun H7 e7 => ?_
        refine ⟨fs ++ [1 + d], _, _, rfl, ((eH.trans (e5.trans e6)).trans e7).mut npH, ?_, fun x hx => ?_, ?_⟩
        · show upd H7 p _ p = _
          rw [upd_same, List.map_append]
          rfl
        · rcases List.mem_append.mp hx with hx | hx
          · exact f1 x hx
          · rw [List.mem_singleton.mp hx]
            omega
        · rw [sum_append]
          show fs.sum + ((1 + d) + 0) ≤ 200
          omega
      · exact ⟨fs, _, _, rfl, eH.trans (e5.trans e6), (e5.trans e6) _ _ hf, f1, f2⟩
    · obtain ⟨fs, y1, y2, rfl, eH, hf, f1, f2⟩ := hP
      refine q_asgP (evP_sorted (ea_cons (ev_var rfl) ea_nil) hf.sq) fun v H5 e5 hv => ?_
      obtain ⟨o, ys, rfl, no, hp1, ho, hy⟩ := hv
      have noH : H o = none := fresh_back eH no
      refine q_rev (ev_var rfl) hy fun H6 e6 => ?_
      refine s_ret (ev_var rfl) fun H7 e7 => ?_
      refine q o ys.reverse H7 noH (((eH.trans (e5.trans e6)).mut noH).trans e7) (e7 _ _ ?_) ⟨fun x hx => ?_, desc_reverse ho, ?_⟩
      · rw [upd_same, List.map_reverse]
      · exact f1 x (hp1.mem_iff.mp (List.mem_reverse.mp hx))
      · rw [sum_perm (List.reverse_perm ys), sum_perm hp1]
        exact f2
theorem evP_parting {a : Addr} {ns : List Int} {k : Int} {σ : L2.St} {H : Hp} {ta : TA} {E : XK} (h : EvA ta σ H [.ref a, .int k]) (hS : SqL K H a (ns.map V.int)) (hl : ns.length ≤ 63) (k0 : 0 ≤ k) (k1 : k ≤ 1000) :
    EvP (tCall (sp_law_parting_by K) [] E ta) σ H (fun v H1 => ∃ (p : Addr) (ys : List Int), v = .ref p ∧ H p = none ∧ Ll H1 p ys ∧ IsP ys) :=
  evP_call h fun H1 e Q q E => ⟨a, ns, k, rfl, ex_l e hS, hl, k0, k1, fun p ys H2 np e2 hp hy => q _ _ e2 ⟨p, ys, rfl, fresh_back e np, hp, hy⟩⟩
end
/-! ### stairparts.partings: is_number, is_parting, check_parting -/
def partB : Int → Int → List Int → Bool
  | _, _, [] => true
  | ahead, whole, x :: r => if x < 1 ∨ ahead < x then false else if 200 < whole + x then false else partB x (whole + x) r
theorem partB_iff : ∀ (p : List Int) (ahead whole : Int), whole ≤ 200 → (partB ahead whole p = true ↔ (∀ x ∈ p, 1 ≤ x ∧ x ≤ ahead) ∧ p.Pairwise (fun a b => b ≤ a) ∧ whole + p.sum ≤ 200)
  | [], ahead, whole, h => by
    refine ⟨fun _ => ⟨fun x hx => (by cases hx), .nil, ?_⟩, fun _ => rfl⟩
    show whole + 0 ≤ 200
    omega
  | x :: r, ahead, whole, h => by
    show (if x < 1 ∨ ahead < x then false else if 200 < whole + x then false else partB x (whole + x) r) = true ↔ _
    rw [List.sum_cons, List.pairwise_cons]
    by_cases c : x < 1 ∨ ahead < x
    · rw [if_pos c]
      refine ⟨fun z => (by cases z), fun ⟨h1, _, _⟩ => ?_⟩
      have := h1 x List.mem_cons_self
      omega
    · rw [if_neg c]
      by_cases c2 : 200 < whole + x
      · rw [if_pos c2]
        refine ⟨fun z => (by cases z), fun ⟨h1, _, h3⟩ => ?_⟩
        have := sum_nn (p := r) fun y hy => (by have := h1 y (List.mem_cons_of_mem _ hy); omega)
        omega
      · rw [if_neg c2, partB_iff r x (whole + x) (by omega)]
        refine ⟨fun ⟨h1, h2, h3⟩ => ⟨fun y hy => ?_, ⟨fun y hy => (h1 y hy).2, h2⟩, by omega⟩, fun ⟨h1, h2, h3⟩ => ⟨fun y hy => ⟨(h1 y (List.mem_cons_of_mem _ hy)).1, h2.1 y hy⟩, h2.2, by omega⟩⟩
        rcases List.mem_cons.mp hy with e | hy
        · omega
        · have := h1 y hy
          omega
def isPart (p : List Int) : Bool := partB 200 0 p
theorem isPart_iff {p : List Int} : isPart p = true ↔ IsP p := by
  unfold isPart
  rw [partB_iff p 200 0 (by decide)]
  refine ⟨fun ⟨h1, h2, h3⟩ => ⟨fun x hx => (h1 x hx).1, h2, by omega⟩, fun ⟨h1, h2, h3⟩ => ⟨fun x hx => ⟨h1 x hx, ?_⟩, h2, by omega⟩⟩
  have := le_sum (fun y hy => (by have := h1 y hy; omega)) x hx
  omega
theorem IsP.is {p : List Int} (h : IsP p) : isPart p = true := isPart_iff.mpr h
section
variable {P : Program} {w : World} {K : PySem.W.Frag} {mg : Str → Option Value} {base : Heap}
def sp_is_number (K : PySem.W.Frag) : Sp := fun vs H Q _ => ∃ (x : V) (t : Value) (b1 b2 : Bool), vs = [x] ∧ (∀ H1, Ex H H1 → TyX K H1 x t) ∧ PySem.W.kitOne K t (.type "int") = some b1 ∧ PySem.W.kitOne K t (.type "bool") = some b2 ∧ RetV (.bl (b1 && !b2)) H Q
theorem ok_is_number (T : Tx K mg) : FnOk P w K mg base CX0 1 T.a_is_number T.d_is_number ["thing"] (sp_is_number K) := by
  refine T.F_is_number.ok sc_is_number (fun vs H Q E h => ?_) (fun cdv A outer s H vs Q E hr h => ?_)
  · obtain ⟨x, t, b1, b2, rfl, _⟩ := h
    rfl
  · obtain ⟨x, t, b1, b2, rfl, ty, k1, k2, q⟩ := h
    refine ⟨_, (pss_one (ps_ret (pe_and (pe_callB (isiK (K := K) rfl) (by rfl) T.n_isinstance (by decide +kernel) (pa_cons (pv 0) (pa_cons (pe_bltn (v := .ty "int") (u := .type "int") (by rfl) T.n_int (by decide +kernel) rfl) pa_nil))) (pe_one (pe_not (pe_callB (isiK (K := K) rfl) (by rfl) T.n_isinstance (by decide +kernel) (pa_cons (pv 0) (pa_cons (pe_bltn (v := .ty "bool") (u := .type "bool") (by rfl) T.n_bool (by decide +kernel) rfl) pa_nil)))))))), ?_⟩
    exact s_ret (ev_andV (ev_cb (ea_cons (ev_var rfl) (ea_cons ev_c ea_nil)) (rc_isi (.ty _) ty k1)) fun _ => ev_notV (ev_cb (ea_cons (ev_var rfl) (ea_cons ev_c ea_nil)) (rc_isi (.ty _) ty k2))) fun H1 e1 => q H1 e1
theorem spv_number_int {i : Int} {H : Hp} : SpV (sp_is_number K) [.int i] H (.bl true) := fun H1 e Q q _ =>
  ⟨.int i, .type "int", true, false, rfl, fun _ _ => .base (.int _), kit_ty (by decide +kernel), kit_ty (by decide +kernel), q⟩
def sp_is_parting : Sp := fun vs H Q _ => ∃ (a : Addr) (ns : List Int), vs = [.ref a] ∧ Ll H a ns ∧ RetV (.bl (isPart ns)) H Q
theorem ok_is_parting (T : Tx K mg) : FnOk P w K mg base CX0 2 T.a_is_parting T.d_is_parting ["thing"] sp_is_parting := by
  refine T.F_is_parting.ok sc_is_parting (fun vs H Q E h => ?_) (fun cdv A outer s H vs Q E hr h => ?_)
  · obtain ⟨a, ns, rfl, _⟩ := h
    rfl
  · obtain ⟨a, ns, rfl, hL, q⟩ := h
    refine ⟨_, (pss_cons (ps_if (pt_not (pt_val (pe_callB (isiK (K := K) rfl) (by rfl) T.n_isinstance (by decide +kernel) (pa_cons (pv 0) (pa_cons (pe_bltn (v := .ty "list") (u := .type "list") (by rfl) T.n_list (by decide +kernel) rfl) pa_nil)))))
      (pss_one (ps_ret pe_bl))
      pss_nil)
    (pss_cons (ps_set (i := 1) sc_is_parting.nd rfl (Or.inl rfl) pe_int)
    (pss_cons (ps_set (i := 2) sc_is_parting.nd rfl (Or.inl rfl) (pe_glob rfl T.c_GREATEST_WHOLE T.r_GREATEST_WHOLE))
    (pss_cons (ps_for PassesOwn.never rfl (pi_list (pv 0)) (pg_name (i := 3) sc_is_parting.nd rfl (Or.inl rfl))
      (pss_cons (ps_if (PW.pt (pw_or (pt_not (pt_val (pe_call (ok_is_number T) (hr.mono (by decide)) (by rfl) T.g_is_number T.F_is_number.kp T.b_is_number .nil pass0 (pa_cons (pv 3) pa_nil)))) (pw_or (pt_cmpR op_lt (pv 3) pe_int (nomark _)) (pw_or1 (pt_cmpR op_gt (pv 3) (pv 2) (nomark _))))))
        (pss_one (ps_ret pe_bl))
        pss_nil)
      (pss_cons (ps_set (i := 2) sc_is_parting.nd rfl (Or.inl rfl) (pv 3))
      (pss_cons (ps_aug (i := 1) sc_is_parting.nd rfl (Or.inl rfl) (pv 3) ip_add)
      (pss_one (ps_if (pt_cmpR op_gt (pv 1) (pe_glob rfl T.c_GREATEST_WHOLE T.r_GREATEST_WHOLE) (nomark _))
        (pss_one (ps_ret pe_bl))
        pss_nil))))))
    (pss_one (ps_ret pe_bl)))))), ?_⟩
    refine q_when (et_not (et_B (ev_cb (ea_cons (ev_var rfl) (ea_cons ev_c ea_nil)) (rc_isiL hL)))) (fun hb => by cases hb) (fun _ H1 e1 => ?_)
    refine q_asg ev_c fun H2 e2 => ?_
    refine q_asg ev_c fun H3 e3 => ?_
    have e13 := (e1.trans e2).trans e3
    refine q_forLn (ev_var rfl) (ex_l e13 hL.sq) (fun i σ' H' => ∃ (ah wh : Int) (y : Option V), σ' = [some (.ref a), some (.int wh), some (.int ah), y] ∧ Ex H H' ∧ isPart ns = partB ah wh (ns.drop i))
      (fun H4 e4 => ⟨200, 0, none, rfl, e13.trans e4, rfl⟩) (fun i σ' H' _ hP => ?_) (fun i x σ' H' hx hP => ?_) (fun σ' H' hP => ?_)
    · obtain ⟨ah, wh, y, rfl, eH, _⟩ := hP
      exact ex_l eH hL.sq
    · obtain ⟨ah, wh, y, rfl, eH, hp⟩ := hP
      obtain ⟨z, hz, rfl⟩ := get_int hx
      rw [drop_one hz] at hp
      have hp' : isPart ns = if z < 1 ∨ ah < z then false else if 200 < wh + z then false else partB z (wh + z) (ns.drop (i + 1)) := hp
      refine q_when (b := decide (z < 1) || decide (ah < z)) (et_is (et_or (et_not (et_B (ev_call (ea_cons (ev_var rfl) ea_nil) spv_number_int))) fun _ => et_or (et_test (ev_rI0 (ev_var rfl) ev_c)) fun _ => et_test (ev_rI0 (ev_var rfl) (ev_var rfl))) rfl) (fun hb H4 e4 => ?_) (fun hb H4 e4 => ?_)
      · refine s_ret ev_c fun H5 e5 => ?_
        rw [Bool.or_eq_true, decide_eq_true_eq, decide_eq_true_eq] at hb
        rw [if_pos hb] at hp'
        have := q H5 (eH.trans (e4.trans e5))
        rw [hp'] at this
        exact this
      · rw [Bool.or_eq_false_iff, decide_eq_false_iff_not, decide_eq_false_iff_not] at hb
        rw [if_neg (by omega)] at hp'
        refine q_asg (ev_var rfl) fun H5 e5 => ?_
        refine q_aug rfl (ev_var rfl) fun H6 e6 => ?_
        refine s_when (b := decide (200 < wh + z)) (et_test (ev_rI0 (ev_var rfl) ev_c)) (fun hb H7 e7 => ?_) (fun hb H7 e7 => ?_)
        · refine s_ret ev_c fun H8 e8 => ?_
          rw [if_pos (of_decide_eq_true hb)] at hp'
          have := q H8 (eH.trans ((((e4.trans e5).trans e6).trans e7).trans e8))
          rw [hp'] at this
          exact this
        · rw [if_neg (of_decide_eq_false hb)] at hp'
          exact ⟨z, wh + z, _, rfl, eH.trans (((e4.trans e5).trans e6).trans e7), hp'⟩
    · obtain ⟨ah, wh, y, rfl, eH, hp⟩ := hP
      have hp' : isPart ns = true := by
        rw [hp, List.drop_of_length_le (by rw [List.length_map]; exact Nat.le_refl _)]
        rfl
      refine s_ret ev_c fun H5 e5 => ?_
      have := q H5 (eH.trans e5)
      rw [hp'] at this
      exact this
theorem spv_is_parting {a : Addr} {ns : List Int} {H : Hp} (hL : Ll H a ns) : SpV sp_is_parting [.ref a] H (.bl (isPart ns)) := fun H1 e _ q _ => ⟨a, ns, rfl, e _ _ hL, q⟩
def sp_check_parting : Sp := fun vs H Q _ => ∃ (a : Addr) (ns : List Int), vs = [.ref a] ∧ Ll H a ns ∧ IsP ns ∧ RetV .non H Q
theorem ok_check_parting (T : Tx K mg) : FnOk P w K mg base CX0 3 T.a_check_parting T.d_check_parting ["thing"] sp_check_parting := by
  refine T.F_check_parting.ok sc_check_parting (fun vs H Q E h => ?_) (fun cdv A outer s H vs Q E hr h => ?_)
  · obtain ⟨a, ns, rfl, _⟩ := h
    rfl
  · obtain ⟨a, ns, rfl, hL, hp, q⟩ := h
    refine ⟨_, (pss_one (ps_if (pt_not (pt_val (pe_call (ok_is_parting T) (hr.mono (by decide)) (by rfl) T.g_is_parting T.F_is_parting.kp T.b_is_parting .nil pass0 (pa_cons (pv 0) pa_nil))))
      (pss_one ps_never)
      pss_nil)), ?_⟩
    refine s_when (et_not (et_B (ev_call (ea_cons (ev_var rfl) ea_nil) (spv_is_parting hL)))) (fun hb => ?_) (fun _ H1 e1 => q H1 e1)
    rw [hp.is] at hb
    cases hb
theorem spv_check {a : Addr} {ns : List Int} {H : Hp} (hL : Ll H a ns) (hp : IsP ns) : SpV sp_check_parting [.ref a] H .non := fun H1 e _ q _ => ⟨a, ns, rfl, e _ _ hL, hp, q⟩
end
/-! ### stairparts.partings: check_number, where it is one -/
section
variable {P : Program} {w : World} {K : PySem.W.Frag} {mg : Str → Option Value} {base : Heap}
def sp_check_number : Sp := fun vs H Q _ => ∃ i : Int, vs = [.int i] ∧ 0 ≤ i ∧ RetV .non H Q
theorem ok_check_number (T : Tx K mg) : FnOk P w K mg base CX0 3 T.a_check_number T.d_check_number ["thing"] sp_check_number := by
  refine T.F_check_number.ok sc_check_number (fun vs H Q E h => ?_) (fun cdv A outer s H vs Q E hr h => ?_)
  · obtain ⟨i, rfl, _⟩ := h
    rfl
  · obtain ⟨i, rfl, h0, q⟩ := h
    refine ⟨_, (pss_one (ps_if (PW.pt (pw_or (pt_not (pt_val (pe_call (ok_is_number T) (hr.mono (by decide)) (by rfl) T.g_is_number T.F_is_number.kp T.b_is_number .nil pass0 (pa_cons (pv 0) pa_nil)))) (pw_or1 (pt_cmpR op_lt (pv 0) pe_int (nomark _)))))
      (pss_one ps_never)
      pss_nil)), ?_⟩
    refine s_when (et_or (et_not (et_B (ev_call (ea_cons (ev_var rfl) ea_nil) spv_number_int))) fun _ => et_test (ev_rI0 (ev_var rfl) ev_c)) (fun hb => ?_) (fun _ H1 e1 => q H1 e1)
    simp at hb
    omega
theorem spv_checkn {i : Int} {H : Hp} (h : 0 ≤ i) : SpV sp_check_number [.int i] H .non := fun _ _ _ q _ => ⟨i, rfl, h, q⟩
end
/-! ### the greatest of some numbers, 0 of none -/
def mx (ns : List Int) : Int := ns.foldl max 0
theorem foldl_max_ge : ∀ (ns : List Int) (d : Int), d ≤ ns.foldl max d
  | [], d => Int.le_refl d
  | x :: r, d => by
    have := foldl_max_ge r (max d x)
    rw [List.foldl_cons]
    omega
theorem foldl_max_mem : ∀ (ns : List Int) (d : Int), ∀ x ∈ ns, x ≤ ns.foldl max d
  | [], _, x, h => by cases h
  | y :: r, d, x, h => by
    rw [List.foldl_cons]
    rcases List.mem_cons.mp h with e | h
    · have := foldl_max_ge r (max d y)
      omega
    · exact foldl_max_mem r _ x h
theorem foldl_max_le : ∀ (ns : List Int) (d m : Int), d ≤ m → (∀ x ∈ ns, x ≤ m) → ns.foldl max d ≤ m
  | [], d, m, h, _ => h
  | x :: r, d, m, h, hx => by
    have := hx x List.mem_cons_self
    rw [List.foldl_cons]
    exact foldl_max_le r _ m (by omega) fun y hy => hx y (List.mem_cons_of_mem _ hy)
theorem mx_nn (ns : List Int) : 0 ≤ mx ns := foldl_max_ge ns 0
theorem mx_mem {ns : List Int} : ∀ x ∈ ns, x ≤ mx ns := foldl_max_mem ns 0
theorem mx_eq {ns : List Int} {m : Int} (h0 : 0 ≤ m) (hm : m ∈ ns) (hle : ∀ y ∈ ns, y ≤ m) : m = mx ns := by
  have h1 := mx_mem m hm
  have h2 := foldl_max_le ns 0 m h0 hle
  unfold mx at *
  omega
theorem mx_le {ns : List Int} (h : IsP ns) : mx ns ≤ 200 := foldl_max_le ns 0 200 (by decide) fun x hx => by
  have := le_sum (fun y hy => (by have := h.1 y hy; omega)) x hx
  have := h.2.2
  omega
/-! ### how many partings there are -/
def ptA (f : Nat → Nat) (k : Nat) : Nat → Nat → Nat
  | 0, n => f n
  | c + 1, n => f n + if k ≤ n then ptA f k c (n - k) else 0
/-- how many of n with no part greater than m -/
def pt : Nat → Nat → Nat
  | 0, n => if n = 0 then 1 else 0
  | m + 1, n => ptA (pt m) (m + 1) n n
theorem ptA_fuel (f : Nat → Nat) {k : Nat} (hk : 0 < k) : ∀ (a b n : Nat), n ≤ a → n ≤ b → ptA f k a n = ptA f k b n
  | 0, 0, n, _, _ => rfl
  | 0, b + 1, n, ha, _ => by
    have : n = 0 := by omega
    subst this
    show f 0 = f 0 + if k ≤ 0 then _ else 0
    rw [if_neg (by omega)]
    omega
  | a + 1, 0, n, _, hb => by
    have : n = 0 := by omega
    subst this
    show f 0 + (if k ≤ 0 then _ else 0) = f 0
    rw [if_neg (by omega)]
    omega
  | a + 1, b + 1, n, ha, hb => by
    show f n + (if k ≤ n then ptA f k a (n - k) else 0) = f n + if k ≤ n then ptA f k b (n - k) else 0
    by_cases c : k ≤ n
    · rw [if_pos c, if_pos c, ptA_fuel f hk a b (n - k) (by omega) (by omega)]
    · rw [if_neg c, if_neg c]
theorem pt_zero (n : Nat) : pt 0 n = if n = 0 then 1 else 0 := rfl
theorem pt_succ (m n : Nat) : pt (m + 1) n = pt m n + if m + 1 ≤ n then pt (m + 1) (n - (m + 1)) else 0 := by
  show ptA (pt m) (m + 1) n n = _
  cases n with
  | zero =>
    rw [if_neg (by omega)]
    rfl
  | succ n =>
    show pt m (n + 1) + (if m + 1 ≤ n + 1 then ptA (pt m) (m + 1) n (n + 1 - (m + 1)) else 0) = _
    by_cases c : m + 1 ≤ n + 1
    · rw [if_pos c, if_pos c]
      show _ + ptA (pt m) (m + 1) n _ = _ + ptA (pt m) (m + 1) _ _
      rw [ptA_fuel (pt m) (by omega) n (n + 1 - (m + 1)) (n + 1 - (m + 1)) (by omega) (Nat.le_refl _)]
    · rw [if_neg c, if_neg c]
theorem pt_lt {m n : Nat} (h : n < m + 1) : pt (m + 1) n = pt m n := by
  rw [pt_succ, if_neg (by omega)]
  omega
theorem pt_ge {m n : Nat} (h : m + 1 ≤ n) : pt (m + 1) n = pt m n + pt (m + 1) (n - (m + 1)) := by
  rw [pt_succ, if_pos h]
theorem pt_mono {m n : Nat} : ∀ {k : Nat}, m ≤ k → pt m n ≤ pt k n
  | 0, h => by
    have : m = 0 := by omega
    rw [this]
    exact Nat.le_refl _
  | k + 1, h => by
    by_cases c : m = k + 1
    · rw [c]
      exact Nat.le_refl _
    · have := pt_mono (n := n) (show m ≤ k by omega)
      rw [pt_succ]
      omega
theorem pt_top {m n : Nat} (h : n ≤ m) : pt m n = pt n n := by
  obtain ⟨d, rfl⟩ : ∃ d, m = n + d := ⟨m - n, by omega⟩
  induction d with
  | zero => rfl
  | succ d ih =>
    show pt (n + d + 1) n = _
    rw [pt_lt (by omega), ih (by omega)]
theorem pt_min (m n : Nat) : pt (min m n) n = pt m n := by
  by_cases h : m ≤ n
  · rw [Nat.min_eq_left h]
  · rw [Nat.min_eq_right (by omega)]
    exact (pt_top (by omega)).symm
theorem pt_z0 {n : Nat} (h : 0 < n) : pt 0 n = 0 := if_neg (by omega)
theorem pt_at0 : ∀ m, pt m 0 = 1
  | 0 => rfl
  | m + 1 => by rw [pt_lt (by omega), pt_at0 m]
theorem pt_pos : ∀ (n : Nat), 0 < pt n n := by
  intro n
  rcases Nat.eq_zero_or_pos n with z | z
  · rw [z]
    decide
  · obtain ⟨m, rfl⟩ : ∃ m, n = m + 1 := ⟨n - 1, by omega⟩
    rw [pt_ge (Nat.le_refl _), Nat.sub_self, pt_at0]
    omega
def rowL (W m : Nat) : List Int := (List.range (W + 1)).map fun n => ((pt m n : Nat) : Int)
def rowsL (W G : Nat) : List (List Int) := (List.range (G + 1)).map (rowL W)
theorem rowL_len (W m : Nat) : (rowL W m).length = W + 1 := by
  unfold rowL
  rw [List.length_map, List.length_range]
theorem rowL_get {W m n : Nat} (h : n ≤ W) : (rowL W m)[n]? = some ((pt m n : Nat) : Int) := by
  unfold rowL
  rw [List.getElem?_map, List.getElem?_range (by omega)]
  rfl
theorem rowL_getD {W m n : Nat} (h : n ≤ W) : (rowL W m).getD n 0 = ((pt m n : Nat) : Int) := by
  rw [List.getD, rowL_get h]
  rfl
theorem rowsL_get {W G m : Nat} (h : m ≤ G) : (rowsL W G)[m]? = some (rowL W m) := by
  unfold rowsL
  rw [List.getElem?_map, List.getElem?_range (by omega)]
  rfl
theorem rowsL_succ (W G : Nat) : rowsL W (G + 1) = rowsL W G ++ [rowL W (G + 1)] := by
  unfold rowsL
  rw [List.range_succ, List.map_append]
  rfl
theorem row_zero (W : Nat) : rowL W 0 = 1 :: List.replicate W 0 := by
  unfold rowL
  rw [List.range_succ_eq_map, List.map_cons, List.map_map]
  have : (List.range W).map ((fun n => ((pt 0 n : Nat) : Int)) ∘ Nat.succ) = List.replicate W 0 := List.eq_replicate_iff.mpr ⟨by rw [List.length_map, List.length_range], fun x hx => by
    obtain ⟨n, _, rfl⟩ := List.mem_map.mp hx
    show ((pt 0 (n + 1) : Nat) : Int) = 0
    rw [pt_z0 (by omega)]
    rfl⟩
  rw [this]
  rfl
/-- a row that is being made: to t behind m + 1 it stands for m + 1 -/
def halfR (W m t : Nat) : List Int := (List.range (W + 1)).map fun n => if n < m + 1 + t then ((pt (m + 1) n : Nat) : Int) else ((pt m n : Nat) : Int)
theorem halfR_len (W m t : Nat) : (halfR W m t).length = W + 1 := by
  unfold halfR
  rw [List.length_map, List.length_range]
theorem halfR_get {W m t n : Nat} (h : n ≤ W) : (halfR W m t)[n]? = some (if n < m + 1 + t then ((pt (m + 1) n : Nat) : Int) else ((pt m n : Nat) : Int)) := by
  unfold halfR
  rw [List.getElem?_map, List.getElem?_range (by omega)]
  rfl
theorem halfR_zero (W m : Nat) : halfR W m 0 = rowL W m := by
  unfold halfR rowL
  refine List.map_congr_left fun n hn => ?_
  by_cases c : n < m + 1 + 0
  · rw [if_pos c, pt_lt (by omega)]
  · rw [if_neg c]
theorem halfR_full {W m t : Nat} (h : W < m + 1 + t) : halfR W m t = rowL W (m + 1) := by
  unfold halfR rowL
  refine List.map_congr_left fun n hn => ?_
  have := List.mem_range.mp hn
  rw [if_pos (by omega)]
theorem halfR_step {W m t : Nat} (h : m + 1 + t ≤ W) : (halfR W m t).set (m + 1 + t) ((halfR W m t).getD (m + 1 + t) 0 + (halfR W m t).getD t 0) = halfR W m (t + 1) := by
  have l1 := halfR_len W m t
  have l2 := halfR_len W m (t + 1)
  have g1 : (halfR W m t).getD (m + 1 + t) 0 = ((pt m (m + 1 + t) : Nat) : Int) := by
    rw [List.getD, halfR_get h, if_neg (by omega)]
    rfl
  have g2 : (halfR W m t).getD t 0 = ((pt (m + 1) t : Nat) : Int) := by
    rw [List.getD, halfR_get (by omega), if_pos (by omega)]
    rfl
  rw [g1, g2]
  refine List.ext_getElem? fun n => ?_
  by_cases hn : n ≤ W
  · rw [List.getElem?_set, l1, halfR_get hn, halfR_get hn]
    by_cases c : m + 1 + t = n
    · subst c
      rw [if_pos rfl, if_pos (by omega), if_pos (by omega), pt_ge (show m + 1 ≤ m + 1 + t by omega), show m + 1 + t - (m + 1) = t by omega]
      rfl
    · rw [if_neg c]
      by_cases d : n < m + 1 + t
      · rw [if_pos d, if_pos (by omega)]
      · rw [if_neg d, if_neg (by omega)]
  · rw [List.getElem?_eq_none (by rw [List.length_set]; omega), List.getElem?_eq_none (by omega)]
/-! ### stairparts.counting: _check_whole, _count_rows, how_many, where nothing is refused -/
section
variable {P : Program} {w : World} {K : PySem.W.Frag} {mg : Str → Option Value} {base : Heap}
def sp_check_whole : Sp := fun vs H Q _ => ∃ i : Int, vs = [.int i] ∧ 0 ≤ i ∧ i ≤ 200 ∧ RetV .non H Q
theorem ok_check_whole (T : Tx K mg) : FnOk P w K mg base CX0 4 T.a_check_whole T.d_check_whole ["thing"] sp_check_whole := by
  refine T.F_check_whole.ok sc_check_whole (fun vs H Q E h => ?_) (fun cdv A outer s H vs Q E hr h => ?_)
  · obtain ⟨i, rfl, _⟩ := h
    rfl
  · obtain ⟨i, rfl, h0, h1, q⟩ := h
    refine ⟨_, (pss_cons (ps_expr (pe_call (ok_check_number T) (hr.mono (by decide)) (by rfl) T.g_check_number T.F_check_number.kp T.b_check_number .nil pass0 (pa_cons (pv 0) pa_nil)))
    (pss_one (ps_if (pt_cmpR op_gt (pv 0) (pe_glob rfl T.c_GREATEST_WHOLE T.r_GREATEST_WHOLE) (nomark _))
      (pss_one ps_never)
      pss_nil))), ?_⟩
    refine q_drop (ev_call (ea_cons (ev_var rfl) ea_nil) (spv_checkn h0)) fun H1 e1 => ?_
    refine s_when (et_test (ev_rI0 (ev_var rfl) ev_c)) (fun hb => ?_) (fun _ H2 e2 => q H2 (e1.trans e2))
    have := of_decide_eq_true hb
    omega
theorem spv_whole {i : Int} {H : Hp} (h0 : 0 ≤ i) (h1 : i ≤ 200) : SpV sp_check_whole [.int i] H .non := fun _ _ _ q _ => ⟨i, rfl, h0, h1, q⟩
def sp_count_rows : Sp := fun vs H Q _ => ∃ W G : Nat, vs = [.int (W : Int), .int (G : Int)] ∧ W ≤ 200 ∧ G ≤ 200 ∧ RetLL (rowsL W G) H Q
theorem ok_count_rows (T : Tx K mg) : FnOk P w K mg base CX0 1 T.a_count_rows T.d_count_rows ["whole", "greatest"] sp_count_rows := by
  refine T.F_count_rows.ok sc_count_rows (fun vs H Q E h => ?_) (fun cdv A outer s H vs Q E hr h => ?_)
  · obtain ⟨W, G, rfl, _⟩ := h
    rfl
  · obtain ⟨W, G, rfl, hW, hG, q⟩ := h
    refine ⟨_, (pss_cons (ps_set (i := 2) sc_count_rows.nd rfl (Or.inl rfl) (pe_lst (pa_cons (pe_op op_cat (pe_lst (pa_cons pe_int pa_nil)) (pe_op op_rep (pe_lst (pa_cons pe_int pa_nil)) (pv 0))) pa_nil)))
    (pss_cons (ps_for PassesOwn.never rfl (pi_range2 (by rfl) T.n_range (pa_cons pe_int (pa_cons (pe_op op_add (pv 1) pe_int) pa_nil))) (pg_name (i := 3) sc_count_rows.nd rfl (Or.inl rfl))
      (pss_cons (ps_set (i := 4) sc_count_rows.nd rfl (Or.inl rfl) (pe_callTy (listK (K := K) rfl) (by rfl) T.n_list (by decide +kernel) (pa_cons (pe_ix (ixlK (K := K) rfl) (pv 2) (pe_op op_sub (pv 3) pe_int) (fun _ _ => rfl)) pa_nil)))
      (pss_cons (ps_for PassesOwn.never rfl (pi_range2 (by rfl) T.n_range (pa_cons (pv 3) (pa_cons (pe_op op_add (pv 0) pe_int) pa_nil))) (pg_name (i := 5) sc_count_rows.nd rfl (Or.inl rfl))
        (pss_one (ps_augL (K := K) rfl (pv 4) (pv 5) (pe_ix (ixlK (K := K) rfl) (pv 4) (pe_op op_sub (pv 5) (pv 3)) (fun _ _ => rfl)) ip_add)))
      (pss_one (ps_expr (pe_bm PySem.F.plainAttrs_list PySem.F.slot_list_append PySem.F.type_list_append mt_append (pv 2) (pa_cons (pv 4) pa_nil)))))))
    (pss_one (ps_ret (pv 2))))), ?_⟩
    refine q_asgP (ep_lst (eap_consL (zs := (rowL W 0).map V.int) (el_is (el_catNN (zs := [V.int 1]) (ws := (List.replicate W (0 : Int)).map V.int) (el_lst (ea_cons ev_c ea_nil) (by show 1 ≤ 100000; decide)) (el_is (el_repZ (k := (W : Int)) (el_lst (ea_cons ev_c ea_nil) (by show 1 ≤ 100000; decide)) (ev_var rfl) ⟨by omega, by omega⟩) (by rw [Int.toNat_natCast])) (by rw [List.length_map, List.length_replicate]; show 1 + W ≤ 100000; omega)) (by rw [row_zero]; rfl)) eap_nil) (mono_consL mono_nil) (fun vs H1 hv => by
      obtain ⟨_, _, rfl, _, _, rfl⟩ := hv
      show 1 ≤ 100000
      decide)) fun v H1 e1 hv => ?_
    obtain ⟨p, vs, rfl, np, hp, r, _, rfl, nr, hr0, rfl⟩ := hv
    refine q_forR2 (lo := 1) (n := (G : Int) + 1) (ea_cons ev_c (ea_cons (ev_rI0 (ev_var rfl) ev_c) ea_nil)) ⟨by decide, by decide, by omega, by omega⟩
      (fun i σ' H' => ∃ (zs : List V) (y3 y4 y5 : Option V), σ' = [some (.int (W : Int)), some (.int (G : Int)), some (.ref p), y3, y4, y5] ∧ Ex H H' ∧ H' p = some (.lst zs) ∧ Lls H' zs (rowsL W i) ∧ ∀ z ∈ zs, z ≠ .ref p)
      (fun H2 e2 => ⟨_, none, none, none, rfl, e1.trans e2, e2 _ _ hp, .cons (e2 _ _ hr0) .nil, fun z hz => by
        rw [List.mem_singleton.mp hz]
        intro e
        cases e
        have h1 : H1 p = _ := hr0
        rw [hp, row_zero] at h1
        cases h1⟩) (fun i σ' H' hi hP => ?_) (fun σ' H' hP => ?_)
    · obtain ⟨zs, y3, y4, y5, rfl, eH, hp', hL, hne⟩ := hP
      have ll := hL.len
      have lr : (rowsL W i).length = i + 1 := by unfold rowsL; rw [List.length_map, List.length_range]
      obtain ⟨qa, g1, g2⟩ := hL.get (rowsL_get (W := W) (Nat.le_refl i))
      refine q_asgL (xs := (rowL W i).map V.int) (el_callB1 (evP_row (L := rowsL W i) (i := i) (evP_LL rfl hp' hL) (fun H2 e2 => ev_is (ev_rI0 (ev_var rfl) ev_c) (by congr 1; omega)) (rowsL_get (Nat.le_refl i)))) fun o H2 no e2 ho => ?_
      have noH : H o = none := fresh_back eH no
      have nop : p ≠ o := ne_fresh0' hp' no
      refine q_forR2 (lo := 1 + (i : Int)) (n := (W : Int) + 1) (ea_cons (ev_var rfl) (ea_cons (ev_rI0 (ev_var rfl) ev_c) ea_nil)) ⟨by omega, by omega, by omega, by omega⟩
        (fun t σ' H' => ∃ y5 : Option V, σ' = [some (V.int (W : Int)), some (.int (G : Int)), some (.ref p), some (.int (1 + (i : Int))), some (.ref o), y5] ∧ Ex H H' ∧ H' p = some (.lst zs) ∧ Lls H' zs (rowsL W i) ∧ (∀ z ∈ zs, z ≠ .ref o) ∧ Ll H' o (halfR W i t))
        (fun H3 e3 => ⟨_, rfl, (eH.trans e2).trans e3, (e2.trans e3) _ _ hp', hL.mono (e2.trans e3), hL.ne no, by rw [halfR_zero]; exact e3 _ _ ho⟩) (fun t σ' H3 ht hP => ?_) (fun σ' H3 hP => ?_)
      · obtain ⟨y5, rfl, eH3, hp3, hL3, hno, ho3⟩ := hP
        have ix : (1 + (i : Int) + (t : Int)) = ((i + 1 + t : Nat) : Int) := by omega
        have lh := halfR_len W i t
        refine s_augL' (k := i + 1 + t) (a := (halfR W i t).getD (i + 1 + t) 0) (b := (halfR W i t).getD t 0) (ev_var rfl) (ev_is (ev_var rfl) (by rw [ix])) (ev_is (ev_ixJ (j := t) (ev_var rfl) (ev_is (ev_rI0 (ev_var rfl) (ev_var rfl)) (by congr 1; omega)) (Ll.sq ho3) (by omega)) rfl) ho3 (by
          rw [List.getD, List.getElem?_eq_getElem (by omega)]
          rfl) fun H4 e4 => ?_
        refine ⟨_, rfl, (eH3.trans e4).mut noH, ?_, ?_, hno, ?_⟩
        · rw [upd_ne nop]
          exact e4 _ _ hp3
        · exact (hL3.mono e4).upd hno
        · show upd H4 o _ o = _
          rw [upd_same, halfR_step (by omega)]
      · obtain ⟨y5, rfl, eH3, hp3, hL3, hno, ho3⟩ := hP
        rw [halfR_full (by omega)] at ho3
        refine s_app hp3 (ev_var rfl) (ev_var rfl) (by omega) fun H4 e4 => ?_
        have npp : ∀ z ∈ zs ++ [V.ref o], z ≠ .ref p := fun z hz => by
          rcases List.mem_append.mp hz with m | m
          · exact hne z m
          · rw [List.mem_singleton.mp m]
            intro e
            cases e
            exact nop rfl
        refine ⟨zs ++ [.ref o], _, _, _, rfl, (eH3.trans e4).mut np, upd_same, ?_, npp⟩
        rw [rowsL_succ]
        exact ((hL3.mono e4).snoc (e4 _ _ ho3)).upd npp
    · obtain ⟨zs, y3, y4, y5, rfl, eH, hp', hL, hne⟩ := hP
      rw [show ((G : Int) + 1 - 1).toNat = G by omega] at hL
      exact s_ret (ev_var rfl) fun H3 e3 => q p zs H3 np (eH.trans e3) (e3 _ _ hp') (hL.mono e3)
theorem evP_counts {W G : Nat} {σ : L2.St} {H : Hp} {ta : TA} {E : XK} (h : EvA ta σ H [.int (W : Int), .int (G : Int)]) (hW : W ≤ 200) (hG : G ≤ 200) : EvP (tCall sp_count_rows [] E ta) σ H (IsLL (rowsL W G)) :=
  evP_callLL h fun H1 e Q q E => ⟨W, G, rfl, hW, hG, q⟩
/-- what how_many is asked for: the whole, and a most or None -/
def mostV (W : Nat) : V → Nat
  | .int i => min i.toNat W
  | _ => W
def sp_how_many : Sp := fun vs H Q _ => ∃ (W : Nat) (m : V), vs = [.int (W : Int), m] ∧ W ≤ 200 ∧ (m = .non ∨ ∃ i : Int, m = .int i ∧ 0 ≤ i) ∧ RetV (.int ((pt (mostV W m) W : Nat) : Int)) H Q
theorem ok_how_many (T : Tx K mg) : FnOk P w K mg base CX0 5 T.a_how_many T.d_how_many ["whole", "most"] sp_how_many := by
  refine T.F_how_many.ok sc_how_many (fun vs H Q E h => ?_) (fun cdv A outer s H vs Q E hr h => ?_)
  · obtain ⟨W, m, rfl, _⟩ := h
    rfl
  · obtain ⟨W, m, rfl, hW, hm, q⟩ := h
    refine ⟨_, (pss_cons (ps_expr (pe_call (ok_check_whole T) (hr.mono (by decide)) (by rfl) T.g_check_whole T.F_check_whole.kp T.b_check_whole .nil pass0 (pa_cons (pv 0) pa_nil)))
    (pss_cons (ps_set (i := 2) sc_how_many.nd rfl (Or.inl rfl) (pv 0))
    (pss_cut (ps_if (pt_cmpR op_notN (pv 1) pe_non (nomark _))
      (pss_cons (ps_expr (pe_call (ok_check_number T) (hr.mono (by decide)) (by rfl) T.g_check_number T.F_check_number.kp T.b_check_number .nil pass0 (pa_cons (pv 1) pa_nil)))
      (pss_one (ps_set (i := 2) sc_how_many.nd rfl (Or.inl rfl) (pe_callB (call_min2 rfl) (by rfl) T.n_min (by decide +kernel) (pa_cons (pv 1) (pa_cons (pv 0) pa_nil))))))
      pss_nil)
    (pss_one (ps_ret (pe_ix (ixlK (K := K) rfl) (pe_ix (ixlK (K := K) rfl) (pe_call (ok_count_rows T) (hr.mono (by decide)) (by rfl) T.g_count_rows T.F_count_rows.kp T.b_count_rows .nil pass0 (pa_cons (pv 0) (pa_cons (pv 2) pa_nil))) (pv 2) (fun _ _ => rfl)) (pv 0) (fun _ _ => rfl))))))), ?_⟩
    refine q_drop (ev_call (ea_cons (ev_var rfl) ea_nil) (spv_whole (by omega) (by omega))) fun H1 e1 => ?_
    refine q_asg (ev_var rfl) fun H2 e2 => ?_
    have hml : mostV W m ≤ W := by
      unfold mostV
      split
      · exact Nat.min_le_right _ _
      · exact Nat.le_refl _
    refine q_cut (M := fun σ' H' => σ' = [some (.int (W : Int)), some m, some (.int ((mostV W m : Nat) : Int))] ∧ Ex H H') (s_when (et_test (ev_notN (ev_var rfl))) (fun hb H3 e3 => ?_) (fun hb H3 e3 => ?_)) fun σ' H' hM => ?_
    · rcases hm with rfl | ⟨i, rfl, h0⟩
      · cases hb
      · refine q_drop (ev_call (ea_cons (ev_var rfl) ea_nil) (spv_checkn h0)) fun H4 e4 => ?_
        refine s_asg (ev_is (ev_cb (ea_cons (ev_var rfl) (ea_cons (ev_var rfl) ea_nil)) rc_min2) ?_) fun H5 e5 => ⟨rfl, (e1.trans e2).trans (e3.trans (e4.trans e5))⟩
        show V.int (if (W : Int) < i then (W : Int) else i) = V.int ((min i.toNat W : Nat) : Int)
        congr 1
        split <;> omega
    · rcases hm with rfl | ⟨i, rfl, h0⟩
      · exact ⟨rfl, (e1.trans e2).trans e3⟩
      · cases hb
    · obtain ⟨rfl, eH⟩ := hM
      refine s_ret (ev_item (i := W) (evP_row (i := mostV W m) (evP_counts (ea_cons (ev_var rfl) (ea_cons (ev_var rfl) ea_nil)) hW (by omega)) (fun _ _ => ev_var rfl) (rowsL_get (Nat.le_refl _))) (fun _ _ => ev_var rfl) (rowL_get (Nat.le_refl W))) fun H5 e5 => q H5 (eH.trans e5)
theorem spv_many {W : Nat} {m : V} {H : Hp} (hW : W ≤ 200) (hm : m = .non ∨ ∃ i : Int, m = .int i ∧ 0 ≤ i) : SpV sp_how_many [.int (W : Int), m] H (.int ((pt (mostV W m) W : Nat) : Int)) := fun _ _ _ q _ => ⟨W, m, rfl, hW, hm, q⟩
end
/-! ### the numbers of partings -/
/-- the number of a parting -/
def nbr : List Int → Nat
  | [] => 0
  | x :: r => pt (x.toNat - 1) (x + r.sum).toNat + nbr r
theorem nbr_cons (x : Int) (r : List Int) : nbr (x :: r) = pt (x.toNat - 1) (x + r.sum).toNat + nbr r := rfl
theorem IsP_tail {x : Int} {r : List Int} (h : IsP (x :: r)) : IsP r ∧ 0 ≤ r.sum := by
  have h1 := h.1 x List.mem_cons_self
  have h2 := sum_nn (p := r) fun y hy => by have := h.1 y (List.mem_cons_of_mem _ hy); omega
  have h3 := h.2.2
  rw [List.sum_cons] at h3
  exact ⟨⟨fun y hy => h.1 y (List.mem_cons_of_mem _ hy), (List.pairwise_cons.mp h.2.1).2, by omega⟩, h2⟩
theorem pt_down {k n : Nat} (hk : 0 < k) (hn : k ≤ n) : pt k n = pt (k - 1) n + pt k (n - k) := by
  obtain ⟨m, rfl⟩ : ∃ m, k = m + 1 := ⟨k - 1, by omega⟩
  exact pt_ge hn
/-- the numbers of those that begin with x lie between -/
theorem nbr_between : ∀ {r : List Int} {x : Int}, IsP (x :: r) → nbr (x :: r) < pt x.toNat (x + r.sum).toNat
  | [], x, h => by
    have h1 := h.1 x List.mem_cons_self
    rw [nbr_cons, List.sum_nil, Int.add_zero, pt_down (k := x.toNat) (by omega) (Nat.le_refl _), Nat.sub_self, pt_at0]
    show pt (x.toNat - 1) x.toNat + 0 < _
    omega
  | y :: s, x, h => by
    have h1 := h.1 x List.mem_cons_self
    have hy := (List.pairwise_cons.mp h.2.1).1 y List.mem_cons_self
    obtain ⟨it, st⟩ := IsP_tail h
    have ih := nbr_between it
    have y1 := it.1 y List.mem_cons_self
    rw [nbr_cons, pt_down (k := x.toNat) (n := (x + (y :: s).sum).toNat) (by omega) (by omega)]
    have e : (x + (y :: s).sum).toNat - x.toNat = (y + s.sum).toNat := by rw [List.sum_cons]; rw [List.sum_cons] at st; omega
    rw [e]
    have := pt_mono (n := (y + s.sum).toNat) (show y.toNat ≤ x.toNat by omega)
    omega
theorem nbr_lt {p : List Int} (h : IsP p) : nbr p < pt p.sum.toNat p.sum.toNat := by
  cases p with
  | nil => decide
  | cons x r =>
    have h1 := nbr_between h
    obtain ⟨it, st⟩ := IsP_tail h
    have x1 := h.1 x List.mem_cons_self
    rw [List.sum_cons]
    have := pt_mono (n := (x + r.sum).toNat) (show x.toNat ≤ (x + r.sum).toNat by omega)
    omega
/-- lesser ones ahead -/
theorem nbr_order : ∀ {p q : List Int}, IsP p → IsP q → p.sum = q.sum → (p < q ↔ nbr p < nbr q) ∧ (nbr p = nbr q → p = q)
  | [], [], _, _, _ => ⟨⟨fun h => (by cases h), fun h => (by cases h)⟩, fun _ => rfl⟩
  | [], y :: s, _, hq, e => by
    exfalso
    obtain ⟨_, st⟩ := IsP_tail hq
    have y1 := hq.1 y List.mem_cons_self
    rw [List.sum_cons] at e
    have e' : (0 : Int) = y + s.sum := e
    omega
  | x :: r, [], hp, _, e => by
    exfalso
    obtain ⟨_, st⟩ := IsP_tail hp
    have y1 := hp.1 x List.mem_cons_self
    rw [List.sum_cons] at e
    have e' : x + r.sum = (0 : Int) := e
    omega
  | x :: r, y :: s, hp, hq, e => by
    obtain ⟨ip, sp⟩ := IsP_tail hp
    obtain ⟨iq, sq⟩ := IsP_tail hq
    have x1 := hp.1 x List.mem_cons_self
    have y1 := hq.1 y List.mem_cons_self
    have bp := nbr_between hp
    have bq := nbr_between hq
    rw [List.sum_cons, List.sum_cons] at e
    have far : ∀ {x y : Int} {r s : List Int}, 1 ≤ x → x < y → x + r.sum = y + s.sum → nbr (x :: r) < pt x.toNat (x + r.sum).toNat → nbr (x :: r) < nbr (y :: s) := fun {x y r s} h1 h2 h3 h4 => by
      rw [nbr_cons y s, ← h3]
      have := pt_mono (n := (x + r.sum).toNat) (show x.toNat ≤ y.toNat - 1 by omega)
      omega
    rw [List.cons_lt_cons_iff]
    rcases Int.lt_trichotomy x y with c | c | c
    · have := far x1 c e bp
      exact ⟨⟨fun _ => this, fun _ => .inl c⟩, fun z => by omega⟩
    · subst c
      have er : r.sum = s.sum := by omega
      obtain ⟨i1, i2⟩ := nbr_order ip iq er
      rw [nbr_cons, nbr_cons, er]
      refine ⟨⟨fun h => ?_, fun h => .inr ⟨rfl, i1.mpr (by omega)⟩⟩, fun z => by rw [i2 (by omega)]⟩
      rcases h with h | ⟨_, h⟩
      · omega
      · have := i1.mp h
        omega
    · have := far y1 c e.symm bq
      refine ⟨⟨fun h => ?_, fun h => by omega⟩, fun z => by omega⟩
      rcases h with h | ⟨h, _⟩
      · omega
      · omega
/-- the sum over the lesser first parts -/
theorem lesser_sum {n : Nat} (hn : 0 < n) : ∀ k : Nat, k < n → ((List.range k).map fun l => pt (l + 1) (n - (l + 1))).sum = pt k n
  | 0, _ => (pt_z0 hn).symm
  | k + 1, h => by
    have ih := lesser_sum hn k (by omega)
    rw [List.range_succ, List.map_append, List.sum_append_nat, ih, pt_ge (show k + 1 ≤ n by omega)]
    simp
/-! ### stairparts.counting: number_of, _first_part, parting_of -/
section
variable {P : Program} {w : World} {K : PySem.W.Frag} {mg : Str → Option Value} {base : Heap}
def sp_number_of : Sp := fun vs H Q _ => ∃ (a : Addr) (ns : List Int), vs = [.ref a] ∧ Ll H a ns ∧ IsP ns ∧ RetV (.int ((nbr ns : Nat) : Int)) H Q
theorem ok_number_of (T : Tx K mg) : FnOk P w K mg base CX0 4 T.a_number_of T.d_number_of ["parting"] sp_number_of := by
  refine T.F_number_of.ok sc_number_of (fun vs H Q E h => ?_) (fun cdv A outer s H vs Q E hr h => ?_)
  · obtain ⟨a, ns, rfl, _⟩ := h
    rfl
  · obtain ⟨a, ns, rfl, hL, hp, q⟩ := h
    refine ⟨_, (pss_cons (ps_expr (pe_call (ok_check_parting T) (hr.mono (by decide)) (by rfl) T.g_check_parting T.F_check_parting.kp T.b_check_parting .nil pass0 (pa_cons (pv 0) pa_nil)))
    (pss_cons (ps_set (i := 1) sc_number_of.nd rfl (Or.inl rfl) (pe_callB (sumK (K := K) rfl rfl) (by rfl) T.n_sum (by decide +kernel) (pa_cons (pv 0) pa_nil)))
    (pss_cons (ps_set (i := 2) sc_number_of.nd rfl (Or.inl rfl) (pe_call (ok_count_rows T) (hr.mono (by decide)) (by rfl) T.g_count_rows T.F_count_rows.kp T.b_count_rows .nil pass0 (pa_cons (pv 1) (pa_cons (pe_callBK (maxDK (K := K) rfl rfl hr.two) (by rfl) T.n_max (by decide +kernel) (pa_cons (pv 0) pa_nil) (pk_cons pe_int pk_nil)) pa_nil))))
    (pss_cons (ps_set (i := 3) sc_number_of.nd rfl (Or.inl rfl) pe_int)
    (pss_cons (ps_for PassesOwn.never rfl (pi_list (pv 0)) (pg_name (i := 4) sc_number_of.nd rfl (Or.inl rfl))
      (pss_cons (ps_aug (i := 3) sc_number_of.nd rfl (Or.inl rfl) (pe_ix (ixlK (K := K) rfl) (pe_ix (ixlK (K := K) rfl) (pv 2) (pe_op op_sub (pv 4) pe_int) (fun _ _ => rfl)) (pv 1) (fun _ _ => rfl)) ip_add)
      (pss_one (ps_aug (i := 1) sc_number_of.nd rfl (Or.inl rfl) (pv 4) ip_sub))))
    (pss_one (ps_ret (pv 3)))))))), ?_⟩
    have hl := hp.len
    have s0 := sum_nn (p := ns) fun x hx => by have := hp.1 x hx; omega
    have m0 := mx_nn ns
    have m1 := mx_le hp
    have s1 := hp.2.2
    refine q_drop (ev_call (ea_cons (ev_var rfl) ea_nil) (spv_check hL hp)) fun H1 e1 => ?_
    refine q_asg (v := .int ((ns.sum.toNat : Nat) : Int)) (ev_is (ev_cb (ea_cons (ev_var rfl) ea_nil) (rc_sum (ex_l e1 hL.sq))) (by congr 1; omega)) fun H2 e2 => ?_
    refine q_asgP (evP_counts (W := ns.sum.toNat) (G := (mx ns).toNat) (ea_cons (ev_var rfl) (ea_cons (ev_is (ev_maxD (m := mx ns) (ea_cons (ev_var rfl) ea_nil) (ea_cons ev_c ea_nil) (ex_l (e1.trans e2) hL.sq) (fun z => ?_) (fun k k1 k2 => ?_)) (by congr 1; omega)) ea_nil)) (by omega) (by omega)) fun v H3 e3 hv => ?_
    · rw [z]
      rfl
    · exact mx_eq (by have := hp.1 k k1; omega) k1 k2
    · obtain ⟨r, rs, rfl, hr1, hR⟩ := hv
      refine q_asg ev_c fun H4 e4 => ?_
      have e14 := ((e1.trans e2).trans e3).trans e4
      refine q_forLn (ev_var rfl) (ex_l e14 hL.sq) (fun i σ' H' => ∃ (c : Nat) (y : Option V), σ' = [some (.ref a), some (.int (ns.drop i).sum), some (.ref r), some (.int (c : Int)), y] ∧ Ex H4 H' ∧ c + nbr (ns.drop i) = nbr ns)
        (fun H5 e5 => ⟨0, none, by rw [List.drop_zero, show ((ns.sum.toNat : Nat) : Int) = ns.sum by omega]; rfl, e5, by rw [List.drop_zero]; omega⟩) (fun i σ' H' _ hP => ?_) (fun i x σ' H' hx hP => ?_) (fun σ' H' hP => ?_)
      · obtain ⟨c, y, rfl, eH, _⟩ := hP
        exact ex_l (e14.trans eH) hL.sq
      · obtain ⟨c, y, rfl, eH, hc⟩ := hP
        obtain ⟨z, hz, rfl⟩ := get_int hx
        have zm := List.mem_of_getElem? hz
        have z1 := hp.1 z zm
        have z2 := mx_mem z zm
        have sd := sum_nn (p := ns.drop (i + 1)) fun x hx => by have := hp.1 x (List.mem_of_mem_drop hx); omega
        have st := sum_nn (p := ns.take i) fun x hx => by have := hp.1 x (List.mem_of_mem_take hx); omega
        have es : ns.sum = (ns.take i).sum + (ns.drop i).sum := by
          conv => lhs; rw [← List.take_append_drop i ns]
          exact sum_append _ _
        rw [drop_one hz] at hc es ⊢
        rw [nbr_cons] at hc
        rw [List.sum_cons] at es ⊢
        refine q_aug rfl (ev_item (i := (z + (ns.drop (i + 1)).sum).toNat) (evP_row (i := z.toNat - 1) (evP_LL rfl ((e4.trans eH) _ _ hr1) (hR.mono (e4.trans eH))) (fun _ _ => ev_is (ev_rI0 (ev_var rfl) ev_c) (by congr 1; omega)) (rowsL_get (by omega))) (fun _ _ => ev_is (ev_var rfl) (by congr 1; omega)) (rowL_get (by omega))) fun H5 e5 => ?_
        refine s_aug rfl (ev_var rfl) fun H6 e6 => ?_
        refine ⟨c + pt (z.toNat - 1) (z + (ns.drop (i + 1)).sum).toNat, some (.int z), ?_, eH.trans (e5.trans e6), by omega⟩
        rw [show z + (ns.drop (i + 1)).sum - z = (ns.drop (i + 1)).sum by omega]
        rfl
      · obtain ⟨c, y, rfl, eH, hc⟩ := hP
        rw [List.drop_of_length_le (by rw [List.length_map]; exact Nat.le_refl _)] at hc
        refine s_ret (ev_var rfl) fun H5 e5 => ?_
        have := q H5 (e14.trans (eH.trans e5))
        rw [← hc] at this
        exact this
theorem spv_number_of {a : Addr} {ns : List Int} {H : Hp} (hL : Ll H a ns) (hp : IsP ns) : SpV sp_number_of [.ref a] H (.int ((nbr ns : Nat) : Int)) := fun H1 e _ q _ => ⟨a, ns, rfl, e _ _ hL, hp, q⟩
/-- the first part of what has the number a among those of n -/
def IsFp (n a k : Nat) : Prop := 0 < k ∧ k ≤ n ∧ a < pt k n ∧ pt (k - 1) n ≤ a
def sp_first_part : Sp := fun vs H Q _ => ∃ (r : Addr) (rs : List V) (W n a : Nat), vs = [.ref r, .int (n : Int), .int (a : Int)] ∧ H r = some (.lst rs) ∧ Lls H rs (rowsL W W) ∧ n ≤ W ∧ 0 < n ∧ a < pt n n ∧ ∀ k, IsFp n a k → RetV (.int (k : Int)) H Q
theorem ok_first_part (T : Tx K mg) : FnOk P w K mg base CX0 1 T.a_first_part T.d_first_part ["rows", "whole", "number"] sp_first_part := by
  refine T.F_first_part.ok sc_first_part (fun vs H Q E h => ?_) (fun cdv A outer s H vs Q E hr h => ?_)
  · obtain ⟨r, rs, W, n, a, rfl, _⟩ := h
    rfl
  · obtain ⟨r, rs, W, n, a, rfl, hr1, hR, hn, n0, ha, q⟩ := h
    refine ⟨_, (pss_cons (ps_set (i := 3) sc_first_part.nd rfl (Or.inl rfl) pe_int)
    (pss_cons (ps_while PassesOwn.never (pt_cmpR op_le (pe_ix (ixlK (K := K) rfl) (pe_ix (ixlK (K := K) rfl) (pv 0) (pv 3) (fun _ _ => rfl)) (pv 1) (fun _ _ => rfl)) (pv 2) (nomark _))
      (pss_one (ps_aug (i := 3) sc_first_part.nd rfl (Or.inl rfl) pe_int ip_add)))
    (pss_one (ps_ret (pv 3))))), ?_⟩
    refine q_asg ev_c fun H1 e1 => ?_
    refine q_while (fun m σ' H' => ∃ k : Nat, m = n - k ∧ 0 < k ∧ k ≤ n ∧ σ' = [some (.ref r), some (.int (n : Int)), some (.int (a : Int)), some (.int (k : Int))] ∧ Ex H H' ∧ pt (k - 1) n ≤ a) (n - 1) ⟨1, rfl, by omega, by omega, rfl, e1, by rw [Nat.sub_self, pt_z0 n0]; omega⟩ fun m σ' H' hW => ?_
    obtain ⟨k, rfl, k0, kn, rfl, eH, hk⟩ := hW
    refine ⟨decide (((pt k n : Nat) : Int) ≤ (a : Int)), et_test (ev_rI0 (ev_item (i := n) (evP_row (i := k) (evP_LL rfl (eH _ _ hr1) (hR.mono eH)) (fun _ _ => ev_var rfl) (rowsL_get (by omega))) (fun _ _ => ev_var rfl) (rowL_get hn)) (ev_var rfl)), fun hb H2 e2 => ?_, fun hb H2 e2 => ?_⟩
    · have hle := of_decide_eq_true hb
      have kn' : k < n := by
        rcases Nat.lt_or_ge k n with c | c
        · exact c
        · have : k = n := by omega
          subst this
          omega
      refine ⟨fun σ2 H2 => ∃ m', m' < n - k ∧ ∃ k : Nat, m' = n - k ∧ 0 < k ∧ k ≤ n ∧ σ2 = [some (.ref r), some (.int (n : Int)), some (.int (a : Int)), some (.int (k : Int))] ∧ Ex H H2 ∧ pt (k - 1) n ≤ a, fun σ2 H2 h => h, ?_⟩
      exact s_aug rfl ev_c fun H3 e3 => ⟨n - (k + 1), by omega, k + 1, rfl, by omega, by omega, rfl, eH.trans (e2.trans e3), by rw [Nat.add_sub_cancel]; omega⟩
    · have hgt := of_decide_eq_false hb
      exact s_ret (ev_var rfl) fun H3 e3 => q k ⟨k0, kn, by omega, hk⟩ H3 (eH.trans (e2.trans e3))
theorem evP_first {r : Addr} {rs : List V} {W n a : Nat} {σ : L2.St} {H : Hp} {ta : TA} {E : XK} (h : EvA ta σ H [.ref r, .int (n : Int), .int (a : Int)]) (hr1 : H r = some (.lst rs)) (hR : Lls H rs (rowsL W W)) (hn : n ≤ W) (n0 : 0 < n) (ha : a < pt n n) :
    EvP (tCall sp_first_part [] E ta) σ H (fun v _ => ∃ k : Nat, v = .int (k : Int) ∧ IsFp n a k) :=
  evP_call h fun H1 e Q q E => ⟨r, rs, W, n, a, rfl, e _ _ hr1, hR.mono e, hn, n0, ha, fun k hk H2 e2 => q _ _ e2 ⟨k, rfl, hk⟩⟩
def sp_parting_of (C : Addr) : Sp := fun vs H Q E => ∃ W a : Nat, vs = [.int (W : Int), .int (a : Int)] ∧ W ≤ 200 ∧ (pt W W ≤ a → ∀ H', Ex H H' → E (.ref C) none H') ∧ (a < pt W W → RetLP (fun p => IsP p ∧ p.sum = (W : Int) ∧ nbr p = a) H Q)
theorem ok_parting_of (T : Tx K mg) : FnOk P w K mg base (L2.CX P w) 5 T.a_parting_of T.d_parting_of ["whole", "number"] (sp_parting_of T.C_NoNumber) := by
  refine T.F_parting_of.okX sc_parting_of (fun vs H Q E h => ?_) (fun cdv A outer s H vs Q E hr h => ?_)
  · obtain ⟨W, a, rfl, _⟩ := h
    rfl
  · obtain ⟨W, a, rfl, hW, qn, qs⟩ := h
    refine ⟨_, (pss_cons (ps_expr (pe_call (ok_check_whole T) (hr.mono (by decide)) (by rfl) T.g_check_whole T.F_check_whole.kp T.b_check_whole .nil pass0 (pa_cons (pv 0) pa_nil)))
    (pss_cons (ps_expr (pe_call (ok_check_number T) (hr.mono (by decide)) (by rfl) T.g_check_number T.F_check_number.kp T.b_check_number .nil pass0 (pa_cons (pv 1) pa_nil)))
    (pss_cons (ps_set (i := 2) sc_parting_of.nd rfl (Or.inl rfl) (pe_call (ok_count_rows T) (hr.mono (by decide)) (by rfl) T.g_count_rows T.F_count_rows.kp T.b_count_rows .nil pass0 (pa_cons (pv 0) (pa_cons (pv 0) pa_nil))))
    (pss_cons (ps_if (pt_cmpR op_ge (pv 1) (pe_ix (ixlK (K := K) rfl) (pe_ix (ixlK (K := K) rfl) (pv 2) (pv 0) (fun _ _ => rfl)) (pv 0) (fun _ _ => rfl)) (nomark _))
      (pss_one (ps_raise rfl (takes_of rfl rfl rfl rfl) (pmk_own PySem.F.excBase_ValueError T.x_NoNumber T.g_NoNumber T.k_NoNumber (raises_own T.s_NoNumber T.t_NoNumber) rfl)))
      pss_nil)
    (pss_cons (ps_set (i := 3) sc_parting_of.nd rfl (Or.inl rfl) (pe_lst pa_nil))
    (pss_cons (ps_set (i := 4) sc_parting_of.nd rfl (Or.inl rfl) (pv 0))
    (pss_cons (ps_set (i := 5) sc_parting_of.nd rfl (Or.inl rfl) (pv 1))
    (pss_cons (ps_while (passes_of rfl) (pt_cmpR op_gt (pv 4) pe_int (nomark _))
      (pss_cons (ps_set (i := 6) sc_parting_of.nd rfl (Or.inl rfl) (pe_call (ok_first_part T) (hr.mono (by decide)) (by rfl) T.g_first_part T.F_first_part.kp T.b_first_part .nil pass0 (pa_cons (pv 2) (pa_cons (pv 4) (pa_cons (pv 5) pa_nil)))))
      (pss_cons (ps_expr (pe_bm PySem.F.plainAttrs_list PySem.F.slot_list_append PySem.F.type_list_append mt_append (pv 3) (pa_cons (pv 6) pa_nil)))
      (pss_cons (ps_aug (i := 5) sc_parting_of.nd rfl (Or.inl rfl) (pe_ix (ixlK (K := K) rfl) (pe_ix (ixlK (K := K) rfl) (pv 2) (pe_op op_sub (pv 6) pe_int) (fun _ _ => rfl)) (pv 4) (fun _ _ => rfl)) ip_sub)
      (pss_one (ps_aug (i := 4) sc_parting_of.nd rfl (Or.inl rfl) (pv 6) ip_sub))))))
    (pss_one (ps_ret (pv 3))))))))))), ?_⟩
    refine q_drop (ev_call (ea_cons (ev_var rfl) ea_nil) (spv_whole (by omega) (by omega))) fun H1 e1 => ?_
    refine q_drop (ev_call (ea_cons (ev_var rfl) ea_nil) (spv_checkn (by omega))) fun H2 e2 => ?_
    refine q_asgP (evP_counts (W := W) (G := W) (ea_cons (ev_var rfl) (ea_cons (ev_var rfl) ea_nil)) hW hW) fun v H3 e3 hv => ?_
    obtain ⟨r, rs, rfl, hr1, hR⟩ := hv
    have e13 := (e1.trans e2).trans e3
    refine q_when (b := decide (((pt W W : Nat) : Int) ≤ (a : Int))) (et_test (ev_rI0 (ev_var rfl) (ev_item (i := W) (evP_row (i := W) (evP_LL rfl hr1 hR) (fun _ _ => ev_var rfl) (rowsL_get (Nat.le_refl _))) (fun _ _ => ev_var rfl) (rowL_get (Nat.le_refl _))))) (fun hb H4 e4 => ?_) (fun hb H4 e4 => ?_)
    · show E (.ref T.C_NoNumber) none H4
      have := of_decide_eq_true hb
      exact qn (by omega) H4 (e13.trans e4)
    · have hlt := of_decide_eq_false hb
      refine q_asgL (xs := []) (el_lst ea_nil (by decide)) fun p H5 np e5 hp => ?_
      have npH : H p = none := fresh_back (e13.trans e4) np
      refine q_asg (ev_var rfl) fun H6 e6 => ?_
      refine q_asg (ev_var rfl) fun H7 e7 => ?_
      have e37 := (e4.trans e5).trans (e6.trans e7)
      have nrp : r ≠ p := fun z => by
        have := e4 _ _ hr1
        rw [z, np] at this
        cases this
      refine q_while (fun m σ' H' => ∃ (f : List Int) (b : Nat) (y : Option V), σ' = [some (.int (W : Int)), some (.int (a : Int)), some (.ref r), some (.ref p), some (.int (m : Int)), some (.int (b : Int)), y] ∧ Ex H H' ∧ H' r = some (.lst rs) ∧ Lls H' rs (rowsL W W) ∧ (∀ z ∈ rs, z ≠ .ref p) ∧ Ll H' p f ∧ IsP f ∧ f.sum + (m : Int) = W ∧
          (∀ x ∈ f, b < pt x.toNat m) ∧ b < pt m m ∧ ∀ g : List Int, IsP (f ++ g) → g.sum = (m : Int) → nbr g = b → nbr (f ++ g) = a) W
        ⟨[], a, none, rfl, e13.trans e37, e37 _ _ hr1, hR.mono e37, ?_, (e6.trans e7) _ _ hp, isPart_iff.mp (by decide +kernel), by simp, (fun x hx => by cases hx), by omega, fun g _ _ hg => hg⟩ fun m σ' H' hW' => ?_
      · intro z hz e
        obtain ⟨k, hk, ek⟩ := List.mem_iff_getElem.mp hz
        obtain ⟨qa, l, h1, _, h3⟩ := hR.at (k := k) (by rw [List.getElem?_eq_getElem hk, ek])
        rw [e] at h1
        cases h1
        have := e4 _ _ h3
        rw [np] at this
        cases this
      · obtain ⟨f, b, y, rfl, eH, hr2, hR2, hne, hf, hfp, hfs, hfx, hb', hfin⟩ := hW'
        refine ⟨decide ((m : Int) > 0), et_test (ev_rI0 (ev_var rfl) ev_c), fun hc H8 e8 => ?_, fun hc H8 e8 => ?_⟩
        · have m0 : 0 < m := by have := of_decide_eq_true hc; omega
          have fs0 := sum_nn (p := f) fun x hx => by have := hfp.1 x hx; omega
          have lf := len_le_sum hfp.1
          refine ⟨fun σ2 H2 => ∃ m', m' < m ∧ ∃ (f : List Int) (b : Nat) (y : Option V), σ2 = [some (.int (W : Int)), some (.int (a : Int)), some (.ref r), some (.ref p), some (.int (m' : Int)), some (.int (b : Int)), y] ∧ Ex H H2 ∧ H2 r = some (.lst rs) ∧ Lls H2 rs (rowsL W W) ∧ (∀ z ∈ rs, z ≠ .ref p) ∧ Ll H2 p f ∧ IsP f ∧ f.sum + (m' : Int) = W ∧
            (∀ x ∈ f, b < pt x.toNat m') ∧ b < pt m' m' ∧ ∀ g : List Int, IsP (f ++ g) → g.sum = (m' : Int) → nbr g = b → nbr (f ++ g) = a, fun σ2 H2 h => h, ?_⟩
          refine q_asgP (evP_first (W := W) (ea_cons (ev_var rfl) (ea_cons (ev_var rfl) (ea_cons (ev_var rfl) ea_nil))) (e8 _ _ hr2) (hR2.mono e8) (by omega) m0 hb') fun v H9 e9 hv => ?_
          obtain ⟨k, rfl, k0, km, ha1, ha2⟩ := hv
          have e89 := e8.trans e9
          refine q_app (e89 _ _ hf) (ev_var rfl) (ev_var rfl) (by rw [List.length_map]; omega) fun H10 e10 => ?_
          have e810 := e89.trans e10
          generalize hX : upd H10 p (.lst (f.map V.int ++ [V.int (k : Int)])) = HX
          have xr : HX r = some (.lst rs) := by rw [← hX, upd_ne nrp]; exact e810 _ _ hr2
          have xR : Lls HX rs (rowsL W W) := by rw [← hX]; exact (hR2.mono e810).upd hne
          have xp : Ll HX p (f ++ [(k : Int)]) := by
            rw [← hX]
            show upd H10 p _ p = _
            rw [upd_same, List.map_append]
            rfl
          have xE : Ex H HX := by rw [← hX]; exact (eH.trans e810).mut npH
          refine q_aug rfl (ev_item (i := m) (evP_row (i := k - 1) (evP_LL rfl xr xR) (fun _ _ => ev_is (ev_rI0 (ev_var rfl) ev_c) (by congr 1; omega)) (rowsL_get (by omega))) (fun _ _ => ev_var rfl) (rowL_get (by omega))) fun H11 e11 => ?_
          refine s_aug rfl (ev_var rfl) fun H12 e12 => ?_
          have e1112 := e11.trans e12
          have hd := pt_down k0 km
          refine ⟨m - k, by omega, f ++ [(k : Int)], b - pt (k - 1) m, some (.int (k : Int)), ?_, xE.trans e1112, e1112 _ _ xr, xR.mono e1112, hne, e1112 _ _ xp, ⟨fun x hx => ?_, ?_, ?_⟩, ?_, fun x hx => ?_, ?_, fun g hg hs hn => ?_⟩
          · rw [show ((m - k : Nat) : Int) = (m : Int) - (k : Int) by omega, show ((b - pt (k - 1) m : Nat) : Int) = (b : Int) - ((pt (k - 1) m : Nat) : Int) by omega]
            rfl
          · rcases List.mem_append.mp hx with h | h
            · exact hfp.1 x h
            · rw [List.mem_singleton.mp h]
              omega
          · rw [List.pairwise_append]
            refine ⟨hfp.2.1, List.pairwise_singleton _ _, fun x hx z hz => ?_⟩
            rw [List.mem_singleton.mp hz]
            have h1 := hfx x hx
            have h2 := hfp.1 x hx
            refine Int.not_lt.mp fun hlt => ?_
            have h3 := pt_mono (n := m) (show x.toNat ≤ k - 1 by omega)
            omega
          · rw [sum_append]
            show f.sum + ((k : Int) + 0) ≤ 200
            omega
          · rw [sum_append]
            show f.sum + ((k : Int) + 0) + _ = _
            omega
          · have base : b - pt (k - 1) m < pt k (m - k) := by omega
            rcases List.mem_append.mp hx with h | h
            · have h1 := hfx x h
              have h2 := hfp.1 x h
              have h4 : k ≤ x.toNat := by
                refine Nat.not_lt.mp fun hlt => ?_
                have h3 := pt_mono (n := m) (show x.toNat ≤ k - 1 by omega)
                omega
              have := pt_mono (n := m - k) h4
              omega
            · rw [List.mem_singleton.mp h, Int.toNat_natCast]
              exact base
          · have base : b - pt (k - 1) m < pt k (m - k) := by omega
            have h5 := pt_min k (m - k)
            have h6 := pt_mono (n := m - k) (show min k (m - k) ≤ m - k from Nat.min_le_right _ _)
            omega
          · rw [List.append_assoc] at hg ⊢
            have gs : g.sum = ((m - k : Nat) : Int) := hs
            refine hfin ((k : Int) :: g) hg (by rw [List.sum_cons, gs]; omega) ?_
            rw [nbr_cons, hn, gs, Int.toNat_natCast, show ((k : Int) + ((m - k : Nat) : Int)).toNat = m by omega]
            omega
        · have m0 : m = 0 := by have := of_decide_eq_false hc; omega
          subst m0
          have hb0 : b = 0 := by
            have := pt_at0 0
            omega
          have hfin' := hfin [] (by rw [List.append_nil]; exact hfp) rfl hb0.symm
          rw [List.append_nil] at hfin'
          exact s_ret (ev_var rfl) fun H9 e9 => qs (by omega) p f H9 npH (eH.trans (e8.trans e9)) ((e8.trans e9) _ _ hf) ⟨hfp, by omega, hfin'⟩
end
/-! ### falling lists, by place -/
theorem at_getD {p : List Int} {i : Nat} (h : i < p.length) : p[i]? = some (p.getD i 0) := by
  rw [List.getD, List.getElem?_eq_getElem h]
  rfl
theorem desc_le {p : List Int} (h : p.Pairwise fun a b => b ≤ a) {i j : Nat} (hij : i ≤ j) (hj : j < p.length) : p.getD j 0 ≤ p.getD i 0 := by
  rcases Nat.lt_or_ge i j with c | c
  · have := List.pairwise_iff_getElem.mp h i j (by omega) hj c
    simp only [List.getD, List.getElem?_eq_getElem hj, List.getElem?_eq_getElem (show i < p.length by omega), Option.getD_some]
    exact this
  · rw [show j = i by omega]
    exact Int.le_refl _
/-! ### _law_is_row -/
section
variable {P : Program} {w : World} {K : PySem.W.Frag} {mg : Str → Option Value} {base : Heap}
def sp_law_is_row : Sp := fun vs H Q _ => ∃ (a b : Addr) (xs ys : List Int), vs = [.ref a, .ref b] ∧ Ll H a xs ∧ Ll H b ys ∧ xs.length ≤ 40000 ∧ RetV (.bl (decide (xs = ys))) H Q
theorem all_true (xs : List Int) : ((xs.map fun _ => true).all id) = true := by
  rw [List.all_eq_true]
  intro b hb
  obtain ⟨_, _, rfl⟩ := List.mem_map.mp hb
  rfl
theorem ok_law_is_row (T : Tx K mg) : FnOk P w K mg base CX0 1 T.a_law_is_row T.d_law_is_row ["_law_found", "_law_due"] sp_law_is_row := by
  refine T.F_law_is_row.ok sc_law_is_row (fun vs H Q E h => ?_) (fun cdv A outer s H vs Q E hr h => ?_)
  · obtain ⟨a, b, xs, ys, rfl, _⟩ := h
    rfl
  · obtain ⟨a, b, xs, ys, rfl, hx, hy, hz, q⟩ := h
    refine ⟨_, (pss_cons (ps_if (PW.pt (pw_or (pt_not (pt_val (pe_callB (isiK (K := K) rfl) (by rfl) T.n_isinstance (by decide +kernel) (pa_cons (pv 0) (pa_cons (pe_bltn (v := .ty "list") (u := .type "list") (by rfl) T.n_list (by decide +kernel) rfl) pa_nil))))) (pw_or1 (pt_cmpR (neK (K := K) rfl hr.units) (pv 0) (pv 1) (nomark _)))))
      (pss_one (ps_ret pe_bl))
      pss_nil)
    (pss_one (ps_ret (pe_callB (allK (K := K) rfl rfl) (by rfl) T.n_all (by decide +kernel) (pa_cons (pe_lc (own := [("_law_one", 2)]) (g := gName 2) (by rfl) sc_law_is_row.nd (pi_list (pv 0)) (blkOk_by (own := [("_law_one", 2)]) (N := ["_law_found", "_law_due", "_law_one"]) (sc := defScope s_law_is_row) (by decide +kernel)) (fun _ _ _ _ _ => (pg_name (i := 2) sc_law_is_row.nd rfl (Or.inl rfl))) (fun _ _ _ _ _ => pts_nil) (fun _ _ _ _ _ => (pe_and (pe_callB (isiK (K := K) rfl) (by rfl) T.n_isinstance (by decide +kernel) (pa_cons (pv 2) (pa_cons (pe_bltn (v := .ty "int") (u := .type "int") (by rfl) T.n_int (by decide +kernel) rfl) pa_nil))) (pe_one (pe_not (pe_callB (isiK (K := K) rfl) (by rfl) T.n_isinstance (by decide +kernel) (pa_cons (pv 2) (pa_cons (pe_bltn (v := .ty "bool") (u := .type "bool") (by rfl) T.n_bool (by decide +kernel) rfl) pa_nil)))))))) pa_nil))))), ?_⟩
    refine q_when (et_or (et_not (et_B (ev_cb (ea_cons (ev_var rfl) (ea_cons ev_c ea_nil)) (rc_isiL hx)))) fun _ => et_test (ev_op (ev_var rfl) (ev_var rfl) (rv_neL hx.sq hy.sq))) (fun hb H1 e1 => ?_) (fun hb H1 e1 => ?_)
    · refine s_ret ev_c fun H2 e2 => ?_
      have hn : decide (xs = ys) = false := by
        cases h : decide (xs = ys) with
        | false => rfl
        | true => rw [h] at hb; cases hb
      have := q H2 (e1.trans e2)
      rw [hn] at this
      exact this
    · have hn : decide (xs = ys) = true := by
        cases h : decide (xs = ys) with
        | true => rfl
        | false => rw [h] at hb; cases hb
      refine s_ret (ev_cbL (el_is (el_lcIA (fun _ => V.bl true) (ev_var rfl) (Ll.sq (e1 _ _ hx)) hz (fun _ => rfl) fun z H2 _ _ => ev_andV (ev_cb (ea_cons (ev_var rfl) (ea_cons ev_c ea_nil)) rc_isiInt) fun _ => ev_notV (ev_cb (ea_cons (ev_var rfl) (ea_cons ev_c ea_nil)) rc_isiBool))
        (show xs.map (fun _ => V.bl true) = (xs.map fun _ => true).map V.bl from (List.map_map).symm)) fun p H2 _ hp => rc_all (sq_of hp)) fun H2 e2 => ?_
      rw [all_true]
      have := q H2 (e1.trans e2)
      rw [hn] at this
      exact this
theorem spv_row {a b : Addr} {xs ys : List Int} {H : Hp} (hx : Ll H a xs) (hy : Ll H b ys) (hz : xs.length ≤ 40000) : SpV sp_law_is_row [.ref a, .ref b] H (.bl (decide (xs = ys))) := fun H1 e _ q _ => ⟨a, b, xs, ys, rfl, e _ _ hx, e _ _ hy, hz, q⟩
end
/-! ### _law_name, of what is no number -/
section
variable {P : Program} {w : World} {K : PySem.W.Frag} {mg : Str → Option Value} {base : Heap}
def sp_law_name (C : Addr) : Sp := fun vs H Q _ => ∃ e : Addr, vs = [.ref e] ∧ H e = some (ErrO (.ref C) e) ∧ RetV (.str "number") H Q
theorem ok_law_name (T : Tx K mg) : FnOk P w K mg base CX0 1 T.a_law_name T.d_law_name ["_law_error"] (sp_law_name T.C_NoNumber) := by
  refine T.F_law_name.ok sc_law_name (fun vs H Q E h => ?_) (fun cdv A outer s H vs Q E hr h => ?_)
  · obtain ⟨e, rfl, _⟩ := h
    rfl
  · obtain ⟨e, rfl, he, q⟩ := h
    refine ⟨_, (pss_cons (ps_set (i := 1) sc_law_name.nd rfl (Or.inl rfl) (pe_lst (pa_cons (pe_callB (isxK (K := K) rfl) (by rfl) T.n_isinstance (by decide +kernel) (pa_cons (pv 0) (pa_cons (pe_glob (v := .ref T.C_NoParting) rfl T.g_NoParting rfl) pa_nil))) (pa_cons (pe_callB (isxK (K := K) rfl) (by rfl) T.n_isinstance (by decide +kernel) (pa_cons (pv 0) (pa_cons (pe_glob (v := .ref T.C_NoFit) rfl T.g_NoFit rfl) pa_nil))) (pa_cons (pe_callB (isxK (K := K) rfl) (by rfl) T.n_isinstance (by decide +kernel) (pa_cons (pv 0) (pa_cons (pe_glob (v := .ref T.C_NoNumber) rfl T.g_NoNumber rfl) pa_nil))) pa_nil)))))
    (pss_cons (ps_if (PW.pt (pw_or (pt_cmpR op_ne (pe_bm PySem.F.plainAttrs_list PySem.F.slot_list_count PySem.F.type_list_count (mt_countB (K := K) rfl) (pv 1) (pa_cons pe_bl pa_nil)) pe_int (nomark _)) (pw_or1 (pt_not (pt_val (pe_callB (isxK (K := K) rfl) (by rfl) T.n_isinstance (by decide +kernel) (pa_cons (pv 0) (pa_cons (pe_bltn (v := .ty "ValueError") (u := .type "ValueError") (by rfl) T.n_ValueError (by decide +kernel) rfl) pa_nil))))))))
      (pss_one (ps_ret pe_str))
      pss_nil)
    (pss_one (ps_ret (pe_ix (ixlK (K := K) rfl) (pe_lst (pa_cons pe_str (pa_cons pe_str (pa_cons pe_str pa_nil)))) (pe_bm PySem.F.plainAttrs_list PySem.F.slot_list_index PySem.F.type_list_index mt_index (pv 1) (pa_cons pe_bl pa_nil)) (fun _ _ => rfl)))))), ?_⟩
    refine q_asgL (xs := [false, false, true].map V.bl) (el_lst (ea_cons (ev_cb (ea_cons (ev_var rfl) (ea_cons ev_c ea_nil)) (rc_isx he T.e_NoNumber (.own _) T.q_NoNumber_NoParting)) (ea_cons (ev_cb (ea_cons (ev_var rfl) (ea_cons ev_c ea_nil)) (rc_isx he T.e_NoNumber (.own _) T.q_NoNumber_NoFit)) (ea_cons (ev_cb (ea_cons (ev_var rfl) (ea_cons ev_c ea_nil)) (rc_isx he T.e_NoNumber (.own _) T.q_NoNumber_NoNumber)) ea_nil))) (by decide)) fun p H1 np e1 hp => ?_
    refine q_when (et_or (et_test (ev_ne (ev_countB (ev_var rfl) (sq_of hp) (ea_cons ev_c ea_nil)) ev_c rfl)) fun _ => et_not (et_B (ev_cb (ea_cons (ev_var rfl) (ea_cons ev_c ea_nil)) (rc_isx (e1 _ _ he) T.e_NoNumber (.ty _) T.q_NoNumber_ValueError)))) (fun hb => absurd hb (by decide)) (fun _ H2 e2 => ?_)
    refine s_ret (ev_ixN (i := 2) (el_lst (ea_cons ev_c (ea_cons ev_c (ea_cons ev_c ea_nil))) (by decide)) (fun H3 e3 => ev_indexB (n := 2) (ev_var rfl) (sq_of (e3 _ _ (e2 _ _ hp))) (ea_cons ev_c ea_nil) rfl (fun m c hm hc => ?_)) rfl) fun H3 e3 => q H3 ((e1.trans e2).trans e3)
    have : m = 0 ∨ m = 1 := by omega
    rcases this with rfl | rfl
    · cases hc
      exact Bool.false_ne_true
    · cases hc
      exact Bool.false_ne_true
theorem spv_name {e C : Addr} {H : Hp} (he : H e = some (ErrO (.ref C) e)) : SpV (sp_law_name C) [.ref e] H (.str "number") := fun H1 ex _ q _ => ⟨e, rfl, ex _ _ he, q⟩
/-- two written texts against what was told -/
theorem rv_neTT {t u : Addr} {H : Hp} {a b : Str} (h1 : H t = some (.tup [.str a, .str b])) (h2 : H u = some (.tup [.str a, .str b])) (ha : PyData.strOk a = true) (hb : PyData.strOk b = true) : RV (rNeD K) (.ref t) (.ref u) H (.bl false) := fun H1 e Q q => by
  have sh : SeqAt.shaped (.tuple [.str a, .str b]) = true := by
    unfold SeqAt.shaped
    simp [PyData.canLay0, PyData.canLayAll0, PyData.depth, PyData.depthAll, ha, hb]
  have eq1 : PyData.eqv (.tuple [.str a, .str b]) (.tuple [.str a, .str b]) = true := by simp [PyData.eqv, PyData.eqvAll]
  refine ⟨.tuple [.str a, .str b], .tuple [.str a, .str b], .tup (st_of (e _ _ h1)) (.cons (.str a) (.cons (.str b) .nil)), .tup (st_of (e _ _ h2)) (.cons (.str a) (.cons (.str b) .nil)), sh, sh, ?_⟩
  rw [eq1]
  exact q H1 (Ex.refl H1)
end
/-! ### _law_counts -/
section
variable {P : Program} {w : World} {K : PySem.W.Frag} {mg : Str → Option Value} {base : Heap}
def sp_law_counts : Sp := fun vs H Q _ => ∃ W : Nat, vs = [.int (W : Int)] ∧ W ≤ 200 ∧ RetLL (rowsL W W) H Q
theorem ok_law_counts (T : Tx K mg) : FnOk P w K mg base CX0 1 T.a_law_counts T.d_law_counts ["_law_whole"] sp_law_counts := by
  refine T.F_law_counts.ok sc_law_counts (fun vs H Q E h => ?_) (fun cdv A outer s H vs Q E hr h => ?_)
  · obtain ⟨W, rfl, _⟩ := h
    rfl
  · obtain ⟨W, rfl, hW, q⟩ := h
    refine ⟨_, (pss_cons (ps_set (i := 1) sc_law_counts.nd rfl (Or.inl rfl) (pe_lst (pa_cons (pe_op op_cat (pe_lst (pa_cons pe_int pa_nil)) (pe_op op_rep (pe_lst (pa_cons pe_int pa_nil)) (pv 0))) pa_nil)))
    (pss_cons (ps_for PassesOwn.never rfl (pi_range2 (by rfl) T.n_range (pa_cons pe_int (pa_cons (pe_op op_add (pv 0) pe_int) pa_nil))) (pg_name (i := 2) sc_law_counts.nd rfl (Or.inl rfl))
      (pss_cons (ps_set (i := 3) sc_law_counts.nd rfl (Or.inl rfl) (pe_lst pa_nil))
      (pss_cons (ps_for PassesOwn.never rfl (pi_range1 rfl T.n_range (pa_cons (pe_op op_add (pv 0) pe_int) pa_nil)) (pg_name (i := 4) sc_law_counts.nd rfl (Or.inl rfl))
        (pss_one (ps_expr (pe_bm PySem.F.plainAttrs_list PySem.F.slot_list_append PySem.F.type_list_append mt_append (pv 3) (pa_cons (pe_op op_add (pe_ix (ixlK (K := K) rfl) (pe_ix (ixlK (K := K) rfl) (pv 1) (pe_op op_sub (pv 2) pe_int) (fun _ _ => rfl)) (pv 4) (fun _ _ => rfl)) (pe_ifExp (pt_cmpR op_ge (pv 4) (pv 2) (nomark _)) (pe_ix (ixlK (K := K) rfl) (pv 3) (pe_op op_sub (pv 4) (pv 2)) (fun _ _ => rfl)) pe_int)) pa_nil)))))
      (pss_one (ps_expr (pe_bm PySem.F.plainAttrs_list PySem.F.slot_list_append PySem.F.type_list_append mt_append (pv 1) (pa_cons (pv 3) pa_nil)))))))
    (pss_one (ps_ret (pv 1))))), ?_⟩
    refine q_asgP (ep_lst (eap_consL (zs := (rowL W 0).map V.int) (el_is (el_catNN (zs := [V.int 1]) (ws := (List.replicate W (0 : Int)).map V.int) (el_lst (ea_cons ev_c ea_nil) (by show 1 ≤ 100000; decide)) (el_is (el_repZ (k := (W : Int)) (el_lst (ea_cons ev_c ea_nil) (by show 1 ≤ 100000; decide)) (ev_var rfl) ⟨by omega, by omega⟩) (by rw [Int.toNat_natCast])) (by rw [List.length_map, List.length_replicate]; show 1 + W ≤ 100000; omega)) (by rw [row_zero]; rfl)) eap_nil) (mono_consL mono_nil) (fun vs H1 hv => by
      obtain ⟨_, _, rfl, _, _, rfl⟩ := hv
      show 1 ≤ 100000
      decide)) fun v H1 e1 hv => ?_
    obtain ⟨p, vs, rfl, np, hp, r, _, rfl, nr, hr0, rfl⟩ := hv
    refine q_forR2 (lo := 1) (n := (W : Int) + 1) (ea_cons ev_c (ea_cons (ev_rI0 (ev_var rfl) ev_c) ea_nil)) ⟨by decide, by decide, by omega, by omega⟩
      (fun i σ' H' => ∃ (zs : List V) (y2 y3 y4 : Option V), σ' = [some (.int (W : Int)), some (.ref p), y2, y3, y4] ∧ Ex H H' ∧ H' p = some (.lst zs) ∧ Lls H' zs (rowsL W i) ∧ ∀ z ∈ zs, z ≠ .ref p)
      (fun H2 e2 => ⟨_, none, none, none, rfl, e1.trans e2, e2 _ _ hp, .cons (e2 _ _ hr0) .nil, fun z hz => by
        rw [List.mem_singleton.mp hz]
        intro e
        cases e
        have h1 : H1 p = _ := hr0
        rw [hp, row_zero] at h1
        cases h1⟩) (fun i σ' H' hi hP => ?_) (fun σ' H' hP => ?_)
    · obtain ⟨zs, y2, y3, y4, rfl, eH, hp', hL, hne⟩ := hP
      have ll := hL.len
      have lr : (rowsL W i).length = i + 1 := by unfold rowsL; rw [List.length_map, List.length_range]
      refine q_asgL (xs := []) (el_lst ea_nil (by decide)) fun o H2 no e2 ho => ?_
      have noH : H o = none := fresh_back eH no
      have nop : p ≠ o := ne_fresh0' hp' no
      have lrow := rowL_len W (i + 1)
      refine q_forR1 (n := (W : Int) + 1) (ea_cons (ev_rI0 (ev_var rfl) ev_c) ea_nil) ⟨by omega, by omega⟩
        (fun t σ' H' => ∃ y4 : Option V, σ' = [some (V.int (W : Int)), some (.ref p), some (.int (1 + (i : Int))), some (.ref o), y4] ∧ Ex H H' ∧ H' p = some (.lst zs) ∧ Lls H' zs (rowsL W i) ∧ (∀ z ∈ zs, z ≠ .ref o) ∧ Ll H' o ((rowL W (i + 1)).take t))
        (fun H3 e3 => ⟨_, rfl, (eH.trans e2).trans e3, (e2.trans e3) _ _ hp', hL.mono (e2.trans e3), hL.ne no, e3 _ _ ho⟩) (fun t σ' H3 ht hP => ?_) (fun σ' H3 hP => ?_)
      · obtain ⟨y4, rfl, eH3, hp3, hL3, hno, ho3⟩ := hP
        have ht' : t ≤ W := by omega
        have lt : ((rowL W (i + 1)).take t).length = t := by rw [List.length_take]; omega
        refine s_app ho3 (ev_var rfl) (ev_is (ev_rI0 (ev_item (i := t) (evP_row (i := i) (evP_LL rfl hp3 hL3) (fun _ _ => ev_is (ev_rI0 (ev_var rfl) ev_c) (by congr 1; omega)) (rowsL_get (Nat.le_refl i))) (fun _ _ => ev_var rfl) (rowL_get ht'))
          (ev_if (v := .int (if i + 1 ≤ t then ((pt (i + 1) (t - (i + 1)) : Nat) : Int) else 0)) (b := decide (i + 1 ≤ t)) (et_is (et_test (ev_rI0 (ev_var rfl) (ev_var rfl))) (by rw [decide_eq_decide]; constructor <;> intro <;> omega)) (fun hc => ?_) (fun hc => ?_))) (show _ = V.int ((pt (i + 1) t : Nat) : Int) from ?_)) (by rw [List.length_map, lt]; omega) fun H4 e4 => ?_
        · have hc' := of_decide_eq_true hc
          rw [if_pos hc']
          refine ev_is (ev_ixJ (j := t - (i + 1)) (ev_var rfl) (ev_is (ev_rI0 (ev_var rfl) (ev_var rfl)) (by congr 1; omega)) (Ll.sq ho3) (by rw [lt]; omega)) ?_
          rw [List.getD, List.getElem?_take, if_pos (by omega), rowL_get (by omega)]
          rfl
        · rw [if_neg (of_decide_eq_false hc)]
          exact ev_c
        · rw [pt_succ i t]
          congr 1
          split <;> omega
        · refine ⟨_, rfl, (eH3.trans e4).mut noH, ?_, ?_, hno, ?_⟩
          · rw [upd_ne nop]
            exact e4 _ _ hp3
          · exact (hL3.mono e4).upd hno
          · show upd H4 o _ o = _
            rw [upd_same, take_one (rowL_get ht'), List.map_append]
            rfl
      · obtain ⟨y4, rfl, eH3, hp3, hL3, hno, ho3⟩ := hP
        rw [List.take_of_length_le (by omega)] at ho3
        refine s_app hp3 (ev_var rfl) (ev_var rfl) (by omega) fun H4 e4 => ?_
        have npp : ∀ z ∈ zs ++ [V.ref o], z ≠ .ref p := fun z hz => by
          rcases List.mem_append.mp hz with m | m
          · exact hne z m
          · rw [List.mem_singleton.mp m]
            intro e
            cases e
            exact nop rfl
        refine ⟨zs ++ [.ref o], _, _, _, rfl, (eH3.trans e4).mut np, upd_same, ?_, npp⟩
        rw [rowsL_succ]
        exact ((hL3.mono e4).snoc (e4 _ _ ho3)).upd npp
    · obtain ⟨zs, y2, y3, y4, rfl, eH, hp', hL, hne⟩ := hP
      rw [show ((W : Int) + 1 - 1).toNat = W by omega] at hL
      exact s_ret (ev_var rfl) fun H3 e3 => q p zs H3 np (eH.trans e3) (e3 _ _ hp') (hL.mono e3)
theorem evP_lcounts {W : Nat} {σ : L2.St} {H : Hp} {ta : TA} {E : XK} (h : EvA ta σ H [.int (W : Int)]) (hW : W ≤ 200) : EvP (tCall sp_law_counts [] E ta) σ H (IsLL (rowsL W W)) :=
  evP_callLL h fun H1 e Q q E => ⟨W, rfl, hW, q⟩
end
/-! ### _law_is_stair, _law_to -/
section
variable {P : Program} {w : World} {K : PySem.W.Frag} {mg : Str → Option Value} {base : Heap}
theorem IsP.take {xs : List Int} (h : IsP xs) (i : Nat) : IsP (xs.take i) := by
  refine ⟨fun x hx => h.1 x (List.mem_of_mem_take hx), h.2.1.sublist (List.take_sublist i xs), ?_⟩
  have e : (xs.take i).sum + (xs.drop i).sum = xs.sum := by rw [← sum_append, List.take_append_drop]
  have nn : 0 ≤ (xs.drop i).sum := sum_nn fun x hx => by
    have := h.1 x (List.mem_of_mem_drop hx)
    omega
  have := h.2.2
  omega
/-- the first boxes of xs, at most m of them -/
def ToP (m : Int) (xs : List Int) (r : List Int) : Prop := IsP r ∧ r.sum = (if xs.sum < m then xs.sum else m)
def sp_law_to : Sp := fun vs H Q _ => ∃ (a : Addr) (xs : List Int) (m : Int), vs = [.ref a, .int m] ∧ Ll H a xs ∧ IsP xs ∧ 0 ≤ m ∧ m ≤ 200 ∧ RetLP (ToP m xs) H Q
theorem ok_law_to (T : Tx K mg) : FnOk P w K mg base CX0 1 T.a_law_to T.d_law_to ["_law_parting", "_law_most"] sp_law_to := by
  refine T.F_law_to.ok sc_law_to (fun vs H Q E h => ?_) (fun cdv A outer s H vs Q E hr h => ?_)
  · obtain ⟨a, xs, m, rfl, _⟩ := h
    rfl
  · obtain ⟨a, xs, m, rfl, hx, ix, m0, m2, q⟩ := h
    refine ⟨_, (pss_cons (ps_set (i := 2) sc_law_to.nd rfl (Or.inl rfl) (pe_lst pa_nil))
    (pss_cons (ps_for PassesOwn.never rfl (pi_list (pv 0)) (pg_name (i := 3) sc_law_to.nd rfl (Or.inl rfl))
      (pss_cons (ps_set (i := 4) sc_law_to.nd rfl (Or.inl rfl) (pe_op op_sub (pv 1) (pe_callB (sumK (K := K) rfl rfl) (by rfl) T.n_sum (by decide +kernel) (pa_cons (pv 2) pa_nil))))
      (pss_one (ps_if (pt_cmpR op_gt (pv 4) pe_int (nomark _))
        (pss_one (ps_expr (pe_bm PySem.F.plainAttrs_list PySem.F.slot_list_append PySem.F.type_list_append mt_append (pv 2) (pa_cons (pe_callB (call_min2 rfl) (by rfl) T.n_min (by decide +kernel) (pa_cons (pv 3) (pa_cons (pv 4) pa_nil))) pa_nil))))
        pss_nil))))
    (pss_one (ps_ret (pv 2))))), ?_⟩
    refine q_asgL (xs := []) (el_lst ea_nil (by decide)) fun p H1 np e1 hp => ?_
    refine q_forLn (ev_var rfl) (Ll.sq (e1 _ _ hx)) (fun i σ' H' => ∃ (r : List Int) (y3 y4 : Option V), σ' = [some (.ref a), some (.int m), some (.ref p), y3, y4] ∧ Ex H H' ∧ Ll H' p r ∧ ((r = xs.take i ∧ (xs.take i).sum ≤ m) ∨ (r.sum = m ∧ m ≤ (xs.take i).sum ∧ IsP r)))
      (fun H2 e2 => ⟨[], none, none, rfl, e1.trans e2, e2 _ _ hp, .inl ⟨rfl, m0⟩⟩) (fun i σ' H' _ hP => ?_) (fun i x σ' H' hi hP => ?_) (fun σ' H' hP => ?_)
    · obtain ⟨_, _, _, _, eH, _⟩ := hP
      exact Ll.sq (eH _ _ hx)
    · obtain ⟨r, y3, y4, rfl, eH, hr, hc⟩ := hP
      obtain ⟨z, hz, rfl⟩ := get_int hi
      have z1 := ix.1 z (List.mem_of_getElem? hz)
      have tn : (xs.take (i + 1)).sum = (xs.take i).sum + z := by
        rw [take_one hz, sum_append]
        show _ + (z + 0) = _
        omega
      refine q_asg (ev_rI0 (ev_var rfl) (ev_cb (ea_cons (ev_var rfl) ea_nil) (rc_sum hr.sq))) fun H2 e2 => ?_
      refine s_when (b := decide (0 < m - r.sum)) (et_test (ev_rI0 (ev_var rfl) ev_c)) (fun hb H3 e3 => ?_) (fun hb H3 e3 => ?_)
      · have hb' := of_decide_eq_true hb
        rcases hc with ⟨rfl, hle⟩ | ⟨h1, _, _⟩
        · have ll := (ix.take i).len
          refine s_app ((e2.trans e3) _ _ hr) (ev_var rfl) (ev_cb (ea_cons (ev_var rfl) (ea_cons (ev_var rfl) ea_nil)) rc_min2) (by rw [List.length_map]; omega) fun H4 e4 => ?_
          refine ⟨xs.take i ++ [if m - (xs.take i).sum < z then m - (xs.take i).sum else z], _, _, rfl, ((eH.trans (e2.trans e3)).trans e4).mut np, ?_, ?_⟩
          · show upd H4 p _ p = _
            rw [upd_same, List.map_append]
            rfl
          · by_cases c : m - (xs.take i).sum < z
            · rw [if_pos c]
              refine .inr ⟨by rw [sum_append]; show _ + (_ + 0) = m; omega, by omega, ⟨fun y hy => ?_, ?_, ?_⟩⟩
              · rcases List.mem_append.mp hy with hy | hy
                · exact (ix.take i).1 y hy
                · rw [List.mem_singleton.mp hy]
                  omega
              · refine List.pairwise_append.mpr ⟨(ix.take i).2.1, by simp, fun y hy y' hy' => ?_⟩
                rw [List.mem_singleton.mp hy']
                obtain ⟨k, hk, rfl⟩ := List.mem_iff_getElem.mp hy
                have hi' := lt_of_get hz
                rw [List.length_take] at hk
                have hd := List.pairwise_iff_getElem.mp ix.2.1 k i (by omega) hi' (by omega)
                have ez : xs[i] = z := (List.getElem?_eq_some_iff.mp hz).2
                rw [List.getElem_take]
                omega
              · rw [sum_append]
                show _ + (_ + 0) ≤ 200
                omega
            · rw [if_neg c]
              exact .inl ⟨by rw [take_one hz], by omega⟩
        · omega
      · have hb' := of_decide_eq_false hb
        refine ⟨r, _, _, rfl, eH.trans (e2.trans e3), (e2.trans e3) _ _ hr, ?_⟩
        rcases hc with ⟨rfl, hle⟩ | ⟨h1, h2, h3⟩
        · exact .inr ⟨by omega, by omega, ix.take i⟩
        · exact .inr ⟨h1, by omega, h3⟩
    · obtain ⟨r, y3, y4, rfl, eH, hr, hc⟩ := hP
      rw [List.length_map, List.take_length] at hc
      refine s_ret (ev_var rfl) fun H2 e2 => q p r H2 np (eH.trans e2) (e2 _ _ hr) ?_
      rcases hc with ⟨rfl, hle⟩ | ⟨h1, h2, h3⟩
      · refine ⟨ix, ?_⟩
        split <;> omega
      · refine ⟨h3, ?_⟩
        split <;> omega
theorem evP_to {a : Addr} {xs : List Int} {m : Int} {σ : L2.St} {H : Hp} {ta : TA} {E : XK} (h : EvA ta σ H [.ref a, .int m]) (hx : Ll H a xs) (ix : IsP xs) (m0 : 0 ≤ m) (m2 : m ≤ 200) :
    EvP (tCall sp_law_to [] E ta) σ H (fun v H1 => ∃ (p : Addr) (r : List Int), v = .ref p ∧ Ll H1 p r ∧ ToP m xs r) :=
  evP_call h fun H1 e Q q E => ⟨a, xs, m, rfl, e _ _ hx, ix, m0, m2, fun p r H2 np e2 hp hr => q _ _ e2 ⟨p, r, rfl, hp, hr⟩⟩
def sp_law_is_stair : Sp := fun vs H Q _ => ∃ (a : Addr) (xs : List Int), vs = [.ref a] ∧ Ll H a xs ∧ IsP xs ∧ RetV (.bl true) H Q
theorem ok_law_is_stair (T : Tx K mg) : FnOk P w K mg base CX0 1 T.a_law_is_stair T.d_law_is_stair ["_law_thing"] sp_law_is_stair := by
  refine T.F_law_is_stair.ok sc_law_is_stair (fun vs H Q E h => ?_) (fun cdv A outer s H vs Q E hr h => ?_)
  · obtain ⟨a, xs, rfl, _⟩ := h
    rfl
  · obtain ⟨a, xs, rfl, hx, ix, q⟩ := h
    refine ⟨_, (pss_cons (ps_if (PW.pt (pw_or (pt_not (pt_val (pe_callB (isiK (K := K) rfl) (by rfl) T.n_isinstance (by decide +kernel) (pa_cons (pv 0) (pa_cons (pe_bltn (v := .ty "list") (u := .type "list") (by rfl) T.n_list (by decide +kernel) rfl) pa_nil))))) (pw_or1 (pt_cmpR op_gt (pe_callB (sumK (K := K) rfl rfl) (by rfl) T.n_sum (by decide +kernel) (pa_cons (pv 0) pa_nil)) pe_int (nomark _)))))
      (pss_one (ps_ret pe_bl))
      pss_nil)
    (pss_cons (ps_if (pt_not (pt_val (pe_callB (allK (K := K) rfl rfl) (by rfl) T.n_all (by decide +kernel) (pa_cons (pe_lc (own := [("_law_one", 2)]) (g := gName 2) (by rfl) sc_law_is_stair.nd (pi_list (pv 0)) (blkOk_by (own := [("_law_one", 2)]) (N := ["_law_thing", "_law_k", "_law_one"]) (sc := defScope s_law_is_stair) (by decide +kernel)) (fun _ _ _ _ _ => (pg_name (i := 2) sc_law_is_stair.nd rfl (Or.inl rfl))) (fun _ _ _ _ _ => pts_nil) (fun _ _ _ _ _ => (pe_and (pe_callB (isiK (K := K) rfl) (by rfl) T.n_isinstance (by decide +kernel) (pa_cons (pv 2) (pa_cons (pe_bltn (v := .ty "int") (u := .type "int") (by rfl) T.n_int (by decide +kernel) rfl) pa_nil))) (pe_and (pe_not (pe_callB (isiK (K := K) rfl) (by rfl) T.n_isinstance (by decide +kernel) (pa_cons (pv 2) (pa_cons (pe_bltn (v := .ty "bool") (u := .type "bool") (by rfl) T.n_bool (by decide +kernel) rfl) pa_nil)))) (pe_one (pe_cmpR op_gt (pv 2) pe_int (nomark _))))))) pa_nil))))
      (pss_one (ps_ret pe_bl))
      pss_nil)
    (pss_one (ps_ret (pe_callB (allK (K := K) rfl rfl) (by rfl) T.n_all (by decide +kernel) (pa_cons (pe_lc (own := [("_law_k", 1)]) (g := gName 1) (by rfl) sc_law_is_stair.nd (pi_range2 (by rfl) T.n_range (pa_cons pe_int (pa_cons (pe_callB (lenK (K := K) rfl) (by rfl) T.n_len PySem.boot_len (pa_cons (pv 0) pa_nil)) pa_nil))) (blkOk_by (own := [("_law_k", 1)]) (N := ["_law_thing", "_law_k", "_law_one"]) (sc := defScope s_law_is_stair) (by decide +kernel)) (fun _ _ _ _ _ => (pg_name (i := 1) sc_law_is_stair.nd rfl (Or.inl rfl))) (fun _ _ _ _ _ => pts_nil) (fun _ _ _ _ _ => (pe_cmpR op_le (pe_ix (ixlK (K := K) rfl) (pv 0) (pv 1) (fun _ _ => rfl)) (pe_ix (ixlK (K := K) rfl) (pv 0) (pe_op op_sub (pv 1) pe_int) (fun _ _ => rfl)) (nomark _)))) pa_nil)))))), ?_⟩
    have lx := ix.len
    have sx := ix.2.2
    refine q_when (b := false) (et_is (et_or (et_not (et_B (ev_cb (ea_cons (ev_var rfl) (ea_cons ev_c ea_nil)) (rc_isiL hx)))) fun _ => et_test (ev_rI0 (ev_cb (ea_cons (ev_var rfl) ea_nil) (rc_sum hx.sq)) ev_c)) (by simp; omega)) (fun z => by cases z) (fun _ H1 e1 => ?_)
    refine q_when (b := false) (et_is (et_not (et_B (ev_cbL (el_is (el_lcIA (fun z => V.bl (decide (0 < z))) (ev_var rfl) (Ll.sq (e1 _ _ hx)) (by omega) (fun _ => rfl) fun z H2 _ hz => ev_andV (b := decide (0 < z)) (ev_cb (ea_cons (ev_var rfl) (ea_cons ev_c ea_nil)) rc_isiInt) fun _ => ev_andV (b := decide (0 < z)) (ev_notV (ev_cb (ea_cons (ev_var rfl) (ea_cons ev_c ea_nil)) rc_isiBool)) fun _ => ev_rI0 (ev_var rfl) ev_c)
      (show xs.map (fun z => V.bl (decide (0 < z))) = (xs.map fun z => decide (0 < z)).map V.bl from (List.map_map).symm)) fun p H2 _ hp => rc_all (sq_of hp)))) ?_) (fun z => by cases z) (fun _ H2 e2 => ?_)
    · have : ((xs.map fun z => decide (0 < z)).all id) = true := by
        rw [List.all_eq_true]
        intro b hb
        obtain ⟨z, hz, rfl⟩ := List.mem_map.mp hb
        have := ix.1 z hz
        simp
        omega
      rw [this]
      rfl
    · have e12 := e1.trans e2
      have hx2 := e12 _ _ hx
      have elx : ((xs.map V.int).length : Int) = (xs.length : Int) := by rw [List.length_map]
      refine s_ret (ev_is (w := V.bl true) (ev_cbL (el_is (el_lcR2A (lo := 1) (n := (xs.length : Int)) (fun t => V.bl (decide (xs.getD (t + 1) 0 ≤ xs.getD t 0))) (ea_cons ev_c (ea_cons (ev_is (ev_cb (ea_cons (ev_var rfl) ea_nil) (rc_len (Ll.sq hx2))) (by rw [elx])) ea_nil)) ⟨by decide, by decide, by omega, by omega⟩ (fun _ => rfl)
              fun t G4 e11 ht => ?_) (show _ = ((List.range ((xs.length : Int) - 1).toNat).map fun t => decide (xs.getD (t + 1) 0 ≤ xs.getD t 0)).map V.bl from (List.map_map).symm)) fun z G4 _ hz => rc_all (sq_of hz)) ?_) fun H3 e3 => q H3 (e12.trans e3)
      · have e1t : (1 : Int) + (t : Int) = ((t + 1 : Nat) : Int) := by omega
        rw [e1t]
        refine ev_rI0 (ev_ixJ (j := t + 1) (ev_var rfl) (ev_var rfl) (Ll.sq (e11 _ _ hx2)) (by omega)) (ev_ixJ (j := t) (ev_var rfl) (ev_is (ev_rI0 (ev_var rfl) ev_c) ?_) (Ll.sq (e11 _ _ hx2)) (by omega))
        rw [show ((t + 1 : Nat) : Int) - 1 = (t : Int) by omega]
      · have : (((List.range ((xs.length : Int) - 1).toNat).map fun t => decide (xs.getD (t + 1) 0 ≤ xs.getD t 0)).all id) = true := by
          rw [List.all_eq_true]
          intro b hb
          obtain ⟨t, ht, rfl⟩ := List.mem_map.mp hb
          have ht := List.mem_range.mp ht
          simpa using desc_le ix.2.1 (i := t) (j := t + 1) (by omega) (by omega)
        rw [this]
theorem spv_stair {a : Addr} {xs : List Int} {H : Hp} (hx : Ll H a xs) (ix : IsP xs) : SpV sp_law_is_stair [.ref a] H (.bl true) := fun H1 e _ q _ => ⟨a, xs, rfl, e _ _ hx, ix, q⟩
end
/-! ### the law's helpers: _law_counts is law10's; _law_ahead, _law_told, _law_order_right -/
section
variable {P : Program} {w : World} {K : PySem.W.Frag} {mg : Str → Option Value} {base : Heap}
def sp_law_ahead : Sp := fun vs H Q _ => ∃ (a : Addr) (ns : List Int), vs = [.ref a] ∧ Ll H a ns ∧ IsP ns ∧ RetV (.int ((nbr ns : Nat) : Int)) H Q
theorem ok_law_ahead (T : Tx K mg) : FnOk P w K mg base CX0 2 T.a_law_ahead T.d_law_ahead ["_law_parting"] sp_law_ahead := by
  refine T.F_law_ahead.ok sc_law_ahead (fun vs H Q E h => ?_) (fun cdv A outer s H vs Q E hr h => ?_)
  · obtain ⟨a, ns, rfl, _⟩ := h
    rfl
  · obtain ⟨a, ns, rfl, hL, hp, q⟩ := h
    refine ⟨_, (pss_cons (ps_set (i := 1) sc_law_ahead.nd rfl (Or.inl rfl) (pe_call (ok_law_counts T) (hr.mono (by decide)) (by rfl) T.g_law_counts T.F_law_counts.kp T.b_law_counts .nil pass0 (pa_cons (pe_callB (sumK (K := K) rfl rfl) (by rfl) T.n_sum (by decide +kernel) (pa_cons (pv 0) pa_nil)) pa_nil)))
    (pss_cons (ps_set (i := 2) sc_law_ahead.nd rfl (Or.inl rfl) pe_int)
    (pss_cons (ps_set (i := 3) sc_law_ahead.nd rfl (Or.inl rfl) (pe_callB (sumK (K := K) rfl rfl) (by rfl) T.n_sum (by decide +kernel) (pa_cons (pv 0) pa_nil)))
    (pss_cons (ps_for PassesOwn.never rfl (pi_list (pv 0)) (pg_name (i := 4) sc_law_ahead.nd rfl (Or.inl rfl))
      (pss_cons (ps_for PassesOwn.never rfl (pi_range2 (by rfl) T.n_range (pa_cons pe_int (pa_cons (pv 4) pa_nil))) (pg_name (i := 5) sc_law_ahead.nd rfl (Or.inl rfl))
        (pss_one (ps_set (i := 2) sc_law_ahead.nd rfl (Or.inl rfl) (pe_op op_add (pv 2) (pe_ix (ixlK (K := K) rfl) (pe_ix (ixlK (K := K) rfl) (pv 1) (pe_callB (call_min2 rfl) (by rfl) T.n_min (by decide +kernel) (pa_cons (pv 5) (pa_cons (pe_op op_sub (pv 3) (pv 5)) pa_nil))) (fun _ _ => rfl)) (pe_op op_sub (pv 3) (pv 5)) (fun _ _ => rfl))))))
      (pss_one (ps_set (i := 3) sc_law_ahead.nd rfl (Or.inl rfl) (pe_op op_sub (pv 3) (pv 4))))))
    (pss_one (ps_ret (pv 2))))))), ?_⟩
    have hl := hp.len
    have s0 := sum_nn (p := ns) fun x hx => by have := hp.1 x hx; omega
    have s1 := hp.2.2
    refine q_asgP (evP_lcounts (W := ns.sum.toNat) (ea_cons (ev_is (ev_cb (ea_cons (ev_var rfl) ea_nil) (rc_sum hL.sq)) (by congr 1; omega)) ea_nil) (by omega)) fun v H1 e1 hv => ?_
    obtain ⟨r, rs, rfl, hr1, hR⟩ := hv
    refine q_asg ev_c fun H2 e2 => ?_
    refine q_asg (ev_cb (ea_cons (ev_var rfl) ea_nil) (rc_sum (ex_l (e1.trans e2) hL.sq))) fun H3 e3 => ?_
    have e13 := (e1.trans e2).trans e3
    refine q_forLn (ev_var rfl) (ex_l e13 hL.sq) (fun i σ' H' => ∃ (c : Nat) (y z : Option V), σ' = [some (.ref a), some (.ref r), some (.int (c : Int)), some (.int (ns.drop i).sum), y, z] ∧ Ex H3 H' ∧ c + nbr (ns.drop i) = nbr ns)
      (fun H5 e5 => ⟨0, none, none, by rw [List.drop_zero]; rfl, e5, by rw [List.drop_zero]; omega⟩) (fun i σ' H' _ hP => ?_) (fun i x σ' H' hx hP => ?_) (fun σ' H' hP => ?_)
    · obtain ⟨c, y, z, rfl, eH, _⟩ := hP
      exact ex_l (e13.trans eH) hL.sq
    · obtain ⟨c, y, z', rfl, eH, hc⟩ := hP
      obtain ⟨z, hz, rfl⟩ := get_int hx
      have zm := List.mem_of_getElem? hz
      have z1 := hp.1 z zm
      have sd := sum_nn (p := ns.drop (i + 1)) fun x hx => by have := hp.1 x (List.mem_of_mem_drop hx); omega
      have st := sum_nn (p := ns.take i) fun x hx => by have := hp.1 x (List.mem_of_mem_take hx); omega
      have es : ns.sum = (ns.take i).sum + (ns.drop i).sum := by
        conv => lhs; rw [← List.take_append_drop i ns]
        exact sum_append _ _
      rw [drop_one hz] at hc es ⊢
      rw [nbr_cons] at hc
      rw [List.sum_cons] at es ⊢
      generalize hn : (z + (ns.drop (i + 1)).sum).toNat = n at hc
      have hn' : z + (ns.drop (i + 1)).sum = (n : Int) := by omega
      rw [hn'] at es ⊢
      refine q_forR2 (lo := 1) (n := z) (ea_cons ev_c (ea_cons (ev_var rfl) ea_nil)) ⟨by decide, by decide, by omega, by omega⟩
        (fun l σ' H' => ∃ y : Option V, σ' = [some (V.ref a), some (.ref r), some (.int ((c + ((List.range l).map fun l => pt (l + 1) (n - (l + 1))).sum : Nat) : Int)), some (.int (n : Int)), some (.int z), y] ∧ Ex H3 H')
        (fun H5 e5 => ⟨_, rfl, eH.trans e5⟩) (fun l σ' H5 hl' hP => ?_) (fun σ' H5 hP => ?_)
      · obtain ⟨y, rfl, eH5⟩ := hP
        have idx : (if (n : Int) - (1 + (l : Int)) < 1 + (l : Int) then (n : Int) - (1 + (l : Int)) else 1 + (l : Int)) = ((min (l + 1) (n - (l + 1)) : Nat) : Int) := by split <;> omega
        have e35 := (e2.trans e3).trans eH5
        refine s_asg (ev_rI0 (ev_var rfl) (ev_item (i := n - (l + 1)) (evP_row (i := min (l + 1) (n - (l + 1))) (evP_LL rfl (e35 _ _ hr1) (hR.mono e35)) (fun _ _ => ev_is (ev_cb (ea_cons (ev_var rfl) (ea_cons (ev_rI0 (ev_var rfl) (ev_var rfl)) ea_nil)) rc_min2) (by rw [idx])) (rowsL_get (by have := Nat.min_le_right (l + 1) (n - (l + 1)); omega))) (fun _ _ => ev_is (ev_rI0 (ev_var rfl) (ev_var rfl)) (by congr 1; omega)) (rowL_get (by omega)))) fun H6 e6 => ?_
        refine ⟨some (.int (1 + (l : Int))), ?_, eH5.trans e6⟩
        rw [pt_min, List.range_succ, List.map_append, List.sum_append_nat]
        show [some (V.ref a), _, some (V.int (_ + _)), _, _, _] = _
        simp
        omega
      · obtain ⟨y, rfl, eH5⟩ := hP
        have lsum := lesser_sum (n := n) (by omega) (z - 1).toNat (by omega)
        rw [lsum]
        refine s_asg (ev_rI0 (ev_var rfl) (ev_var rfl)) fun H6 e6 => ?_
        refine ⟨c + pt (z - 1).toNat n, some (.int z), y, ?_, eH5.trans e6, ?_⟩
        · rw [show (n : Int) - z = (ns.drop (i + 1)).sum by omega]
          rfl
        · rw [show (z - 1).toNat = z.toNat - 1 by omega]
          omega
    · obtain ⟨c, y, z, rfl, eH, hc⟩ := hP
      rw [List.drop_of_length_le (by rw [List.length_map]; exact Nat.le_refl _)] at hc
      refine s_ret (ev_var rfl) fun H5 e5 => ?_
      have := q H5 (e13.trans (eH.trans e5))
      rw [← hc] at this
      exact this
theorem spv_ahead {a : Addr} {ns : List Int} {H : Hp} (hL : Ll H a ns) (hp : IsP ns) : SpV sp_law_ahead [.ref a] H (.int ((nbr ns : Nat) : Int)) := fun H1 e _ q _ => ⟨a, ns, rfl, e _ _ hL, hp, q⟩
/-- the parting with the number a -/
def Has (W a : Nat) (p : List Int) : Prop := IsP p ∧ p.sum = (W : Int) ∧ nbr p = a
theorem Has.unique {W a : Nat} {p q : List Int} (h1 : Has W a p) (h2 : Has W a q) : p = q := (nbr_order h1.1 h2.1 (h1.2.1.trans h2.2.1.symm)).2 (h1.2.2.trans h2.2.2.symm)
theorem evP_parting_of {W a : Nat} {C : Addr} {σ : L2.St} {H : Hp} {ta : TA} {E : XK} (h : EvA ta σ H [.int (W : Int), .int (a : Int)]) (hW : W ≤ 200) (ha : a < pt W W) :
    EvP (tCall (sp_parting_of C) [] E ta) σ H (fun v H1 => ∃ (p : Addr) (f : List Int), v = .ref p ∧ H p = none ∧ Ll H1 p f ∧ Has W a f) :=
  evP_call h fun H1 e Q q E => ⟨W, a, rfl, hW, fun z => by omega, fun _ p f H2 np e2 hp hf => q _ _ e2 ⟨p, f, rfl, fresh_back e np, hp, hf⟩⟩
def sp_law_told : Sp := fun vs H Q _ => ∃ W a : Nat, vs = [.int (W : Int), .int (a : Int)] ∧ W ≤ 200 ∧ (pt W W ≤ a → RetU [.str "refused", .str "number"] H Q) ∧
  (a < pt W W → ∀ f p t H2, Has W a f → H p = none → H t = none → Ex H H2 → Ll H2 p f → H2 t = some (.tup [.str "told", .ref p]) → Q (.ref t) H2)
theorem ok_law_told (T : Tx K mg) : FnOk P w K mg base CX0 6 T.a_law_told T.d_law_told ["_law_whole", "_law_number_here"] sp_law_told := by
  refine T.F_law_told.ok sc_law_told (fun vs H Q E h => ?_) (fun cdv A outer s H vs Q E hr h => ?_)
  · obtain ⟨W, a, rfl, _⟩ := h
    rfl
  · obtain ⟨W, a, rfl, hW, qn, qs⟩ := h
    refine ⟨_, (pss_cons (ps_set (i := 2) sc_law_told.nd rfl (Or.inl rfl) pe_non)
    (pss_cons (ps_set (i := 3) sc_law_told.nd rfl (Or.inl rfl) pe_non)
    (pss_cons (ps_try_keep (tb := (fun W => tAsg (tCallS (sp_parting_of T.C_NoNumber) (WE W) (tCons (tVar 0) (tCons (tVar 1) tNil))) (gName 3))) (Wout := fun _ _ _ _ => False) (i := 4) (j := 2) rfl rfl rfl sc_law_told.nd rfl rfl rfl rfl ⟨rfl, by decide, Or.inl T.g_PartError⟩ takes0
      (fun W pn xe tk _ => (pss_one (ps_set (i := 3) sc_law_told.nd rfl (Or.inl rfl) (pe_callS (ok_parting_of T) (hr.mono (by decide)) (by rfl) T.g_parting_of T.F_parting_of.kp T.b_parting_of (fun σ => passAt tk σ) (by exact (pa_cons (pv 0) (pa_cons (pv 1) pa_nil))))))))
    (pss_one (ps_ret (pe_ifExp (pt_cmpR op_isN (pv 2) pe_non (nomark _)) (pe_tup (pa_cons pe_str (pa_cons (pv 3) pa_nil))) (pe_tup (pa_cons pe_str (pa_cons (pe_call (ok_law_name T) (hr.mono (by decide)) (by rfl) T.g_law_name T.F_law_name.kp T.b_law_name .nil pass0 (pa_cons (pv 2) pa_nil)) pa_nil))))))))), ?_⟩
    refine q_asg ev_c fun H1 e1 => ?_
    refine q_asg ev_c fun H2 e2 => ?_
    have e12 := e1.trans e2
    refine ⟨.int (W : Int), rfl, .int (a : Int), rfl, W, a, rfl, hW, fun hn H3 e3 => ⟨true, T.m_NoNumber_PartError, fun _ => ⟨rfl, fun e he => ?_⟩, fun z => by cases z⟩, fun hr p f H3 np e3 hp3 hf => ?_⟩
    · have e4 : Ex H (upd H3 e (ErrO (.ref T.C_NoNumber) e)) := (e12.trans e3).trans (Ex.new he)
      refine s_retU (eu_if (et_test (ev_isN (ev_var rfl))) (fun z => by cases z) fun _ => eu_tup (ea_cons ev_c (ea_cons (ev_call (ea_cons (ev_var rfl) ea_nil) (spv_name upd_same)) ea_nil)) (by show 2 ≤ 100000; decide)) fun t H4 nt e5 ht => qn hn t H4 (fresh_back e4 nt) (e4.trans e5) ht
    · refine s_retU (eu_if (et_test (ev_isN (ev_var rfl))) (fun _ => eu_tup (ea_cons ev_c (ea_cons (ev_var rfl) ea_nil)) (by show 2 ≤ 100000; decide)) fun z => by cases z) fun t H4 nt e5 ht => ?_
      exact qs hr f p t H4 hf (fresh_back e12 np) (fresh_back (e12.trans e3) nt) ((e12.trans e3).trans e5) (e5 _ _ hp3) ht
theorem spu_told {W a : Nat} {H : Hp} (hW : W ≤ 200) (ha : pt W W ≤ a) : SpU sp_law_told [.int (W : Int), .int (a : Int)] H [.str "refused", .str "number"] := fun H1 e _ q _ => ⟨W, a, rfl, hW, fun _ => q, fun z => by omega⟩
theorem evP_told {W a : Nat} {f : List Int} {σ : L2.St} {H : Hp} {ta : TA} {E : XK} (h : EvA ta σ H [.int (W : Int), .int (a : Int)]) (hW : W ≤ 200) (ha : a < pt W W) (hf : Has W a f) :
    EvP (tCall sp_law_told [] E ta) σ H (fun v H1 => ∃ p t : Addr, v = .ref t ∧ H p = none ∧ H t = none ∧ Ll H1 p f ∧ H1 t = some (.tup [.str "told", .ref p])) :=
  evP_call h fun H1 e Q q E => ⟨W, a, rfl, hW, (fun z => by omega), fun _ g p t H2 hg np nt e2 hp ht => by
    rw [hg.unique hf] at hp
    exact q _ _ e2 ⟨p, t, rfl, fresh_back e np, fresh_back e nt, hp, ht⟩⟩
theorem nine : ∀ n ∈ List.range 10, pt n n ≤ 100 := by decide +kernel
def sp_law_order_right : Sp := fun vs H Q _ => ∃ W : Nat, vs = [.int (W : Int)] ∧ W ≤ 9 ∧ RetV (.bl true) H Q
theorem ok_law_order_right (T : Tx K mg) : FnOk P w K mg base CX0 7 T.a_law_order_right T.d_law_order_right ["_law_whole"] sp_law_order_right := by
  refine T.F_law_order_right.ok sc_law_order_right (fun vs H Q E h => ?_) (fun cdv A outer s H vs Q E hr h => ?_)
  · obtain ⟨W, rfl, _⟩ := h
    rfl
  · obtain ⟨W, rfl, hW, q⟩ := h
    refine ⟨_, (pss_cons (ps_set (i := 1) sc_law_order_right.nd rfl (Or.inl rfl) pe_non)
    (pss_cons (ps_for PassesOwn.never rfl (pi_range1 rfl T.n_range (pa_cons (pe_call (ok_how_many T) (hr.mono (by decide)) (by rfl) T.g_how_many T.F_how_many.kp T.b1_how_many T.w_how_many pass0 (pa_cons (pv 0) pa_nil)) pa_nil)) (pg_name (i := 2) sc_law_order_right.nd rfl (Or.inl rfl))
      (pss_cons (ps_set (i := 3) sc_law_order_right.nd rfl (Or.inl rfl) (pe_call (ok_parting_of T) (hr.mono (by decide)) (by rfl) T.g_parting_of T.F_parting_of.kp T.b_parting_of .nil (E := E0) passL (pa_cons (pv 0) (pa_cons (pv 2) pa_nil))))
      (pss_cons (ps_if (PW.pt (pw_or (pt_not (pt_val (pe_call (ok_law_is_stair T) (hr.mono (by decide)) (by rfl) T.g_law_is_stair T.F_law_is_stair.kp T.b_law_is_stair .nil pass0 (pa_cons (pv 3) pa_nil)))) (pw_or (pt_cmpR op_ne (pe_callB (sumK (K := K) rfl rfl) (by rfl) T.n_sum (by decide +kernel) (pa_cons (pv 3) pa_nil)) (pv 0) (nomark _)) (pw_or1 (pt_cmpR op_ne (pe_call (ok_number_of T) (hr.mono (by decide)) (by rfl) T.g_number_of T.F_number_of.kp T.b_number_of .nil pass0 (pa_cons (pv 3) pa_nil)) (pv 2) (nomark _))))))
        (pss_one (ps_ret pe_bl))
        pss_nil)
      (pss_cons (ps_if (PW.pt (pw_and (pt_cmpR op_notN (pv 1) pe_non (nomark _)) (pw_and1 (pt_not (pt_cmpR (op_ltL (K := K) rfl hr.units) (pv 1) (pv 3) (nomark _))))))
        (pss_one (ps_ret pe_bl))
        pss_nil)
      (pss_one (ps_set (i := 1) sc_law_order_right.nd rfl (Or.inl rfl) (pv 3)))))))
    (pss_one (ps_ret (pe_cmpR (eqK (K := K) rfl hr.units) (pe_call (ok_law_told T) (hr.mono (by decide)) (by rfl) T.g_law_told T.F_law_told.kp T.b_law_told .nil pass0 (pa_cons (pv 0) (pa_cons (pe_call (ok_how_many T) (hr.mono (by decide)) (by rfl) T.g_how_many T.F_how_many.kp T.b1_how_many T.w_how_many pass0 (pa_cons (pv 0) pa_nil)) pa_nil))) (pe_tup (pa_cons pe_str (pa_cons pe_str pa_nil))) (nomark _)))))), ?_⟩
    have few := nine W (List.mem_range.mpr (by omega))
    refine q_asg ev_c fun H1 e1 => ?_
    refine q_forR1 (n := ((pt W W : Nat) : Int)) (ea_cons (ev_call (dvs := [.non]) (ea_cons (ev_var rfl) ea_nil) (spv_many (by omega) (.inl rfl))) ea_nil) ⟨by omega, by omega⟩
      (fun i σ' H' => ∃ (x : V) (y z : Option V), σ' = [some (.int (W : Int)), some x, y, z] ∧ Ex H H' ∧ ((x = .non ∧ i = 0) ∨ ∃ (p : Addr) (f : List Int), x = .ref p ∧ Ll H' p f ∧ Has W (i - 1) f ∧ 0 < i))
      (fun H2 e2 => ⟨.non, none, none, rfl, e1.trans e2, .inl ⟨rfl, rfl⟩⟩) (fun i σ' H' hi hP => ?_) (fun σ' H' hP => ?_)
    · obtain ⟨x, y, z, rfl, eH, hx⟩ := hP
      have hi' : i < pt W W := by omega
      refine q_asgP (evP_parting_of (a := i) (ea_cons (ev_var rfl) (ea_cons (ev_var rfl) ea_nil)) (by omega) hi') fun v H2 e2 hv => ?_
      obtain ⟨p, f, rfl, np, hp, hf⟩ := hv
      obtain ⟨f1, f2, f3⟩ := hf
      refine q_when (et_or (et_not (et_B (ev_call (ea_cons (ev_var rfl) ea_nil) (spv_stair hp f1)))) fun _ => et_or (et_test (ev_ne (ev_cb (ea_cons (ev_var rfl) ea_nil) (rc_sum (Ll.sq hp))) (ev_var rfl) rfl)) fun _ => et_test (ev_ne (ev_call (ea_cons (ev_var rfl) ea_nil) (spv_number_of hp f1)) (ev_var rfl) rfl)) (fun hb => by rw [f2, f3] at hb; simp at hb) (fun _ H3 e3 => ?_)
      refine q_when (b := false) (et_is (et_and (a := !decide (x = V.non)) (b := false) (et_test (ev_notN (ev_var rfl))) fun hne => ?_) (by simp)) (fun z => by cases z) (fun _ H4 e4 => ?_)
      · rcases hx with ⟨rfl, _⟩ | ⟨o, g, rfl, ho, hg, h0⟩
        · cases hne
        · have hlt : g < f := (nbr_order hg.1 f1 (hg.2.1.trans f2.symm)).1.mpr (by rw [hg.2.2, f3]; omega)
          exact et_is (et_not (et_test (ev_op (ev_var rfl) (ev_var rfl) (rv_ltL (Ll.sq ((e2.trans e3) _ _ ho)) (Ll.sq (e3 _ _ hp)))))) (by rw [decide_eq_true hlt]; rfl)
      · exact s_asg (ev_var rfl) fun H5 e5 => ⟨.ref p, _, _, rfl, eH.trans (e2.trans (e3.trans (e4.trans e5))), .inr ⟨p, f, rfl, (e3.trans (e4.trans e5)) _ _ hp, ⟨f1, f2, by rw [f3]; omega⟩, by omega⟩⟩
    · obtain ⟨x, y, z, rfl, eH, hx⟩ := hP
      refine s_ret (ev_opUU (eu_call (ea_cons (ev_var rfl) (ea_cons (ev_is (ev_call (dvs := [.non]) (ea_cons (ev_var rfl) ea_nil) (spv_many (by omega) (.inl rfl))) rfl) ea_nil)) (spu_told (by omega) (Nat.le_refl _))) (eu_tup (ea_cons ev_c (ea_cons ev_c ea_nil)) (by show 2 ≤ 100000; decide)) fun t u H7 ht hu e7 => rv_eqTT ht hu (by decide +kernel) (by decide +kernel)) fun H5 e5 => q H5 (eH.trans e5)
theorem spv_order {W : Nat} {H : Hp} (h : W ≤ 9) : SpV sp_law_order_right [.int (W : Int)] H (.bl true) := fun _ _ _ q _ => ⟨W, rfl, h, q⟩
def sp_law (K : PySem.W.Frag) : Sp := fun vs H Q _ => ∃ (a : Addr) (ns : List Int), vs = [.ref a] ∧ SqL K H a (ns.map V.int) ∧ ns.length ≤ 63 ∧ ∀ H', Q (.bl true) H'
theorem ok_law (T : Tx K mg) : FnOk P w K mg base CX0 8 T.a_law T.d_law ["_law_script"] (sp_law K) := by
  refine T.F_law.ok sc_law (fun vs H Q E h => ?_) (fun cdv A outer s H vs Q E hr h => ?_)
  · obtain ⟨a, ns, rfl, _⟩ := h
    rfl
  · obtain ⟨a, ns, rfl, hS, hlen, q⟩ := h
    refine ⟨_, (pss_cons (ps_set (i := 1) sc_law.nd rfl (Or.inl rfl) (pe_call (ok_law_number T) (hr.mono (by decide)) (by rfl) T.g_law_number T.F_law_number.kp T.b_law_number .nil pass0 (pa_cons (pv 0) (pa_cons pe_int pa_nil))))
    (pss_cons (ps_set (i := 2) sc_law.nd rfl (Or.inl rfl) (pe_call (ok_law_to T) (hr.mono (by decide)) (by rfl) T.g_law_to T.F_law_to.kp T.b_law_to .nil pass0 (pa_cons (pe_call (ok_law_parting_by T) (hr.mono (by decide)) (by rfl) T.g_law_parting_by T.F_law_parting_by.kp T.b_law_parting_by .nil pass0 (pa_cons (pv 0) (pa_cons pe_int pa_nil))) (pa_cons (pe_ifExp (pt_cmpR op_gt (pe_op op_mod (pe_op op_fdiv (pv 1) pe_int) pe_int) pe_int (nomark _)) pe_int pe_int) pa_nil))))
    (pss_cons (ps_set (i := 3) sc_law.nd rfl (Or.inl rfl) (pe_callTy (listK (K := K) rfl) (by rfl) T.n_list (by decide +kernel) (pa_cons (pv 2) pa_nil)))
    (pss_cons (ps_set (i := 4) sc_law.nd rfl (Or.inl rfl) (pe_call (ok_number_of T) (hr.mono (by decide)) (by rfl) T.g_number_of T.F_number_of.kp T.b_number_of .nil pass0 (pa_cons (pv 3) pa_nil)))
    (pss_cons (ps_if (PW.pt (pw_or (pt_not (pt_val (pe_callB (isiK (K := K) rfl) (by rfl) T.n_isinstance (by decide +kernel) (pa_cons (pv 4) (pa_cons (pe_bltn (v := .ty "int") (u := .type "int") (by rfl) T.n_int (by decide +kernel) rfl) pa_nil))))) (pw_or (pt_val (pe_callB (isiK (K := K) rfl) (by rfl) T.n_isinstance (by decide +kernel) (pa_cons (pv 4) (pa_cons (pe_bltn (v := .ty "bool") (u := .type "bool") (by rfl) T.n_bool (by decide +kernel) rfl) pa_nil)))) (pw_or (pt_cmpR op_ne (pv 4) (pe_call (ok_law_ahead T) (hr.mono (by decide)) (by rfl) T.g_law_ahead T.F_law_ahead.kp T.b_law_ahead .nil pass0 (pa_cons (pv 2) pa_nil)) (nomark _)) (pw_or1 (pt_cmpR (neK (K := K) rfl hr.units) (pv 3) (pv 2) (nomark _)))))))
      (pss_one (ps_ret pe_bl))
      pss_nil)
    (pss_cons (ps_set (i := 5) sc_law.nd rfl (Or.inl rfl) (pe_call (ok_law_told T) (hr.mono (by decide)) (by rfl) T.g_law_told T.F_law_told.kp T.b_law_told .nil pass0 (pa_cons (pe_callB (sumK (K := K) rfl rfl) (by rfl) T.n_sum (by decide +kernel) (pa_cons (pv 2) pa_nil)) (pa_cons (pv 4) pa_nil))))
    (pss_cons (ps_if (PW.pt (pw_or (pt_cmpR op_ne (pe_ix (ixtK (K := K) rfl) (pv 5) pe_int (fun _ _ => rfl)) pe_str (nomark _)) (pw_or1 (pt_not (pt_val (pe_call (ok_law_is_row T) (hr.mono (by decide)) (by rfl) T.g_law_is_row T.F_law_is_row.kp T.b_law_is_row .nil pass0 (pa_cons (pe_ix (ixtK (K := K) rfl) (pv 5) pe_int (fun _ _ => rfl)) (pa_cons (pv 2) pa_nil))))))))
      (pss_one (ps_ret pe_bl))
      pss_nil)
    (pss_cons (ps_expr (pe_bm PySem.F.plainAttrs_list PySem.F.slot_list_append PySem.F.type_list_append mt_append (pe_ix (ixtK (K := K) rfl) (pv 5) pe_int (fun _ _ => rfl)) (pa_cons pe_int pa_nil)))
    (pss_cons (ps_if (pt_cmpR (neK (K := K) rfl hr.units) (pe_call (ok_law_told T) (hr.mono (by decide)) (by rfl) T.g_law_told T.F_law_told.kp T.b_law_told .nil pass0 (pa_cons (pe_callB (sumK (K := K) rfl rfl) (by rfl) T.n_sum (by decide +kernel) (pa_cons (pv 2) pa_nil)) (pa_cons (pv 4) pa_nil))) (pe_tup (pa_cons pe_str (pa_cons (pv 2) pa_nil))) (nomark _))
      (pss_one (ps_ret pe_bl))
      pss_nil)
    (pss_cons (ps_set (i := 6) sc_law.nd rfl (Or.inl rfl) (pe_ifExp (pt_cmpR op_gt (pe_op op_mod (pe_op op_fdiv (pv 1) pe_int) pe_int) pe_int (nomark _)) (pe_op op_mod (pv 1) pe_int) (pe_op op_mod (pv 1) pe_int)))
    (pss_cons (ps_set (i := 7) sc_law.nd rfl (Or.inl rfl) (pe_call (ok_how_many T) (hr.mono (by decide)) (by rfl) T.g_how_many T.F_how_many.kp T.b1_how_many T.w_how_many pass0 (pa_cons (pv 6) pa_nil)))
    (pss_cons (ps_set (i := 8) sc_law.nd rfl (Or.inl rfl) (pe_op op_mod (pe_call (ok_law_number T) (hr.mono (by decide)) (by rfl) T.g_law_number T.F_law_number.kp T.b_law_number .nil pass0 (pa_cons (pv 0) (pa_cons pe_int pa_nil))) (pv 7)))
    (pss_cons (ps_set (i := 9) sc_law.nd rfl (Or.inl rfl) (pe_call (ok_parting_of T) (hr.mono (by decide)) (by rfl) T.g_parting_of T.F_parting_of.kp T.b_parting_of .nil (E := E0) passL (pa_cons (pv 6) (pa_cons (pv 8) pa_nil))))
    (pss_cons (ps_if (PW.pt (pw_or (pt_not (pt_val (pe_call (ok_law_is_stair T) (hr.mono (by decide)) (by rfl) T.g_law_is_stair T.F_law_is_stair.kp T.b_law_is_stair .nil pass0 (pa_cons (pv 9) pa_nil)))) (pw_or (pt_cmpR op_ne (pe_callB (sumK (K := K) rfl rfl) (by rfl) T.n_sum (by decide +kernel) (pa_cons (pv 9) pa_nil)) (pv 6) (nomark _)) (pw_or1 (pt_cmpR op_ne (pe_call (ok_law_ahead T) (hr.mono (by decide)) (by rfl) T.g_law_ahead T.F_law_ahead.kp T.b_law_ahead .nil pass0 (pa_cons (pv 9) pa_nil)) (pv 8) (nomark _))))))
      (pss_one (ps_ret pe_bl))
      pss_nil)
    (pss_cons (ps_if (PW.pt (pw_and (pt_cmpR op_lt (pe_op op_add (pv 8) pe_int) (pv 7) (nomark _)) (pw_and1 (pt_not (pt_cmpR (op_ltL (K := K) rfl hr.units) (pv 9) (pe_call (ok_parting_of T) (hr.mono (by decide)) (by rfl) T.g_parting_of T.F_parting_of.kp T.b_parting_of .nil (E := E0) passL (pa_cons (pv 6) (pa_cons (pe_op op_add (pv 8) pe_int) pa_nil))) (nomark _))))))
      (pss_one (ps_ret pe_bl))
      pss_nil)
    (pss_cons (ps_if (pt_cmpR (neK (K := K) rfl hr.units) (pe_call (ok_law_told T) (hr.mono (by decide)) (by rfl) T.g_law_told T.F_law_told.kp T.b_law_told .nil pass0 (pa_cons (pv 6) (pa_cons (pv 7) pa_nil))) (pe_tup (pa_cons pe_str (pa_cons pe_str pa_nil))) (nomark _))
      (pss_one (ps_ret pe_bl))
      pss_nil)
    (pss_one (ps_ret (pe_call (ok_law_order_right T) (hr.mono (by decide)) (by rfl) T.g_law_order_right T.F_law_order_right.kp T.b_law_order_right .nil pass0 (pa_cons (pe_op op_mod (pe_op op_fdiv (pv 1) pe_int) pe_int) pa_nil)))))))))))))))))))), ?_⟩
    refine q_asg (ev_call (ea_cons (ev_var rfl) (ea_cons ev_c ea_nil)) (spv_number hS (by decide) (by decide))) fun H1 e1 => ?_
    have m0 := numb_nn ns 1
    generalize numb ns 1 = m at m0 ⊢
    refine q_asgP (evP_callP (dvs := []) (R := fun v H1 => ∃ (p : Addr) (r : List Int), v = .ref p ∧ Ll H1 p r ∧ IsP r) (eap_consP (evP_parting (ea_cons (ev_var rfl) (ea_cons ev_c ea_nil)) (ex_l e1 hS) hlen (by decide) (by decide)) (fun v H1 H2 e ⟨p, ys, h1, h2, h3, h4⟩ => ⟨p, ys, h1, h2, e _ _ h3, h4⟩) (eap_cons (x := .int (if decide (m / 500 % 8 > 0) then 50 else 120)) (ev_if (et_test (ev_rI0 (ev_rI (ev_rI (ev_var rfl) ev_c ⟨by decide, by decide⟩) ev_c (by decide)) ev_c)) (fun hc => by rw [if_pos hc]; exact ev_c) fun hc => by rw [if_neg (by rw [hc]; exact Bool.false_ne_true)]; exact ev_c) eap_nil)) fun vs H2 e2 hv Q q E => ?_) fun v H2 e2 hv => ?_
    · obtain ⟨v, us, rfl, ⟨p, ys, rfl, _, hp, ip⟩, _, rfl, rfl⟩ := hv
      exact ⟨p, ys, _, rfl, hp, ip, by split <;> decide, by split <;> decide, fun o r H3 no e3 ho hr => q _ _ e3 ⟨o, r, rfl, ho, hr.1⟩⟩
    · obtain ⟨p, ys, rfl, hp, ip⟩ := hv
      have lp := ip.len
      have s0 := sum_nn (p := ys) fun x hx => by have := ip.1 x hx; omega
      have s1 := ip.2.2
      have e12 := e1.trans e2
      refine q_asgL (el_cb (ea_cons (ev_var rfl) ea_nil) (rcl_list (Ll.sq hp))) fun h H3 nh e3 hh => ?_
      refine q_asg (ev_call (ea_cons (ev_var rfl) ea_nil) (spv_number_of hh ip)) fun H4 e4 => ?_
      have hp4 := (e3.trans e4) _ _ hp
      have hh4 := e4 _ _ hh
      refine q_when (et_or (et_not (et_B (ev_cb (ea_cons (ev_var rfl) (ea_cons ev_c ea_nil)) rc_isiInt))) fun _ => et_or (et_B (ev_cb (ea_cons (ev_var rfl) (ea_cons ev_c ea_nil)) rc_isiBool)) fun _ => et_or (et_test (ev_ne (ev_var rfl) (ev_call (ea_cons (ev_var rfl) ea_nil) (spv_ahead hp4 ip)) rfl)) fun _ => et_test (ev_op (ev_var rfl) (ev_var rfl) (rv_neL (Ll.sq hh4) (Ll.sq hp4)))) (fun hb => by simp at hb) (fun _ H5 e5 => ?_)
      have hp5 := e5 _ _ hp4
      have nl := nbr_lt ip
      have hs : ((ys.sum.toNat : Nat) : Int) = ys.sum := by omega
      have has : Has ys.sum.toNat (nbr ys) ys := ⟨ip, hs.symm, rfl⟩
      refine q_asgP (evP_told (W := ys.sum.toNat) (ea_cons (ev_is (ev_cb (ea_cons (ev_var rfl) ea_nil) (rc_sum (Ll.sq hp5))) (by rw [hs])) (ea_cons (ev_var rfl) ea_nil)) (by omega) nl has) fun v H6 e6 hv => ?_
      obtain ⟨o, t, rfl, no, nt, ho, ht⟩ := hv
      have hp6 := e6 _ _ hp5
      refine q_when (et_or (et_test (ev_ne (ev_ixT (n := 0) (ev_var rfl) ev_c ht rfl) ev_c rfl)) fun _ => et_not (et_B (ev_call (ea_cons (ev_ixT (n := 1) (ev_var rfl) ev_c ht rfl) (ea_cons (ev_var rfl) ea_nil)) (spv_row ho hp6 (by omega))))) (fun hb => by simp at hb) (fun _ H7 e7 => ?_)
      refine q_app (e7 _ _ ho) (ev_ixT (n := 1) (ev_var rfl) ev_c (e7 _ _ ht) rfl) ev_c (by rw [List.length_map]; omega) fun H8 e8 => ?_
      have m8 : Ex H5 (upd H8 o (.lst (ys.map V.int ++ [V.int 1]))) := ((e6.trans e7).trans e8).mut no
      generalize hX : upd H8 o (.lst (ys.map V.int ++ [V.int 1])) = HX at m8
      have hpX := m8 _ _ hp5
      have hSX := ex_l (e12.trans (e3.trans (e4.trans (e5.trans m8)))) hS
      refine q_when (b := !decide (ys = ys)) (et_test (ev_opPU (evP_told (W := ys.sum.toNat) (ea_cons (ev_is (ev_cb (ea_cons (ev_var rfl) ea_nil) (rc_sum (Ll.sq hpX))) (by rw [hs])) (ea_cons (ev_var rfl) ea_nil)) (by omega) nl has) (fun _ _ _ _ => eu_tup (ea_cons ev_c (ea_cons (ev_var rfl) ea_nil)) (by show 2 ≤ 100000; decide)) fun v u H9 H10 e9 hv e10 hu => by
        obtain ⟨o2, t2, rfl, _, _, ho2, ht2⟩ := hv
        exact rv_neTLL (e10 _ _ ht2) (e10 _ _ ho2) hu ((e9.trans e10) _ _ hpX) (by decide +kernel))) (fun hb => by simp at hb) (fun _ H9 e9 => ?_)
      obtain ⟨W, hW, hWe⟩ : ∃ W : Nat, W ≤ 200 ∧ (if decide (m / 500 % 8 > 1) = true then m % 41 else m % 121) = (W : Int) := ⟨(if decide (m / 500 % 8 > 1) = true then m % 41 else m % 121).toNat, by split <;> omega, by split <;> omega⟩
      refine q_asg (v := .int (W : Int)) (ev_if (b := decide (m / 500 % 8 > 1)) (et_test (ev_rI0 (ev_rI (ev_rI (ev_var rfl) ev_c ⟨by decide, by decide⟩) ev_c (by decide)) ev_c)) (fun hc => by rw [if_pos hc] at hWe; exact ev_is (ev_rI (ev_var rfl) ev_c (by decide)) (by rw [hWe])) fun hc => by rw [if_neg (by rw [hc]; exact Bool.false_ne_true)] at hWe; exact ev_is (ev_rI (ev_var rfl) ev_c (by decide)) (by rw [hWe])) fun H10 e10 => ?_
      refine q_asg (v := .int ((pt W W : Nat) : Int)) (ev_call (dvs := [.non]) (ea_cons (ev_var rfl) ea_nil) (spv_many hW (.inl rfl))) fun H11 e11 => ?_
      have pp := pt_pos W
      have a0 := Int.emod_nonneg (numb ns 2) (show ((pt W W : Nat) : Int) ≠ 0 by omega)
      have a1 := Int.emod_lt_of_pos (numb ns 2) (show (0 : Int) < ((pt W W : Nat) : Int) by omega)
      obtain ⟨c, hc⟩ := Int.eq_ofNat_of_zero_le a0
      refine q_asg (v := .int (c : Int)) (ev_is (ev_rI (ev_call (ea_cons (ev_var rfl) (ea_cons ev_c ea_nil)) (spv_number (ex_l (e9.trans (e10.trans e11)) hSX) (by decide) (by decide))) (ev_var rfl) (by omega)) (by rw [hc])) fun H12 e12' => ?_
      have hcl : c < pt W W := by omega
      refine q_asgP (evP_parting_of (a := c) (ea_cons (ev_var rfl) (ea_cons (ev_var rfl) ea_nil)) hW hcl) fun v H13 e13 hv => ?_
      obtain ⟨f, fs, rfl, nf, hf, hfs⟩ := hv
      obtain ⟨f1, f2, f3⟩ := id hfs
      refine q_when (et_or (et_not (et_B (ev_call (ea_cons (ev_var rfl) ea_nil) (spv_stair hf f1)))) fun _ => et_or (et_test (ev_ne (ev_cb (ea_cons (ev_var rfl) ea_nil) (rc_sum (Ll.sq hf))) (ev_var rfl) rfl)) fun _ => et_test (ev_ne (ev_call (ea_cons (ev_var rfl) ea_nil) (spv_ahead hf f1)) (ev_var rfl) rfl)) (fun hb => by rw [f2, f3] at hb; simp at hb) (fun _ H14 e14 => ?_)
      refine q_when (b := false) (et_is (et_and (a := decide ((c : Int) + 1 < ((pt W W : Nat) : Int))) (b := false) (et_test (ev_rI0 (ev_rI0 (ev_var rfl) ev_c) (ev_var rfl))) fun hlt => ?_) (by simp)) (fun z => by cases z) (fun _ H15 e15 => ?_)
      · have hlt' := of_decide_eq_true hlt
        refine et_is (et_not (et_test (ev_opP (z := .bl true) (ev_var rfl) (evP_parting_of (a := c + 1) (ea_cons (ev_var rfl) (ea_cons (ev_is (ev_rI0 (ev_var rfl) ev_c) rfl) ea_nil)) hW (by omega)) fun w H15 e15 hw => ?_))) rfl
        obtain ⟨g, gs, rfl, _, hg, hgs⟩ := hw
        have hl : fs < gs := (nbr_order f1 hgs.1 (f2.trans hgs.2.1.symm)).1.mpr (by rw [f3, hgs.2.2]; omega)
        have := rv_ltL (K := K) (Ll.sq ((e14.trans e15) _ _ hf)) (Ll.sq hg)
        rw [decide_eq_true hl] at this
        exact this
      · refine q_when (et_test (ev_opUU (eu_call (ea_cons (ev_var rfl) (ea_cons (ev_var rfl) ea_nil)) (spu_told hW (Nat.le_refl _))) (eu_tup (ea_cons ev_c (ea_cons ev_c ea_nil)) (by show 2 ≤ 100000; decide)) fun t u H7 ht hu e7 => rv_neTT ht hu (by decide +kernel) (by decide +kernel))) (fun z => by cases z) (fun _ H16 e16 => ?_)
        obtain ⟨S, hS9, hSe⟩ : ∃ S : Nat, S ≤ 9 ∧ m / 41 % 10 = (S : Int) := ⟨(m / 41 % 10).toNat, by omega, by omega⟩
        exact s_ret (ev_call (ea_cons (ev_is (ev_rI (ev_rI (ev_var rfl) ev_c ⟨by decide, by decide⟩) ev_c (by decide)) (by rw [hSe])) ea_nil) (spv_order hS9)) fun H17 e17 => q _
end
theorem all_mk {l : PySem.W.OpenLaw} {w : World} {K : PySem.W.Frag} {h : Heap} {mg : Str → Option Value} {fa : Addr} (X : K.In h) (G : h.Ns mainGlobals mg) (hfa : mg "law" = some (.ref fa))
    {f1 : Addr} {od1 an1 : Option Addr} {sl1 : Array (Option Value)} {oc1 kV1 dc1 pm1 cd1 ct1 : Value}
    {f2 : Addr} {od2 an2 : Option Addr} {sl2 : Array (Option Value)} {oc2 kV2 dc2 pm2 cd2 ct2 : Value}
    {f3 : Addr} {od3 an3 : Option Addr} {sl3 : Array (Option Value)} {oc3 kV3 dc3 pm3 cd3 ct3 : Value}
    {f4 : Addr} {od4 an4 : Option Addr} {sl4 : Array (Option Value)} {oc4 kV4 dc4 pm4 cd4 ct4 : Value}
    {f5 : Addr} {od5 an5 : Option Addr} {sl5 : Array (Option Value)} {oc5 kV5 dc5 pm5 cd5 ct5 : Value}
    {t5 : Addr} {tc5 : Value} {td5 : Option Addr} {tn5 : Nat} {ts5 : Array (Option Value)}
    {f6 : Addr} {od6 an6 : Option Addr} {sl6 : Array (Option Value)} {oc6 kV6 dc6 pm6 cd6 ct6 : Value}
    {f7 : Addr} {od7 an7 : Option Addr} {sl7 : Array (Option Value)} {oc7 kV7 dc7 pm7 cd7 ct7 : Value}
    {f8 : Addr} {od8 an8 : Option Addr} {sl8 : Array (Option Value)} {oc8 kV8 dc8 pm8 cd8 ct8 : Value}
    {f9 : Addr} {od9 an9 : Option Addr} {sl9 : Array (Option Value)} {oc9 kV9 dc9 pm9 cd9 ct9 : Value}
    {f10 : Addr} {od10 an10 : Option Addr} {sl10 : Array (Option Value)} {oc10 kV10 dc10 pm10 cd10 ct10 : Value}
    {f11 : Addr} {od11 an11 : Option Addr} {sl11 : Array (Option Value)} {oc11 kV11 dc11 pm11 cd11 ct11 : Value}
    {f12 : Addr} {od12 an12 : Option Addr} {sl12 : Array (Option Value)} {oc12 kV12 dc12 pm12 cd12 ct12 : Value}
    {f13 : Addr} {od13 an13 : Option Addr} {sl13 : Array (Option Value)} {oc13 kV13 dc13 pm13 cd13 ct13 : Value}
    {f14 : Addr} {od14 an14 : Option Addr} {sl14 : Array (Option Value)} {oc14 kV14 dc14 pm14 cd14 ct14 : Value}
    {f15 : Addr} {od15 an15 : Option Addr} {sl15 : Array (Option Value)} {oc15 kV15 dc15 pm15 cd15 ct15 : Value}
    {f16 : Addr} {od16 an16 : Option Addr} {sl16 : Array (Option Value)} {oc16 kV16 dc16 pm16 cd16 ct16 : Value}
    {f17 : Addr} {od17 an17 : Option Addr} {sl17 : Array (Option Value)} {oc17 kV17 dc17 pm17 cd17 ct17 : Value}
    {f18 : Addr} {od18 an18 : Option Addr} {sl18 : Array (Option Value)} {oc18 kV18 dc18 pm18 cd18 ct18 : Value}
    {f19 : Addr} {od19 an19 : Option Addr} {sl19 : Array (Option Value)} {oc19 kV19 dc19 pm19 cd19 ct19 : Value}
    {f20 : Addr} {od20 an20 : Option Addr} {sl20 : Array (Option Value)} {oc20 kV20 dc20 pm20 cd20 ct20 : Value}
    {f21 : Addr} {od21 an21 : Option Addr} {sl21 : Array (Option Value)} {oc21 kV21 dc21 pm21 cd21 ct21 : Value}
    {f22 : Addr} {od22 an22 : Option Addr} {sl22 : Array (Option Value)} {oc22 kV22 dc22 pm22 cd22 ct22 : Value}
    {t_GREATEST_WHOLE : Tok}
    {C_NoFit : Addr}
    {C_NoNumber : Addr}
    {C_NoParting : Addr}
    {C_PartError : Addr}
    (a1 : PySem.W.nsIn K mainGlobals "is_number" = some (some (.ref f1)))
    (l1 : K.lookup f1 = some ⟨oc1, od1, .func (PySem.W.fnOf "is_number" "is_number" (defArgs s_is_number) (defBody s_is_number) (defScope s_is_number) .none kV1 dc1 pm1 an1 cd1 ct1), sl1⟩)
    (c1 : PySem.W.codeIn K cd1 "is_number" = true) (k1 : PySem.W.keepIn K (.ref f1) = true)
    (a2 : PySem.W.nsIn K mainGlobals "check_number" = some (some (.ref f2)))
    (l2 : K.lookup f2 = some ⟨oc2, od2, .func (PySem.W.fnOf "check_number" "check_number" (defArgs s_check_number) (defBody s_check_number) (defScope s_check_number) .none kV2 dc2 pm2 an2 cd2 ct2), sl2⟩)
    (c2 : PySem.W.codeIn K cd2 "check_number" = true) (k2 : PySem.W.keepIn K (.ref f2) = true)
    (a3 : PySem.W.nsIn K mainGlobals "is_parting" = some (some (.ref f3)))
    (l3 : K.lookup f3 = some ⟨oc3, od3, .func (PySem.W.fnOf "is_parting" "is_parting" (defArgs s_is_parting) (defBody s_is_parting) (defScope s_is_parting) .none kV3 dc3 pm3 an3 cd3 ct3), sl3⟩)
    (c3 : PySem.W.codeIn K cd3 "is_parting" = true) (k3 : PySem.W.keepIn K (.ref f3) = true)
    (a4 : PySem.W.nsIn K mainGlobals "check_parting" = some (some (.ref f4)))
    (l4 : K.lookup f4 = some ⟨oc4, od4, .func (PySem.W.fnOf "check_parting" "check_parting" (defArgs s_check_parting) (defBody s_check_parting) (defScope s_check_parting) .none kV4 dc4 pm4 an4 cd4 ct4), sl4⟩)
    (c4 : PySem.W.codeIn K cd4 "check_parting" = true) (k4 : PySem.W.keepIn K (.ref f4) = true)
    (a5 : PySem.W.nsIn K mainGlobals "how_many" = some (some (.ref f5)))
    (l5 : K.lookup f5 = some ⟨oc5, od5, .func (PySem.W.fnOf "how_many" "how_many" (defArgs s_how_many) (defBody s_how_many) (defScope s_how_many) (.ref t5) kV5 dc5 pm5 an5 cd5 ct5), sl5⟩)
    (m5 : K.lookup t5 = some ⟨tc5, td5, .seq #[.none] tn5, ts5⟩)
    (c5 : PySem.W.codeIn K cd5 "how_many" = true) (k5 : PySem.W.keepIn K (.ref f5) = true)
    (a6 : PySem.W.nsIn K mainGlobals "number_of" = some (some (.ref f6)))
    (l6 : K.lookup f6 = some ⟨oc6, od6, .func (PySem.W.fnOf "number_of" "number_of" (defArgs s_number_of) (defBody s_number_of) (defScope s_number_of) .none kV6 dc6 pm6 an6 cd6 ct6), sl6⟩)
    (c6 : PySem.W.codeIn K cd6 "number_of" = true) (k6 : PySem.W.keepIn K (.ref f6) = true)
    (a7 : PySem.W.nsIn K mainGlobals "parting_of" = some (some (.ref f7)))
    (l7 : K.lookup f7 = some ⟨oc7, od7, .func (PySem.W.fnOf "parting_of" "parting_of" (defArgs s_parting_of) (defBody s_parting_of) (defScope s_parting_of) .none kV7 dc7 pm7 an7 cd7 ct7), sl7⟩)
    (c7 : PySem.W.codeIn K cd7 "parting_of" = true) (k7 : PySem.W.keepIn K (.ref f7) = true)
    (a8 : PySem.W.nsIn K mainGlobals "_check_whole" = some (some (.ref f8)))
    (l8 : K.lookup f8 = some ⟨oc8, od8, .func (PySem.W.fnOf "_check_whole" "_check_whole" (defArgs s_check_whole) (defBody s_check_whole) (defScope s_check_whole) .none kV8 dc8 pm8 an8 cd8 ct8), sl8⟩)
    (c8 : PySem.W.codeIn K cd8 "_check_whole" = true) (k8 : PySem.W.keepIn K (.ref f8) = true)
    (a9 : PySem.W.nsIn K mainGlobals "_count_rows" = some (some (.ref f9)))
    (l9 : K.lookup f9 = some ⟨oc9, od9, .func (PySem.W.fnOf "_count_rows" "_count_rows" (defArgs s_count_rows) (defBody s_count_rows) (defScope s_count_rows) .none kV9 dc9 pm9 an9 cd9 ct9), sl9⟩)
    (c9 : PySem.W.codeIn K cd9 "_count_rows" = true) (k9 : PySem.W.keepIn K (.ref f9) = true)
    (a10 : PySem.W.nsIn K mainGlobals "_first_part" = some (some (.ref f10)))
    (l10 : K.lookup f10 = some ⟨oc10, od10, .func (PySem.W.fnOf "_first_part" "_first_part" (defArgs s_first_part) (defBody s_first_part) (defScope s_first_part) .none kV10 dc10 pm10 an10 cd10 ct10), sl10⟩)
    (c10 : PySem.W.codeIn K cd10 "_first_part" = true) (k10 : PySem.W.keepIn K (.ref f10) = true)
    (a11 : PySem.W.nsIn K mainGlobals "_law_mixed" = some (some (.ref f11)))
    (l11 : K.lookup f11 = some ⟨oc11, od11, .func (PySem.W.fnOf "_law_mixed" "_law_mixed" (defArgs s_law_mixed) (defBody s_law_mixed) (defScope s_law_mixed) .none kV11 dc11 pm11 an11 cd11 ct11), sl11⟩)
    (c11 : PySem.W.codeIn K cd11 "_law_mixed" = true) (k11 : PySem.W.keepIn K (.ref f11) = true)
    (a12 : PySem.W.nsIn K mainGlobals "_law_number" = some (some (.ref f12)))
    (l12 : K.lookup f12 = some ⟨oc12, od12, .func (PySem.W.fnOf "_law_number" "_law_number" (defArgs s_law_number) (defBody s_law_number) (defScope s_law_number) .none kV12 dc12 pm12 an12 cd12 ct12), sl12⟩)
    (c12 : PySem.W.codeIn K cd12 "_law_number" = true) (k12 : PySem.W.keepIn K (.ref f12) = true)
    (a13 : PySem.W.nsIn K mainGlobals "_law_parting_by" = some (some (.ref f13)))
    (l13 : K.lookup f13 = some ⟨oc13, od13, .func (PySem.W.fnOf "_law_parting_by" "_law_parting_by" (defArgs s_law_parting_by) (defBody s_law_parting_by) (defScope s_law_parting_by) .none kV13 dc13 pm13 an13 cd13 ct13), sl13⟩)
    (c13 : PySem.W.codeIn K cd13 "_law_parting_by" = true) (k13 : PySem.W.keepIn K (.ref f13) = true)
    (a14 : PySem.W.nsIn K mainGlobals "_law_counts" = some (some (.ref f14)))
    (l14 : K.lookup f14 = some ⟨oc14, od14, .func (PySem.W.fnOf "_law_counts" "_law_counts" (defArgs s_law_counts) (defBody s_law_counts) (defScope s_law_counts) .none kV14 dc14 pm14 an14 cd14 ct14), sl14⟩)
    (c14 : PySem.W.codeIn K cd14 "_law_counts" = true) (k14 : PySem.W.keepIn K (.ref f14) = true)
    (a15 : PySem.W.nsIn K mainGlobals "_law_is_row" = some (some (.ref f15)))
    (l15 : K.lookup f15 = some ⟨oc15, od15, .func (PySem.W.fnOf "_law_is_row" "_law_is_row" (defArgs s_law_is_row) (defBody s_law_is_row) (defScope s_law_is_row) .none kV15 dc15 pm15 an15 cd15 ct15), sl15⟩)
    (c15 : PySem.W.codeIn K cd15 "_law_is_row" = true) (k15 : PySem.W.keepIn K (.ref f15) = true)
    (a16 : PySem.W.nsIn K mainGlobals "_law_is_stair" = some (some (.ref f16)))
    (l16 : K.lookup f16 = some ⟨oc16, od16, .func (PySem.W.fnOf "_law_is_stair" "_law_is_stair" (defArgs s_law_is_stair) (defBody s_law_is_stair) (defScope s_law_is_stair) .none kV16 dc16 pm16 an16 cd16 ct16), sl16⟩)
    (c16 : PySem.W.codeIn K cd16 "_law_is_stair" = true) (k16 : PySem.W.keepIn K (.ref f16) = true)
    (a17 : PySem.W.nsIn K mainGlobals "_law_name" = some (some (.ref f17)))
    (l17 : K.lookup f17 = some ⟨oc17, od17, .func (PySem.W.fnOf "_law_name" "_law_name" (defArgs s_law_name) (defBody s_law_name) (defScope s_law_name) .none kV17 dc17 pm17 an17 cd17 ct17), sl17⟩)
    (c17 : PySem.W.codeIn K cd17 "_law_name" = true) (k17 : PySem.W.keepIn K (.ref f17) = true)
    (a18 : PySem.W.nsIn K mainGlobals "_law_to" = some (some (.ref f18)))
    (l18 : K.lookup f18 = some ⟨oc18, od18, .func (PySem.W.fnOf "_law_to" "_law_to" (defArgs s_law_to) (defBody s_law_to) (defScope s_law_to) .none kV18 dc18 pm18 an18 cd18 ct18), sl18⟩)
    (c18 : PySem.W.codeIn K cd18 "_law_to" = true) (k18 : PySem.W.keepIn K (.ref f18) = true)
    (a19 : PySem.W.nsIn K mainGlobals "_law_ahead" = some (some (.ref f19)))
    (l19 : K.lookup f19 = some ⟨oc19, od19, .func (PySem.W.fnOf "_law_ahead" "_law_ahead" (defArgs s_law_ahead) (defBody s_law_ahead) (defScope s_law_ahead) .none kV19 dc19 pm19 an19 cd19 ct19), sl19⟩)
    (c19 : PySem.W.codeIn K cd19 "_law_ahead" = true) (k19 : PySem.W.keepIn K (.ref f19) = true)
    (a20 : PySem.W.nsIn K mainGlobals "_law_told" = some (some (.ref f20)))
    (l20 : K.lookup f20 = some ⟨oc20, od20, .func (PySem.W.fnOf "_law_told" "_law_told" (defArgs s_law_told) (defBody s_law_told) (defScope s_law_told) .none kV20 dc20 pm20 an20 cd20 ct20), sl20⟩)
    (c20 : PySem.W.codeIn K cd20 "_law_told" = true) (k20 : PySem.W.keepIn K (.ref f20) = true)
    (a21 : PySem.W.nsIn K mainGlobals "_law_order_right" = some (some (.ref f21)))
    (l21 : K.lookup f21 = some ⟨oc21, od21, .func (PySem.W.fnOf "_law_order_right" "_law_order_right" (defArgs s_law_order_right) (defBody s_law_order_right) (defScope s_law_order_right) .none kV21 dc21 pm21 an21 cd21 ct21), sl21⟩)
    (c21 : PySem.W.codeIn K cd21 "_law_order_right" = true) (k21 : PySem.W.keepIn K (.ref f21) = true)
    (a22 : PySem.W.nsIn K mainGlobals "law" = some (some (.ref f22)))
    (l22 : K.lookup f22 = some ⟨oc22, od22, .func (PySem.W.fnOf "law" "law" (defArgs s_law) (defBody s_law) (defScope s_law) .none kV22 dc22 pm22 an22 cd22 ct22), sl22⟩)
    (c22 : PySem.W.codeIn K cd22 "law" = true) (k22 : PySem.W.keepIn K (.ref f22) = true)
    (z_ValueError : PySem.W.nsIn K mainGlobals "ValueError" = some none)
    (z_all : PySem.W.nsIn K mainGlobals "all" = some none)
    (z_bool : PySem.W.nsIn K mainGlobals "bool" = some none)
    (z_int : PySem.W.nsIn K mainGlobals "int" = some none)
    (z_isinstance : PySem.W.nsIn K mainGlobals "isinstance" = some none)
    (z_len : PySem.W.nsIn K mainGlobals "len" = some none)
    (z_list : PySem.W.nsIn K mainGlobals "list" = some none)
    (z_max : PySem.W.nsIn K mainGlobals "max" = some none)
    (z_min : PySem.W.nsIn K mainGlobals "min" = some none)
    (z_range : PySem.W.nsIn K mainGlobals "range" = some none)
    (z_sorted : PySem.W.nsIn K mainGlobals "sorted" = some none)
    (z_sum : PySem.W.nsIn K mainGlobals "sum" = some none)
    (v_GREATEST_WHOLE : PySem.W.nsIn K mainGlobals "GREATEST_WHOLE" = some (some (.int 200 t_GREATEST_WHOLE)))
    (g_NoFit : PySem.W.nsIn K mainGlobals "NoFit" = some (some (.ref C_NoFit)))
    (g_NoNumber : PySem.W.nsIn K mainGlobals "NoNumber" = some (some (.ref C_NoNumber)))
    (g_NoParting : PySem.W.nsIn K mainGlobals "NoParting" = some (some (.ref C_NoParting)))
    (g_PartError : PySem.W.nsIn K mainGlobals "PartError" = some (some (.ref C_PartError)))
    (x_NoNumber : PySem.W.excIn K C_NoNumber [.type "ValueError", .type "Exception", .type "BaseException", .type "object"] "ValueError.__new__" = true)
    (k_NoNumber : PySem.W.keepIn K (.ref C_NoNumber) = true)
    (s_NoNumber : PySem.W.subIn K (.ref C_NoNumber) (.type "BaseException") = some true)
    (t_NoNumber : PySem.W.typeIn K (.ref C_NoNumber) = some (.type "type"))
    (ehg_NoNumber : PySem.W.findIn K (.ref C_NoNumber) "__getattribute__" = some (some (.builtin "BaseException.__getattribute__")))
    (ehk_NoNumber : PySem.W.findIn K (.ref C_NoNumber) "__getattr__" = some none)
    (ehd_NoNumber : PySem.W.hasDictIn K C_NoNumber = true)
    (eha_NoNumber : PySem.W.findIn K (.ref C_NoNumber) "__class__" = some (some (.builtin "object.__class__")))
    (ehm_NoNumber : PySem.W.mroIn K C_NoNumber (.type "object") = some true)
    (e_hn : PySem.W.specialIn K (.builtin "object.__class__") "__get__" = some (some (.builtin "getset_descriptor.__get__")))
    (e_ht : PySem.W.takesIn K (.builtin "object.__class__") = some true)
    (ns_PartError : PySem.W.subIn K (.ref C_PartError) (.type "BaseException") = some true)
    (nd_PartError : PySem.W.hasDictIn K C_PartError = true)
    (nt_PartError : PySem.W.typeIn K (.ref C_PartError) = some (.type "type"))
    (ns_NoParting : PySem.W.subIn K (.ref C_NoParting) (.type "BaseException") = some true)
    (nd_NoParting : PySem.W.hasDictIn K C_NoParting = true)
    (nt_NoParting : PySem.W.typeIn K (.ref C_NoParting) = some (.type "type"))
    (ns_NoFit : PySem.W.subIn K (.ref C_NoFit) (.type "BaseException") = some true)
    (nd_NoFit : PySem.W.hasDictIn K C_NoFit = true)
    (nt_NoFit : PySem.W.typeIn K (.ref C_NoFit) = some (.type "type"))
    (m_NoNumber_PartError : PySem.W.subIn K (.ref C_NoNumber) (.ref C_PartError) = some true)
    (q_NoNumber_NoParting : PySem.W.subIn K (.ref C_NoNumber) (.ref C_NoParting) = some false)
    (u_NoNumber_NoParting : (Value.ref C_NoNumber == Value.ref C_NoParting) = false)
    (q_NoNumber_NoFit : PySem.W.subIn K (.ref C_NoNumber) (.ref C_NoFit) = some false)
    (u_NoNumber_NoFit : (Value.ref C_NoNumber == Value.ref C_NoFit) = false)
    (q_NoNumber_ValueError : PySem.W.subIn K (.ref C_NoNumber) (.type "ValueError") = some true)
    : ∃ fd : FuncData, (∀ (s : Shared) (v : Value), BindsTo s fd ⟨[v], []⟩ [("_law_script", v)]) ∧ ∀ base : Heap, K.In base → base.Ns mainGlobals mg → FnOk l.prog w K mg base CX0 8 fa fd ["_law_script"] (sp_law K) := by
  have e := hfa.symm.trans (PySem.W.mg_of X G a22)
  cases e
  have F1 := fun_mk (st := s_is_number) l1 c1 k1
  have b1 := F1.binds (ps := ["thing"]) fun _ _ _ _ _ _ us hl => match us, hl with | [_], _ => rfl
  have F2 := fun_mk (st := s_check_number) l2 c2 k2
  have b2 := F2.binds (ps := ["thing"]) fun _ _ _ _ _ _ us hl => match us, hl with | [_], _ => rfl
  have F3 := fun_mk (st := s_is_parting) l3 c3 k3
  have b3 := F3.binds (ps := ["thing"]) fun _ _ _ _ _ _ us hl => match us, hl with | [_], _ => rfl
  have F4 := fun_mk (st := s_check_parting) l4 c4 k4
  have b4 := F4.binds (ps := ["thing"]) fun _ _ _ _ _ _ us hl => match us, hl with | [_], _ => rfl
  have F5 : FunD K "how_many" "how_many" (defArgs s_how_many) (defBody s_how_many) (defScope s_how_many) [.non] [] f5 _ := ⟨⟨oc5, od5, .ref t5, kV5, dc5, pm5, an5, cd5, ct5, sl5, rfl, l5, c5, .inr ⟨by simp, t5, _, [.none], tn5, rfl, m5, rfl, .cons rfl .nil⟩, .inl rfl⟩, k5⟩
  obtain ⟨vz5, wz5, bz5⟩ := F5.binds1 (ps := ["whole", "most"]) 2 1 (by simp) rfl fun T kV doc pm an cdv ct us its h1 h2 => match us, its, h1, h2 with | [_, _], [_], _, _ => ⟨_, rfl, rfl⟩
  cases wz5
  obtain ⟨vy5, wy5, by5⟩ := F5.binds1 (ps := ["whole", "most"]) 1 0 (by simp) rfl fun T kV doc pm an cdv ct us its h1 h2 => match us, its, h1, h2 with | [_], [_], _, _ => ⟨_, rfl, rfl⟩
  have F6 := fun_mk (st := s_number_of) l6 c6 k6
  have b6 := F6.binds (ps := ["parting"]) fun _ _ _ _ _ _ us hl => match us, hl with | [_], _ => rfl
  have F7 := fun_mk (st := s_parting_of) l7 c7 k7
  have b7 := F7.binds (ps := ["whole", "number"]) fun _ _ _ _ _ _ us hl => match us, hl with | [_, _], _ => rfl
  have F8 := fun_mk (st := s_check_whole) l8 c8 k8
  have b8 := F8.binds (ps := ["thing"]) fun _ _ _ _ _ _ us hl => match us, hl with | [_], _ => rfl
  have F9 := fun_mk (st := s_count_rows) l9 c9 k9
  have b9 := F9.binds (ps := ["whole", "greatest"]) fun _ _ _ _ _ _ us hl => match us, hl with | [_, _], _ => rfl
  have F10 := fun_mk (st := s_first_part) l10 c10 k10
  have b10 := F10.binds (ps := ["rows", "whole", "number"]) fun _ _ _ _ _ _ us hl => match us, hl with | [_, _, _], _ => rfl
  have F11 := fun_mk (st := s_law_mixed) l11 c11 k11
  have b11 := F11.binds (ps := ["_law_number_here", "_law_k"]) fun _ _ _ _ _ _ us hl => match us, hl with | [_, _], _ => rfl
  have F12 := fun_mk (st := s_law_number) l12 c12 k12
  have b12 := F12.binds (ps := ["_law_script", "_law_k"]) fun _ _ _ _ _ _ us hl => match us, hl with | [_, _], _ => rfl
  have F13 := fun_mk (st := s_law_parting_by) l13 c13 k13
  have b13 := F13.binds (ps := ["_law_script", "_law_first"]) fun _ _ _ _ _ _ us hl => match us, hl with | [_, _], _ => rfl
  have F14 := fun_mk (st := s_law_counts) l14 c14 k14
  have b14 := F14.binds (ps := ["_law_whole"]) fun _ _ _ _ _ _ us hl => match us, hl with | [_], _ => rfl
  have F15 := fun_mk (st := s_law_is_row) l15 c15 k15
  have b15 := F15.binds (ps := ["_law_found", "_law_due"]) fun _ _ _ _ _ _ us hl => match us, hl with | [_, _], _ => rfl
  have F16 := fun_mk (st := s_law_is_stair) l16 c16 k16
  have b16 := F16.binds (ps := ["_law_thing"]) fun _ _ _ _ _ _ us hl => match us, hl with | [_], _ => rfl
  have F17 := fun_mk (st := s_law_name) l17 c17 k17
  have b17 := F17.binds (ps := ["_law_error"]) fun _ _ _ _ _ _ us hl => match us, hl with | [_], _ => rfl
  have F18 := fun_mk (st := s_law_to) l18 c18 k18
  have b18 := F18.binds (ps := ["_law_parting", "_law_most"]) fun _ _ _ _ _ _ us hl => match us, hl with | [_, _], _ => rfl
  have F19 := fun_mk (st := s_law_ahead) l19 c19 k19
  have b19 := F19.binds (ps := ["_law_parting"]) fun _ _ _ _ _ _ us hl => match us, hl with | [_], _ => rfl
  have F20 := fun_mk (st := s_law_told) l20 c20 k20
  have b20 := F20.binds (ps := ["_law_whole", "_law_number_here"]) fun _ _ _ _ _ _ us hl => match us, hl with | [_, _], _ => rfl
  have F21 := fun_mk (st := s_law_order_right) l21 c21 k21
  have b21 := F21.binds (ps := ["_law_whole"]) fun _ _ _ _ _ _ us hl => match us, hl with | [_], _ => rfl
  have F22 := fun_mk (st := s_law) l22 c22 k22
  have b22 := F22.binds (ps := ["_law_script"]) fun _ _ _ _ _ _ us hl => match us, hl with | [_], _ => rfl
  let T : Tx K mg := { a_is_number := f1, d_is_number := _, F_is_number := F1, b_is_number := b1, g_is_number := PySem.W.mg_of X G a1, a_check_number := f2, d_check_number := _, F_check_number := F2, b_check_number := b2, g_check_number := PySem.W.mg_of X G a2, a_is_parting := f3, d_is_parting := _, F_is_parting := F3, b_is_parting := b3, g_is_parting := PySem.W.mg_of X G a3, a_check_parting := f4, d_check_parting := _, F_check_parting := F4, b_check_parting := b4, g_check_parting := PySem.W.mg_of X G a4, a_how_many := f5, d_how_many := _, F_how_many := F5, b_how_many := bz5, v_how_many := vy5, w_how_many := wy5, b1_how_many := by5, g_how_many := PySem.W.mg_of X G a5, a_number_of := f6, d_number_of := _, F_number_of := F6, b_number_of := b6, g_number_of := PySem.W.mg_of X G a6, a_parting_of := f7, d_parting_of := _, F_parting_of := F7, b_parting_of := b7, g_parting_of := PySem.W.mg_of X G a7, a_check_whole := f8, d_check_whole := _, F_check_whole := F8, b_check_whole := b8, g_check_whole := PySem.W.mg_of X G a8, a_count_rows := f9, d_count_rows := _, F_count_rows := F9, b_count_rows := b9, g_count_rows := PySem.W.mg_of X G a9, a_first_part := f10, d_first_part := _, F_first_part := F10, b_first_part := b10, g_first_part := PySem.W.mg_of X G a10, a_law_mixed := f11, d_law_mixed := _, F_law_mixed := F11, b_law_mixed := b11, g_law_mixed := PySem.W.mg_of X G a11, a_law_number := f12, d_law_number := _, F_law_number := F12, b_law_number := b12, g_law_number := PySem.W.mg_of X G a12, a_law_parting_by := f13, d_law_parting_by := _, F_law_parting_by := F13, b_law_parting_by := b13, g_law_parting_by := PySem.W.mg_of X G a13, a_law_counts := f14, d_law_counts := _, F_law_counts := F14, b_law_counts := b14, g_law_counts := PySem.W.mg_of X G a14, a_law_is_row := f15, d_law_is_row := _, F_law_is_row := F15, b_law_is_row := b15, g_law_is_row := PySem.W.mg_of X G a15, a_law_is_stair := f16, d_law_is_stair := _, F_law_is_stair := F16, b_law_is_stair := b16, g_law_is_stair := PySem.W.mg_of X G a16, a_law_name := f17, d_law_name := _, F_law_name := F17, b_law_name := b17, g_law_name := PySem.W.mg_of X G a17, a_law_to := f18, d_law_to := _, F_law_to := F18, b_law_to := b18, g_law_to := PySem.W.mg_of X G a18, a_law_ahead := f19, d_law_ahead := _, F_law_ahead := F19, b_law_ahead := b19, g_law_ahead := PySem.W.mg_of X G a19, a_law_told := f20, d_law_told := _, F_law_told := F20, b_law_told := b20, g_law_told := PySem.W.mg_of X G a20, a_law_order_right := f21, d_law_order_right := _, F_law_order_right := F21, b_law_order_right := b21, g_law_order_right := PySem.W.mg_of X G a21, a_law := fa, d_law := _, F_law := F22, b_law := b22, g_law := PySem.W.mg_of X G a22, n_ValueError := PySem.W.mg_none_of X G z_ValueError, n_all := PySem.W.mg_none_of X G z_all, n_bool := PySem.W.mg_none_of X G z_bool, n_int := PySem.W.mg_none_of X G z_int, n_isinstance := PySem.W.mg_none_of X G z_isinstance, n_len := PySem.W.mg_none_of X G z_len, n_list := PySem.W.mg_none_of X G z_list, n_max := PySem.W.mg_none_of X G z_max, n_min := PySem.W.mg_none_of X G z_min, n_range := PySem.W.mg_none_of X G z_range, n_sorted := PySem.W.mg_none_of X G z_sorted, n_sum := PySem.W.mg_none_of X G z_sum, u_GREATEST_WHOLE := _, c_GREATEST_WHOLE := PySem.W.mg_of X G v_GREATEST_WHOLE, r_GREATEST_WHOLE := ⟨_, rfl⟩, C_NoFit := C_NoFit, g_NoFit := PySem.W.mg_of X G g_NoFit, C_NoNumber := C_NoNumber, g_NoNumber := PySem.W.mg_of X G g_NoNumber, C_NoParting := C_NoParting, g_NoParting := PySem.W.mg_of X G g_NoParting, C_PartError := C_PartError, g_PartError := PySem.W.mg_of X G g_PartError, x_NoNumber := x_NoNumber, k_NoNumber := k_NoNumber, s_NoNumber := s_NoNumber, t_NoNumber := t_NoNumber, e_NoNumber := ⟨ehg_NoNumber, ehk_NoNumber, s_NoNumber, ehd_NoNumber, eha_NoNumber, e_hn, e_ht, ehm_NoNumber⟩, m_NoNumber_PartError := PySem.W.exm_ref ns_PartError nd_PartError nt_PartError m_NoNumber_PartError, q_NoNumber_NoParting := kit_own u_NoNumber_NoParting nd_NoParting nt_NoParting q_NoNumber_NoParting, q_NoNumber_NoFit := kit_own u_NoNumber_NoFit nd_NoFit nt_NoFit q_NoNumber_NoFit, q_NoNumber_NoNumber := kit_same, q_NoNumber_ValueError := kit_built (by decide +kernel) q_NoNumber_ValueError }
  exact ⟨PySem.W.fnOf "law" "law" (defArgs s_law) (defBody s_law) (defScope s_law) .none kV22 dc22 pm22 an22 cd22 ct22, fun s v => .of_eq rfl, fun base _ _ => ok_law T⟩
end K11
open PySem PySem.W PyProof.Rows
set_option maxHeartbeats 0 in
theorem PySem.Challenge.cw_stairparts_k11_whole_numbered_holds : PySem.Challenge.rw_stairparts_k11_whole_numbered.Holds := by
  w_on; o_law; k_head; (case hw => w_witness2)
  k_fill
  refine L2.walk_of (l := PySem.Challenge.rw_stairparts_k11_whole_numbered) (n := 63) (k := 8) (x := "_law_script") (CX := fun _ => L2.CX0) (sp := fun w => K11.sp_law _) rfl (by decide) rfl ⟨rfl, by decide, by decide⟩ (fun w h Y => PySem.W.kIn_of Y) ?F (fun _ _ a ns hl _ hS => ⟨a, ns, rfl, hS, hl, fun _ => rfl⟩) (fun _ _ _ _ _ h => h)
  case F =>
    intro w mg fa h KX G hmg
    refine' K11.all_mk KX G hmg ?a1 ?l1 ?c1 ?k1 ?a2 ?l2 ?c2 ?k2 ?a3 ?l3 ?c3 ?k3 ?a4 ?l4 ?c4 ?k4 ?a5 ?l5 ?m5 ?c5 ?k5 ?a6 ?l6 ?c6 ?k6 ?a7 ?l7 ?c7 ?k7 ?a8 ?l8 ?c8 ?k8 ?a9 ?l9 ?c9 ?k9 ?a10 ?l10 ?c10 ?k10 ?a11 ?l11 ?c11 ?k11 ?a12 ?l12 ?c12 ?k12 ?a13 ?l13 ?c13 ?k13 ?a14 ?l14 ?c14 ?k14 ?a15 ?l15 ?c15 ?k15 ?a16 ?l16 ?c16 ?k16 ?a17 ?l17 ?c17 ?k17 ?a18 ?l18 ?c18 ?k18 ?a19 ?l19 ?c19 ?k19 ?a20 ?l20 ?c20 ?k20 ?a21 ?l21 ?c21 ?k21 ?a22 ?l22 ?c22 ?k22 ?z_ValueError ?z_all ?z_bool ?z_int ?z_isinstance ?z_len ?z_list ?z_max ?z_min ?z_range ?z_sorted ?z_sum ?v_GREATEST_WHOLE ?g_NoFit ?g_NoNumber ?g_NoParting ?g_PartError ?x_NoNumber ?k_NoNumber ?s_NoNumber ?t_NoNumber ?ehg_NoNumber ?ehk_NoNumber ?ehd_NoNumber ?eha_NoNumber ?ehm_NoNumber ?e_hn ?e_ht ?ns_PartError ?nd_PartError ?nt_PartError ?ns_NoParting ?nd_NoParting ?nt_NoParting ?ns_NoFit ?nd_NoFit ?nt_NoFit ?m_NoNumber_PartError ?q_NoNumber_NoParting ?u_NoNumber_NoParting ?q_NoNumber_NoFit ?u_NoNumber_NoFit ?q_NoNumber_ValueError
    (case a1 => k_is); (case l1 => k_is); (case c1 => k_is); (case k1 => k_is)
    (case a2 => k_is); (case l2 => k_is); (case c2 => k_is); (case k2 => k_is)
    (case a3 => k_is); (case l3 => k_is); (case c3 => k_is); (case k3 => k_is)
    (case a4 => k_is); (case l4 => k_is); (case c4 => k_is); (case k4 => k_is)
    (case a5 => k_is); (case l5 => k_is); (case m5 => k_is); (case c5 => k_is)
    (case k5 => k_is); (case a6 => k_is); (case l6 => k_is); (case c6 => k_is)
    (case k6 => k_is); (case a7 => k_is); (case l7 => k_is); (case c7 => k_is)
    (case k7 => k_is); (case a8 => k_is); (case l8 => k_is); (case c8 => k_is)
    (case k8 => k_is); (case a9 => k_is); (case l9 => k_is); (case c9 => k_is)
    (case k9 => k_is); (case a10 => k_is); (case l10 => k_is); (case c10 => k_is)
    (case k10 => k_is); (case a11 => k_is); (case l11 => k_is); (case c11 => k_is)
    (case k11 => k_is); (case a12 => k_is); (case l12 => k_is); (case c12 => k_is)
    (case k12 => k_is); (case a13 => k_is); (case l13 => k_is); (case c13 => k_is)
    (case k13 => k_is); (case a14 => k_is); (case l14 => k_is); (case c14 => k_is)
    (case k14 => k_is); (case a15 => k_is); (case l15 => k_is); (case c15 => k_is)
    (case k15 => k_is); (case a16 => k_is); (case l16 => k_is); (case c16 => k_is)
    (case k16 => k_is); (case a17 => k_is); (case l17 => k_is); (case c17 => k_is)
    (case k17 => k_is); (case a18 => k_is); (case l18 => k_is); (case c18 => k_is)
    (case k18 => k_is); (case a19 => k_is); (case l19 => k_is); (case c19 => k_is)
    (case k19 => k_is); (case a20 => k_is); (case l20 => k_is); (case c20 => k_is)
    (case k20 => k_is); (case a21 => k_is); (case l21 => k_is); (case c21 => k_is)
    (case k21 => k_is); (case a22 => k_is); (case l22 => k_is); (case c22 => k_is)
    (case k22 => k_is); (case z_ValueError => k_is); (case z_all => k_is); (case z_bool => k_is)
    (case z_int => k_is); (case z_isinstance => k_is); (case z_len => k_is); (case z_list => k_is)
    (case z_max => k_is); (case z_min => k_is); (case z_range => k_is); (case z_sorted => k_is)
    (case z_sum => k_is); (case v_GREATEST_WHOLE => k_is); (case g_NoFit => k_is); (case g_NoNumber => k_is)
    (case g_NoParting => k_is); (case g_PartError => k_is); (case x_NoNumber => k_exc); (case k_NoNumber => k_is)
    (case s_NoNumber => k_is); (case t_NoNumber => k_is); (case ehg_NoNumber => k_is); (case ehk_NoNumber => k_is)
    (case ehd_NoNumber => k_is); (case eha_NoNumber => k_is); (case ehm_NoNumber => k_is); (case e_hn => k_is)
    (case e_ht => k_is); (case ns_PartError => k_is); (case nd_PartError => k_is); (case nt_PartError => k_is)
    (case ns_NoParting => k_is); (case nd_NoParting => k_is); (case nt_NoParting => k_is); (case ns_NoFit => k_is)
    (case nd_NoFit => k_is); (case nt_NoFit => k_is); (case m_NoNumber_PartError => first | rfl | k_is); (case q_NoNumber_NoParting => k_is)
    (case u_NoNumber_NoParting => first | rfl | decide +kernel); (case q_NoNumber_NoFit => k_is); (case u_NoNumber_NoFit => first | rfl | decide +kernel); (case q_NoNumber_ValueError => k_is)
